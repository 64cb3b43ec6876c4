"""Searches for places of stores.

What is handed in has the form that objectives.py tells; the places that are found are listed
in increasing order. Of several that are equally good, min and max take the first. All sets are
gone through in the order of their numbers, so that the first is the one that ties go to.
"""

from nearstores.objectives import (
    greatest_distance,
    greatest_distance_with,
    places_with_people,
    store_distance,
)
from nearstores.placesets import all_sets


def best_set(distances, people, size, objective):
    """Give the set of so many places with the smallest objective; the network is connected."""
    candidates = [places for places in all_sets(len(people)) if len(places) == size]
    return min(candidates, key=lambda places: objective(distances, people, places))


def is_within(distance, radius):
    """Tell whether the distance is defined and at most the radius."""
    return distance is not None and distance <= radius


def smallest_cover(distances, people, radius):
    """Give the smallest set that has all people within the radius."""
    covers = []
    for places in all_sets(len(people)):
        if is_within(greatest_distance(distances, people, places), radius):
            covers.append(places)
    return min(covers, key=len)


def farthest_place(distances, chosen, candidates):
    """Give the candidate that is farthest from those chosen, or the first if none is chosen."""
    if len(chosen) == 0:
        return candidates[0]
    return max(candidates, key=lambda place: store_distance(distances, chosen, place))


def farthest_first(distances, people, size):
    """Give the farthest-first set of at most so many places; the network is connected."""
    chosen = []
    candidates = places_with_people(people)
    while len(chosen) < size and len(candidates) > 0:
        added = farthest_place(distances, chosen, candidates)
        chosen = sorted(chosen + [added])
        candidates = [place for place in candidates if place != added]
    return chosen


def undefined_last(distance):
    """Give a key that puts an undefined distance behind all others."""
    if distance is None:
        return (1, 0)
    return (0, distance)


def best_additional_store(distances, people, stores):
    """Give the place without a store where one more makes the greatest distance smallest."""
    candidates = [place for place in range(len(people)) if place not in stores]
    return min(
        candidates,
        key=lambda place: undefined_last(greatest_distance_with(distances, people, stores, place)),
    )


def places_within(distances, stores, radius):
    """List the places that have a store within the radius."""
    found = []
    for place in range(len(distances)):
        if is_within(store_distance(distances, stores, place), radius):
            found.append(place)
    return found
