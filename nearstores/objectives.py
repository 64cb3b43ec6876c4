"""How far people are from stores.

Distances are the rows of shortest_distances, people are listed by place, and stores are
a list of places in increasing order. An undefined distance is None.
"""


def farther(one, other):
    """Give the greater of two distances; it is undefined if one of them is."""
    if one is None or other is None:
        return None
    return max(one, other)


def nearest_store(distances, stores, place):
    """Give the nearest store of the place, or None if no store can be reached."""
    reached = [store for store in stores if distances[place][store] is not None]
    # Of several that are equally near, min takes the first: the smallest number.
    return min(reached, key=lambda store: distances[place][store], default=None)


def store_distance(distances, stores, place):
    """Give the distance of the place from its nearest store."""
    nearest = nearest_store(distances, stores, place)
    if nearest is None:
        return None
    return distances[place][nearest]


def places_with_people(people):
    """List the places that count for the objectives."""
    return [place for place in range(len(people)) if people[place] > 0]


def greatest_distance(distances, people, stores):
    """Give the greatest store distance of all places with people."""
    greatest = 0
    for place in places_with_people(people):
        greatest = farther(greatest, store_distance(distances, stores, place))
    return greatest


def total_distance(distances, people, stores):
    """Give the sum of the store distances of all people."""
    if greatest_distance(distances, people, stores) is None:
        return None
    return sum([people[place] * store_distance(distances, stores, place) for place in places_with_people(people)])


def greatest_distance_without(distances, people, stores, lost):
    """Give the greatest distance of the stores but the lost one."""
    kept = [store for store in stores if store != lost]
    return greatest_distance(distances, people, kept)


def greatest_distance_with(distances, people, stores, added):
    """Give the greatest distance of the stores and the added one."""
    return greatest_distance(distances, people, sorted(stores + [added]))


def greatest_distance_after_loss(distances, people, stores):
    """Give the greatest distance if that one of the stores is lost whose loss is worst."""
    greatest = 0
    for lost in stores:
        greatest = farther(greatest, greatest_distance_without(distances, people, stores, lost))
    return greatest


def people_per_store(distances, people, stores):
    """Give, for each store in turn, the number of people whose nearest store it is."""
    nearest = [nearest_store(distances, stores, place) for place in range(len(people))]
    served = []
    for store in stores:
        served.append(sum([people[place] for place in range(len(people)) if nearest[place] == store]))
    return served
