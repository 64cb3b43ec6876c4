"""The calls 22 to 24, which ask how far people would be after a change, and change nothing."""

from nearstores.checks import check_place, check_road, defined
from nearstores.network import shortest_distances, with_road
from nearstores.objectives import greatest_distance, greatest_distance_with
from nearstores.refusals import StoresEverywhere, StoreThere
from nearstores.searches import best_additional_store


def answer_greatest_distance_with(instance, values):
    """Answer greatest_distance_with(place)."""
    place = values[0]
    check_place(instance, place)
    if instance.has_store(place) == 1:
        raise StoreThere()
    return [defined(greatest_distance_with(instance.distances(), instance.people, instance.stores(), place))]


def answer_best_additional_store(instance, values):
    """Answer best_additional_store()."""
    stores = instance.stores()
    if len(stores) == instance.place_count:
        raise StoresEverywhere()
    distances = instance.distances()
    place = best_additional_store(distances, instance.people, stores)
    greatest = greatest_distance_with(distances, instance.people, stores, place)
    return [place, -1 if greatest is None else greatest]


def answer_greatest_distance_with_road(instance, values):
    """Answer greatest_distance_with_road(a, b, time)."""
    start = values[0]
    end = values[1]
    time = values[2]
    check_road(instance, start, end, time)
    distances = shortest_distances(with_road(instance.times, start, end, time))
    return [defined(greatest_distance(distances, instance.people, instance.stores()))]


TRIALS = {
    22: answer_greatest_distance_with,
    23: answer_best_additional_store,
    24: answer_greatest_distance_with_road,
}


def answer_trial(instance, number, values):
    """Answer the call of this number with these arguments."""
    return TRIALS[number](instance, values)
