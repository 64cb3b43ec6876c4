"""The calls 4 to 13, 25 and 26, which ask about an instance as it is and change nothing."""

from nearstores.checks import check_place, defined
from nearstores.network import is_connected, road_count
from nearstores.objectives import (
    greatest_distance,
    greatest_distance_after_loss,
    greatest_distance_without,
    nearest_store,
    people_per_store,
    store_distance,
    total_distance,
)
from nearstores.refusals import NoStore
from nearstores.searches import places_within


def answer_distance(instance, values):
    """Answer distance(a, b)."""
    start = values[0]
    end = values[1]
    check_place(instance, start)
    check_place(instance, end)
    return [defined(instance.distances()[start][end])]


def answer_distance_matrix(instance, values):
    """Answer distance_matrix()."""
    told = [instance.place_count]
    for row in instance.distances():
        told.extend([-1 if distance is None else distance for distance in row])
    return told


def answer_is_connected(instance, values):
    """Answer is_connected()."""
    return [1 if is_connected(instance.distances()) else 0]


def answer_store_distance(instance, values):
    """Answer store_distance(place)."""
    place = values[0]
    check_place(instance, place)
    return [defined(store_distance(instance.distances(), instance.stores(), place))]


def answer_nearest_store(instance, values):
    """Answer nearest_store(place)."""
    place = values[0]
    check_place(instance, place)
    return [defined(nearest_store(instance.distances(), instance.stores(), place))]


def answer_greatest_distance(instance, values):
    """Answer greatest_distance()."""
    return [defined(greatest_distance(instance.distances(), instance.people, instance.stores()))]


def answer_total_distance(instance, values):
    """Answer total_distance()."""
    return [defined(total_distance(instance.distances(), instance.people, instance.stores()))]


def answer_people_per_store(instance, values):
    """Answer people_per_store()."""
    stores = instance.stores()
    return [len(stores)] + people_per_store(instance.distances(), instance.people, stores)


def answer_greatest_distance_without(instance, values):
    """Answer greatest_distance_without(place)."""
    place = values[0]
    check_place(instance, place)
    if instance.has_store(place) == 0:
        raise NoStore()
    return [defined(greatest_distance_without(instance.distances(), instance.people, instance.stores(), place))]


def answer_greatest_distance_after_loss(instance, values):
    """Answer greatest_distance_after_loss()."""
    stores = instance.stores()
    if len(stores) == 0:
        raise NoStore()
    return [defined(greatest_distance_after_loss(instance.distances(), instance.people, stores))]


def answer_places_within(instance, values):
    """Answer places_within(radius)."""
    places = places_within(instance.distances(), instance.stores(), values[0])
    return [len(places)] + places


def answer_summary(instance, values):
    """Answer summary()."""
    return [instance.place_count, sum(instance.people), road_count(instance.times), instance.store_set]


QUESTIONS = {
    4: answer_distance,
    5: answer_distance_matrix,
    6: answer_is_connected,
    7: answer_store_distance,
    8: answer_nearest_store,
    9: answer_greatest_distance,
    10: answer_total_distance,
    11: answer_people_per_store,
    12: answer_greatest_distance_without,
    13: answer_greatest_distance_after_loss,
    25: answer_places_within,
    26: answer_summary,
}


def answer_question(instance, number, values):
    """Answer the call of this number with these arguments."""
    return QUESTIONS[number](instance, values)
