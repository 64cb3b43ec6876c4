"""The calls 1 to 3, which change one thing of an instance and answer what it was before.

All that may be refused is checked ahead of the change, so that a refusal changes nothing.
"""

from nearstores.checks import check_people, check_place, check_present, check_road
from nearstores.network import with_road


def set_people(instance, values):
    """Answer set_people(place, people)."""
    place = values[0]
    people = values[1]
    check_place(instance, place)
    check_people(people)
    old = instance.people[place]
    instance.people[place] = people
    return [old]


def set_road(instance, values):
    """Answer set_road(a, b, time)."""
    start = values[0]
    end = values[1]
    time = values[2]
    check_road(instance, start, end, time)
    old = instance.times[start][end]
    instance.times = with_road(instance.times, start, end, time)
    return [old]


def set_store(instance, values):
    """Answer set_store(place, present)."""
    place = values[0]
    present = values[1]
    check_place(instance, place)
    check_present(present)
    old = instance.has_store(place)
    if old != present:
        instance.store_set = instance.store_set ^ (1 << place)
    return [old]


CHANGES = {1: set_people, 2: set_road, 3: set_store}


def answer_change(instance, number, values):
    """Answer the call of this number with these arguments."""
    return CHANGES[number](instance, values)
