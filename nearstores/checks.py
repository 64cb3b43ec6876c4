"""The checks that several calls share. Each raises the refusal if its condition isn't met."""

from nearstores.network import is_connected
from nearstores.refusals import NoRoute, NoSuchPlace, OutOfRange

MOST_PLACES = 7
MOST_PEOPLE = 99
LONGEST_TIME = 50


def check_place_count(place_count):
    """Refuse a number of places that no instance can have."""
    if place_count < 1 or place_count > MOST_PLACES:
        raise OutOfRange()


def check_place(instance, place):
    """Refuse a place that the instance doesn't have."""
    if place >= instance.place_count:
        raise NoSuchPlace()


def check_people(people):
    """Refuse more people than may be at a place."""
    if people > MOST_PEOPLE:
        raise OutOfRange()


def check_road(instance, start, end, time):
    """Refuse a road that can't be: the places come first, then their difference and the time."""
    check_place(instance, start)
    check_place(instance, end)
    if start == end or time > LONGEST_TIME:
        raise OutOfRange()


def check_present(present):
    """Refuse what is neither 0 nor 1."""
    if present > 1:
        raise OutOfRange()


def check_size(instance, size, fewest):
    """Refuse a number of stores that is below the fewest or above that of the places."""
    if size < fewest or size > instance.place_count:
        raise OutOfRange()


def check_connected(distances):
    """Refuse a network that is not connected."""
    if not is_connected(distances):
        raise NoRoute()


def defined(result):
    """Give the result back, but refuse an undefined one, which is None."""
    if result is None:
        raise NoRoute()
    return result
