"""Sets of places. A set is a number whose bit p tells whether place p is a member."""


def has_member(place_set, place):
    """Tell whether the place is in the set: 1 or 0."""
    return (place_set >> place) & 1


def members(place_set, place_count):
    """List the places of the set in increasing order."""
    return [place for place in range(place_count) if has_member(place_set, place) == 1]


def set_number(places):
    """Give the set of these places, each of which is listed once."""
    return sum([1 << place for place in places])


def all_sets(place_count):
    """List each set, as the list of its places, in increasing order of the set numbers."""
    return [members(place_set, place_count) for place_set in range(1 << place_count)]
