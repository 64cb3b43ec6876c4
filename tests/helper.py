"""What the tests share: the calls by their names, and a request that is asked and read."""

from nearstores.desk import answers

MOST = 4294967295

MOST_CALLS = 40
MOST_NUMBERS = 160

# How many arguments each call but create has, by its number.
ARGUMENTS = {1: 2, 2: 3, 3: 2, 4: 2, 5: 0, 6: 0, 7: 1, 8: 1, 9: 0, 10: 0, 11: 0, 12: 1, 13: 0, 14: 1, 15: 1, 16: 1,
             17: 1, 18: 1, 19: 1, 20: 1, 21: 1, 22: 1, 23: 0, 24: 3, 25: 1, 26: 0}


def create(place_count):
    return [0, place_count]


def set_people(place, people):
    return [1, place, people]


def set_road(a, b, time):
    return [2, a, b, time]


def set_store(place, present):
    return [3, place, present]


def distance(a, b):
    return [4, a, b]


def distance_matrix():
    return [5]


def is_connected():
    return [6]


def store_distance(place):
    return [7, place]


def nearest_store(place):
    return [8, place]


def greatest_distance():
    return [9]


def total_distance():
    return [10]


def people_per_store():
    return [11]


def greatest_distance_without(place):
    return [12, place]


def greatest_distance_after_loss():
    return [13]


def best_centers(k):
    return [14, k]


def best_medians(k):
    return [15, k]


def best_robust_centers(k):
    return [16, k]


def smallest_cover(radius):
    return [17, radius]


def farthest_first(k):
    return [18, k]


def use_best_centers(k):
    return [19, k]


def use_best_medians(k):
    return [20, k]


def use_best_robust_centers(k):
    return [21, k]


def greatest_distance_with(place):
    return [22, place]


def best_additional_store():
    return [23]


def greatest_distance_with_road(a, b, time):
    return [24, a, b, time]


def places_within(radius):
    return [25, radius]


def summary():
    return [26]


def flat(calls):
    """Put the calls one behind another; no test may hand in more than the document allows."""
    numbers = [number for call in calls for number in call]
    assert 1 <= len(calls) <= MOST_CALLS, len(calls)
    assert len(numbers) <= MOST_NUMBERS, len(numbers)
    return numbers


def split(told):
    """Cut what was told into one list for each call."""
    each = []
    at = 0
    while at < len(told):
        end = at + 1 + told[at]
        assert end <= len(told), told
        each.append(told[at + 1:end])
        at = end
    return each


def ask(*calls):
    """Give the answers of one request, one list for each of its calls."""
    each = split(answers(flat(calls)))
    assert len(each) == len(calls), each
    return each


def last(*calls):
    """Give the answer of the last call of one request."""
    return ask(*calls)[-1]


def probe(place_count):
    """Calls whose answers tell all that an instance holds: each answers what was there before."""
    calls = [distance_matrix()]
    for place in range(place_count):
        calls.append(set_people(place, 0))
        calls.append(set_store(place, 0))
        for other in range(place):
            calls.append(set_road(place, other, 0))
    return calls


def line_of_three():
    """The network of the document's examples: 0 -4- 1 -6- 2, with five people at place 2."""
    return [create(3), set_road(0, 1, 4), set_road(1, 2, 6), set_people(2, 5)]


def nobody(place_count):
    """Places without people and without roads."""
    return [create(place_count)] + [set_people(place, 0) for place in range(place_count)]


def path(place_count, time):
    """Places in one line, by their numbers, with roads of this time."""
    return [create(place_count)] + [set_road(place, place + 1, time) for place in range(place_count - 1)]
