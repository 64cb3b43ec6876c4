"""The calls 14 to 21: sets of places that are proposed for the stores, or taken for them."""

from nearstores.checks import check_connected, check_size
from nearstores.objectives import greatest_distance, greatest_distance_after_loss, total_distance
from nearstores.placesets import set_number
from nearstores.searches import best_set, farthest_first, smallest_cover

FEWEST = 1
# The loss of an only store would leave none.
FEWEST_ROBUST = 2


def connected_distances(instance, size, fewest):
    """Give the distances, but refuse so many stores or a network that is not connected."""
    check_size(instance, size, fewest)
    distances = instance.distances()
    check_connected(distances)
    return distances


def best_places(instance, size, fewest, objective):
    """Tell the smallest objective of so many places, then the places that have it."""
    distances = connected_distances(instance, size, fewest)
    places = best_set(distances, instance.people, size, objective)
    return [objective(distances, instance.people, places)] + places


def take_stores(instance, told):
    """Replace the stores by the places that are told behind their objective; answer that alone."""
    instance.store_set = set_number(told[1:])
    return told[:1]


def answer_best_centers(instance, values):
    """Answer best_centers(k)."""
    return best_places(instance, values[0], FEWEST, greatest_distance)


def answer_best_medians(instance, values):
    """Answer best_medians(k)."""
    return best_places(instance, values[0], FEWEST, total_distance)


def answer_best_robust_centers(instance, values):
    """Answer best_robust_centers(k)."""
    return best_places(instance, values[0], FEWEST_ROBUST, greatest_distance_after_loss)


def answer_smallest_cover(instance, values):
    """Answer smallest_cover(radius)."""
    places = smallest_cover(instance.distances(), instance.people, values[0])
    return [len(places)] + places


def answer_farthest_first(instance, values):
    """Answer farthest_first(k)."""
    distances = connected_distances(instance, values[0], FEWEST)
    places = farthest_first(distances, instance.people, values[0])
    return [greatest_distance(distances, instance.people, places)] + places


def answer_use_best_centers(instance, values):
    """Answer use_best_centers(k)."""
    return take_stores(instance, answer_best_centers(instance, values))


def answer_use_best_medians(instance, values):
    """Answer use_best_medians(k)."""
    return take_stores(instance, answer_best_medians(instance, values))


def answer_use_best_robust_centers(instance, values):
    """Answer use_best_robust_centers(k)."""
    return take_stores(instance, answer_best_robust_centers(instance, values))


PROPOSALS = {
    14: answer_best_centers,
    15: answer_best_medians,
    16: answer_best_robust_centers,
    17: answer_smallest_cover,
    18: answer_farthest_first,
    19: answer_use_best_centers,
    20: answer_use_best_medians,
    21: answer_use_best_robust_centers,
}


def answer_proposal(instance, number, values):
    """Answer the call of this number with these arguments."""
    return PROPOSALS[number](instance, values)
