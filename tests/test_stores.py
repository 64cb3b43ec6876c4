"""The calls that ask how far people are from the stores."""

import unittest

from helper import (
    MOST, ask, create, greatest_distance, greatest_distance_after_loss, greatest_distance_without, last,
    line_of_three, nearest_store, nobody, path, people_per_store, set_people, set_road, set_store,
    store_distance, total_distance)


class StoreDistance(unittest.TestCase):
    def test_the_smallest_distance_of_several(self):
        calls = line_of_three() + [set_store(0, 1), set_store(2, 1)]
        self.assertEqual(ask(*calls, *[store_distance(place) for place in range(3)])[6:], [[0], [4], [0]])

    def test_the_smaller_number_may_be_farther(self):
        calls = [create(3), set_road(0, 1, 9), set_road(1, 2, 3), set_store(0, 1), set_store(2, 1)]
        self.assertEqual(last(*calls, store_distance(1)), [3])

    def test_a_store_that_cannot_be_reached_does_not_matter(self):
        calls = [create(3), set_road(1, 2, 3), set_store(0, 1), set_store(2, 1)]
        self.assertEqual(last(*calls, store_distance(1)), [3])

    def test_a_place_without_people_has_one_too(self):
        self.assertEqual(last(*line_of_three(), set_people(2, 0), set_store(0, 1), store_distance(2)), [10])

    def test_refuses_where_it_is_undefined(self):
        self.assertEqual(last(*line_of_three(), store_distance(1)), [-33])
        self.assertEqual(last(create(2), set_store(0, 1), store_distance(1)), [-33])

    def test_refuses_a_place_that_is_not_there(self):
        for place in (3, 4, MOST):
            self.assertEqual(last(create(3), store_distance(place)), [-2])
            self.assertEqual(last(create(3), set_store(0, 1), store_distance(place)), [-2])


class NearestStore(unittest.TestCase):
    def test_a_place_with_a_store_is_its_own(self):
        for place in range(3):
            self.assertEqual(last(*line_of_three(), set_store(place, 1), nearest_store(place)), [place])

    def test_the_nearer_of_two(self):
        calls = [create(3), set_road(0, 1, 9), set_road(1, 2, 3), set_store(0, 1), set_store(2, 1)]
        self.assertEqual(last(*calls, nearest_store(1)), [2])
        self.assertEqual(last(*calls, set_road(0, 1, 2), nearest_store(1)), [0])

    def test_a_tie_goes_to_the_smaller_number(self):
        roads = [create(3), set_road(0, 1, 5), set_road(1, 2, 5)]
        for first, second in ((0, 2), (2, 0)):
            self.assertEqual(last(*roads, set_store(first, 1), set_store(second, 1), nearest_store(1)), [0])

    def test_a_tie_of_a_road_and_a_longer_way(self):
        calls = [create(4), set_road(0, 1, 2), set_road(1, 2, 3), set_road(2, 3, 5), set_store(0, 1), set_store(3, 1)]
        self.assertEqual(last(*calls, nearest_store(2)), [0])

    def test_a_store_that_cannot_be_reached_is_not_the_nearest(self):
        self.assertEqual(last(create(3), set_road(1, 2, 50), set_store(0, 1), set_store(2, 1), nearest_store(1)), [2])

    def test_refuses_where_no_store_can_be_reached(self):
        self.assertEqual(last(*line_of_three(), nearest_store(1)), [-33])
        self.assertEqual(last(create(2), set_store(0, 1), nearest_store(1)), [-33])

    def test_refuses_a_place_that_is_not_there(self):
        for place in (3, 4, MOST):
            self.assertEqual(last(create(3), nearest_store(place)), [-2])
            self.assertEqual(last(create(3), set_store(0, 1), nearest_store(place)), [-2])


class GreatestDistance(unittest.TestCase):
    def test_of_one_store(self):
        for place, expected in ((0, 10), (1, 6), (2, 10)):
            self.assertEqual(last(*line_of_three(), set_store(place, 1), greatest_distance()), [expected])

    def test_of_several_stores(self):
        self.assertEqual(last(*line_of_three(), set_store(0, 1), set_store(2, 1), greatest_distance()), [4])

    def test_0_with_a_store_everywhere(self):
        self.assertEqual(last(create(2), set_store(0, 1), set_store(1, 1), greatest_distance()), [0])

    def test_places_without_people_are_ignored(self):
        self.assertEqual(last(*line_of_three(), set_store(0, 1), set_people(2, 0), greatest_distance()), [4])
        self.assertEqual(last(create(2), set_store(0, 1), set_people(1, 0), greatest_distance()), [0])

    def test_0_if_no_place_has_people(self):
        self.assertEqual(last(*nobody(3), greatest_distance()), [0])
        self.assertEqual(last(*nobody(3), set_store(1, 1), greatest_distance()), [0])

    def test_the_longest_one(self):
        calls = path(7, 50) + [set_store(6, 1)]
        self.assertEqual(last(*calls, greatest_distance()), [300])

    def test_refuses_without_stores(self):
        self.assertEqual(last(*line_of_three(), greatest_distance()), [-33])

    def test_refuses_if_some_people_reach_no_store(self):
        self.assertEqual(last(create(2), set_store(0, 1), greatest_distance()), [-33])
        self.assertEqual(last(create(2), set_store(1, 1), greatest_distance()), [-33])
        self.assertEqual(last(create(3), set_road(0, 2, 3), set_store(0, 1), greatest_distance()), [-33])


class TotalDistance(unittest.TestCase):
    def test_the_people_weigh(self):
        for place, expected in ((0, 54), (1, 34), (2, 16)):
            self.assertEqual(last(*line_of_three(), set_store(place, 1), total_distance()), [expected])

    def test_of_several_stores(self):
        self.assertEqual(last(*line_of_three(), set_store(0, 1), set_store(1, 1), total_distance()), [30])

    def test_places_without_people_are_ignored(self):
        self.assertEqual(last(*line_of_three(), set_store(0, 1), set_people(2, 0), total_distance()), [4])
        self.assertEqual(last(create(2), set_store(0, 1), set_people(1, 0), total_distance()), [0])

    def test_0_if_no_place_has_people(self):
        self.assertEqual(last(*nobody(3), total_distance()), [0])

    def test_the_greatest_one(self):
        calls = path(7, 50) + [set_store(0, 1)]
        calls += [set_people(place, 99) for place in range(7)]
        self.assertEqual(last(*calls, total_distance()), [99 * 50 * 21])

    def test_refuses_if_the_greatest_distance_is_undefined(self):
        self.assertEqual(last(*line_of_three(), total_distance()), [-33])
        self.assertEqual(last(create(2), set_store(0, 1), total_distance()), [-33])
        self.assertEqual(last(create(3), set_road(0, 2, 3), set_store(0, 1), total_distance()), [-33])


class PeoplePerStore(unittest.TestCase):
    def test_without_stores(self):
        self.assertEqual(last(*line_of_three(), people_per_store()), [0])

    def test_each_place_goes_to_its_nearest_store(self):
        calls = line_of_three() + [set_people(0, 2), set_people(1, 30)]
        self.assertEqual(last(*calls, set_store(0, 1), set_store(2, 1), people_per_store()), [2, 32, 5])

    def test_a_tie_goes_to_the_smaller_number(self):
        calls = [create(3), set_road(0, 1, 5), set_road(1, 2, 5), set_people(1, 7)]
        for first, second in ((0, 2), (2, 0)):
            self.assertEqual(last(*calls, set_store(first, 1), set_store(second, 1), people_per_store()), [2, 8, 1])

    def test_people_who_reach_no_store_are_not_counted(self):
        calls = [create(4), set_road(0, 1, 5), set_people(2, 50), set_people(3, 60)]
        self.assertEqual(last(*calls, set_store(1, 1), set_store(3, 1), people_per_store()), [2, 2, 60])

    def test_a_store_that_serves_nobody_is_told_as_0(self):
        self.assertEqual(last(*nobody(2), set_store(0, 1), set_store(1, 1), people_per_store()), [2, 0, 0])
        self.assertEqual(last(create(2), set_people(0, 0), set_store(0, 1), people_per_store()), [1, 0])

    def test_a_store_at_each_of_seven_places(self):
        calls = [create(7)]
        for place in range(7):
            calls += [set_people(place, 90 + place), set_store(place, 1)]
        self.assertEqual(last(*calls, people_per_store()), [7, 90, 91, 92, 93, 94, 95, 96])


class GreatestDistanceWithout(unittest.TestCase):
    def test_the_other_stores_remain(self):
        calls = line_of_three() + [set_store(0, 1), set_store(1, 1), set_store(2, 1)]
        for place, expected in ((0, 4), (1, 4), (2, 6)):
            self.assertEqual(last(*calls, greatest_distance_without(place)), [expected])

    def test_the_only_store_leaves_none(self):
        self.assertEqual(last(*line_of_three(), set_store(2, 1), greatest_distance_without(2)), [-33])

    def test_0_if_no_place_has_people(self):
        self.assertEqual(last(*nobody(2), set_store(1, 1), greatest_distance_without(1)), [0])

    def test_the_instance_is_not_changed(self):
        answer = ask(*line_of_three(), set_store(0, 1), set_store(2, 1), greatest_distance_without(2),
                     greatest_distance(), greatest_distance_without(2), people_per_store())
        self.assertEqual(answer[6:], [[10], [4], [10], [2, 2, 5]])

    def test_refuses_where_people_then_reach_no_store(self):
        self.assertEqual(last(create(2), set_store(0, 1), set_store(1, 1), greatest_distance_without(0)), [-33])

    def test_refuses_a_place_that_is_not_there(self):
        for place in (3, 4, 32, MOST):
            self.assertEqual(last(create(3), greatest_distance_without(place)), [-2])

    def test_refuses_a_place_without_a_store(self):
        self.assertEqual(last(*line_of_three(), set_store(1, 1), greatest_distance_without(0)), [-6])
        self.assertEqual(last(*line_of_three(), greatest_distance_without(0)), [-6])

    def test_the_store_is_checked_ahead_of_the_result(self):
        self.assertEqual(last(create(3), set_store(1, 1), greatest_distance_without(0)), [-6])
        self.assertEqual(last(*nobody(3), greatest_distance_without(0)), [-6])


class GreatestDistanceAfterLoss(unittest.TestCase):
    def test_the_worst_loss_counts(self):
        calls = line_of_three() + [set_store(0, 1), set_store(1, 1)]
        self.assertEqual(last(*calls, greatest_distance_after_loss()), [10])
        self.assertEqual(last(*calls, set_store(2, 1), greatest_distance_after_loss()), [6])

    def test_the_worst_loss_may_be_that_of_any_store(self):
        for centre in range(3):
            calls = [create(3)] + [set_road(centre, other, 5) for other in range(3) if other != centre]
            calls += [set_store(place, 1) for place in range(3)] + [set_road((centre + 1) % 3, centre, 9)]
            self.assertEqual(last(*calls, greatest_distance_after_loss()), [9])

    def test_0_if_no_place_has_people(self):
        self.assertEqual(last(*nobody(2), set_store(1, 1), greatest_distance_after_loss()), [0])

    def test_the_instance_is_not_changed(self):
        answer = ask(*line_of_three(), set_store(0, 1), set_store(2, 1), greatest_distance_after_loss(),
                     greatest_distance(), people_per_store())
        self.assertEqual(answer[6:], [[10], [4], [2, 2, 5]])

    def test_refuses_without_stores(self):
        self.assertEqual(last(*line_of_three(), greatest_distance_after_loss()), [-6])
        self.assertEqual(last(*nobody(3), greatest_distance_after_loss()), [-6])

    def test_refuses_if_the_only_store_is_lost(self):
        self.assertEqual(last(*line_of_three(), set_store(1, 1), greatest_distance_after_loss()), [-33])

    def test_refuses_if_one_loss_leaves_people_without_a_store(self):
        for alone in range(3):
            first, second = [place for place in range(3) if place != alone]
            calls = [create(3), set_road(first, second, 4)] + [set_store(place, 1) for place in range(3)]
            self.assertEqual(last(*calls, greatest_distance_after_loss()), [-33])
            self.assertEqual(last(*calls, set_people(alone, 0), greatest_distance_after_loss()), [4])


if __name__ == "__main__":
    unittest.main()
