"""The calls that ask how far people would be with another store or another road."""

import unittest

from helper import (
    MOST, ask, best_additional_store, create, greatest_distance_with, greatest_distance_with_road, last,
    line_of_three, nobody, path, probe, set_people, set_road, set_store)


def stores_everywhere(place_count):
    return [set_store(place, 1) for place in range(place_count)]


class GreatestDistanceWith(unittest.TestCase):
    def test_it_is_the_only_store(self):
        answer = ask(*line_of_three(), *[greatest_distance_with(place) for place in range(3)])
        self.assertEqual(answer[4:], [[10], [6], [10]])

    def test_the_other_stores_remain(self):
        self.assertEqual(ask(*line_of_three(), set_store(0, 1), greatest_distance_with(1),
                             greatest_distance_with(2))[5:], [[6], [4]])
        self.assertEqual(last(*line_of_three(), set_store(2, 1), set_store(0, 1), greatest_distance_with(1)), [0])

    def test_places_without_people_are_ignored(self):
        self.assertEqual(last(*line_of_three(), set_people(2, 0), greatest_distance_with(1)), [4])
        self.assertEqual(last(create(2), set_people(1, 0), greatest_distance_with(0)), [0])

    def test_0_if_no_place_has_people(self):
        self.assertEqual(last(*nobody(3), greatest_distance_with(2)), [0])
        self.assertEqual(last(*nobody(3), set_store(1, 1), greatest_distance_with(2)), [0])

    def test_it_may_be_that_store_which_makes_it_defined(self):
        self.assertEqual(last(create(3), set_road(0, 1, 5), set_store(0, 1), greatest_distance_with(2)), [5])

    def test_refuses_where_it_is_undefined(self):
        self.assertEqual(last(create(2), greatest_distance_with(0)), [-33])
        self.assertEqual(last(create(3), set_road(0, 1, 5), set_store(0, 1), greatest_distance_with(1)), [-33])

    def test_refuses_a_place_that_is_not_there(self):
        for place in (3, 4, 7, 32, 64, 2 ** 31, MOST):
            self.assertEqual(last(*line_of_three(), greatest_distance_with(place)), [-2])
            self.assertEqual(last(create(3), *stores_everywhere(3), greatest_distance_with(place)), [-2])

    def test_refuses_a_place_with_a_store(self):
        for place in range(3):
            self.assertEqual(last(*line_of_three(), set_store(place, 1), greatest_distance_with(place)), [-17])
        self.assertEqual(last(*nobody(2), set_store(1, 1), greatest_distance_with(1)), [-17])

    def test_the_store_is_checked_ahead_of_the_result(self):
        self.assertEqual(last(create(3), set_store(1, 1), greatest_distance_with(1)), [-17])

    def test_the_instance_is_not_changed(self):
        setting = [*line_of_three(), set_store(0, 1)]
        answer = ask(*setting, greatest_distance_with(2), greatest_distance_with(2), *probe(3))
        self.assertEqual(answer[5:], [[4], [4]] + ask(*setting, *probe(3))[5:])


class BestAdditionalStore(unittest.TestCase):
    def test_the_line_of_the_examples(self):
        self.assertEqual(last(*line_of_three(), best_additional_store()), [1, 6])
        for place, expected in ((0, [2, 4]), (1, [2, 4]), (2, [0, 4])):
            self.assertEqual(last(*line_of_three(), set_store(place, 1), best_additional_store()), expected)

    def test_the_last_place_without_a_store(self):
        for place in range(3):
            others = [set_store(other, 1) for other in range(3) if other != place]
            self.assertEqual(last(*line_of_three(), *others, best_additional_store()), [place, 0])

    def test_one_place(self):
        self.assertEqual(last(create(1), best_additional_store()), [0, 0])

    def test_a_tie_goes_to_the_smaller_place_number(self):
        self.assertEqual(last(create(2), set_road(0, 1, 5), best_additional_store()), [0, 5])
        self.assertEqual(last(*path(4, 5), best_additional_store()), [1, 10])
        self.assertEqual(last(*path(5, 5), set_store(2, 1), best_additional_store()), [0, 10])

    def test_places_without_people_are_ignored(self):
        self.assertEqual(last(*line_of_three(), set_people(2, 0), best_additional_store()), [0, 4])

    def test_a_place_without_people_may_be_the_best(self):
        self.assertEqual(last(*path(3, 5), set_people(1, 0), best_additional_store()), [1, 5])

    def test_nobody_at_any_place(self):
        self.assertEqual(last(*nobody(3), best_additional_store()), [0, 0])
        self.assertEqual(last(*nobody(3), set_store(0, 1), best_additional_store()), [1, 0])
        self.assertEqual(last(*nobody(3), set_store(0, 1), set_store(1, 1), best_additional_store()), [2, 0])

    def test_minus_1_where_it_is_undefined_at_every_place(self):
        self.assertEqual(last(create(2), best_additional_store()), [0, -1])
        self.assertEqual(last(create(3), set_store(0, 1), best_additional_store()), [1, -1])
        self.assertEqual(last(create(4), set_road(0, 1, 5), set_store(0, 1), best_additional_store()), [1, -1])

    def test_an_undefined_one_is_greater_than_any_other(self):
        calls = path(7, 50) + [set_people(0, 0), set_road(0, 1, 0)]
        self.assertEqual(last(*calls, best_additional_store()), [3, 150])
        self.assertEqual(last(create(3), set_road(1, 2, 50), set_store(1, 1), best_additional_store()), [0, 50])
        self.assertEqual(last(create(3), set_road(0, 1, 50), set_store(1, 1), best_additional_store()), [2, 50])

    def test_refuses_stores_at_every_place(self):
        for place_count in range(1, 8):
            for setting in ([create(place_count)], nobody(place_count), path(place_count, 5)):
                calls = setting + stores_everywhere(place_count)
                self.assertEqual(last(*calls, best_additional_store()), [-28])

    def test_the_instance_is_not_changed(self):
        setting = [*line_of_three(), set_store(0, 1)]
        answer = ask(*setting, best_additional_store(), best_additional_store(), *probe(3))
        self.assertEqual(answer[5:], [[2, 4], [2, 4]] + ask(*setting, *probe(3))[5:])


class GreatestDistanceWithRoad(unittest.TestCase):
    def test_a_new_road(self):
        calls = [*line_of_three(), set_store(0, 1)]
        for time, expected in ((1, 4), (4, 4), (7, 7), (9, 9), (10, 10), (11, 10), (50, 10)):
            self.assertEqual(last(*calls, greatest_distance_with_road(0, 2, time)), [expected])
            self.assertEqual(last(*calls, greatest_distance_with_road(2, 0, time)), [expected])

    def test_a_road_that_is_there_is_replaced(self):
        calls = [*line_of_three(), set_store(0, 1)]
        self.assertEqual(last(*calls, greatest_distance_with_road(0, 1, 1)), [7])
        self.assertEqual(last(*calls, greatest_distance_with_road(1, 0, 50)), [56])

    def test_a_road_that_makes_it_defined(self):
        self.assertEqual(last(create(2), set_store(1, 1), greatest_distance_with_road(0, 1, 50)), [50])

    def test_a_removed_road(self):
        calls = [create(3), set_road(0, 1, 5), set_road(1, 2, 5), set_road(0, 2, 5), set_store(0, 1)]
        for a, b, expected in ((0, 1, 10), (1, 0, 10), (0, 2, 10), (1, 2, 5), (2, 1, 5)):
            self.assertEqual(last(*calls, greatest_distance_with_road(a, b, 0)), [expected])

    def test_a_road_that_is_not_there_may_be_removed(self):
        self.assertEqual(last(*line_of_three(), set_store(1, 1), greatest_distance_with_road(0, 2, 0)), [6])

    def test_places_without_people_are_ignored(self):
        calls = [*line_of_three(), set_people(2, 0), set_store(0, 1)]
        self.assertEqual(last(*calls, greatest_distance_with_road(1, 2, 0)), [4])

    def test_0_if_no_place_has_people(self):
        self.assertEqual(last(*nobody(3), greatest_distance_with_road(0, 1, 5)), [0])
        self.assertEqual(last(*nobody(3), greatest_distance_with_road(0, 1, 0)), [0])

    def test_refuses_where_it_is_undefined(self):
        self.assertEqual(last(*line_of_three(), greatest_distance_with_road(0, 2, 1)), [-33])
        self.assertEqual(last(*line_of_three(), set_store(0, 1), greatest_distance_with_road(1, 2, 0)), [-33])
        self.assertEqual(last(create(3), set_store(0, 1), greatest_distance_with_road(0, 1, 5)), [-33])

    def test_refuses_places_that_are_not_there(self):
        for a, b in ((0, 3), (3, 0), (3, 4), (3, 3), (0, MOST), (MOST, 0), (MOST, MOST)):
            for time in (0, 5, 50):
                self.assertEqual(last(*line_of_three(), greatest_distance_with_road(a, b, time)), [-2])

    def test_refuses_a_road_from_a_place_to_itself(self):
        for time in (0, 5, 51, MOST):
            self.assertEqual(last(*line_of_three(), set_store(1, 1), greatest_distance_with_road(1, 1, time)), [-22])

    def test_refuses_times_above_50(self):
        for time in (51, 52, 256, MOST):
            self.assertEqual(last(*line_of_three(), set_store(1, 1), greatest_distance_with_road(0, 1, time)), [-22])

    def test_the_places_are_checked_first_and_the_result_last(self):
        for a, b in ((0, 3), (3, 0), (3, 3), (MOST, MOST)):
            self.assertEqual(last(create(3), greatest_distance_with_road(a, b, MOST)), [-2])
        self.assertEqual(last(create(3), greatest_distance_with_road(0, 1, 51)), [-22])
        self.assertEqual(last(create(3), greatest_distance_with_road(1, 1, 5)), [-22])

    def test_the_instance_is_not_changed(self):
        setting = [*line_of_three(), set_store(0, 1)]
        trials = [greatest_distance_with_road(0, 2, 1), greatest_distance_with_road(1, 2, 0),
                  greatest_distance_with_road(2, 0, 50)]
        answer = ask(*setting, *trials, *probe(3))
        self.assertEqual(answer[5:], [[4], [-33], [10]] + ask(*setting, *probe(3))[5:])


if __name__ == "__main__":
    unittest.main()
