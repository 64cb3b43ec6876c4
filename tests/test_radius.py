"""The calls that ask for a radius, smallest_cover and places_within, and summary."""

import unittest

from helper import (
    MOST, ask, create, last, line_of_three, nobody, path, places_within, set_people, set_road, set_store,
    smallest_cover, summary)


class SmallestCover(unittest.TestCase):
    def test_the_line_of_the_examples(self):
        for radius, expected in ((0, [3, 0, 1, 2]), (3, [3, 0, 1, 2]), (4, [2, 0, 2]), (5, [2, 0, 2]), (6, [1, 1]),
                                 (9, [1, 1]), (10, [1, 0]), (11, [1, 0]), (MOST, [1, 0])):
            self.assertEqual(last(*line_of_three(), smallest_cover(radius)), expected, radius)

    def test_one_place(self):
        for radius in (0, 1, MOST):
            self.assertEqual(last(create(1), smallest_cover(radius)), [1, 0])

    def test_0_if_no_place_has_people(self):
        for radius in (0, 1, MOST):
            for place_count in (1, 3, 7):
                self.assertEqual(last(*nobody(place_count), smallest_cover(radius)), [0])
            self.assertEqual(last(*nobody(3), set_store(1, 1), smallest_cover(radius)), [0])

    def test_places_without_people_need_no_cover(self):
        self.assertEqual(last(*line_of_three(), set_people(1, 0), smallest_cover(0)), [2, 0, 2])
        self.assertEqual(last(*line_of_three(), set_people(0, 0), set_people(1, 0), smallest_cover(0)), [1, 2])

    def test_a_place_without_people_may_cover_others(self):
        self.assertEqual(last(*path(3, 5), set_people(1, 0), smallest_cover(5)), [1, 1])

    def test_the_number_of_people_does_not_matter(self):
        self.assertEqual(last(*path(3, 5), set_people(0, 99), smallest_cover(5)), [1, 1])

    def test_a_network_that_is_not_connected(self):
        self.assertEqual(last(create(3), smallest_cover(MOST)), [3, 0, 1, 2])
        self.assertEqual(last(create(4), set_road(0, 1, 5), set_road(2, 3, 5), smallest_cover(MOST)), [2, 0, 2])
        self.assertEqual(last(*line_of_three(), set_road(1, 2, 0), smallest_cover(MOST)), [2, 0, 2])
        self.assertEqual(last(*line_of_three(), set_road(1, 2, 0), set_people(2, 0), smallest_cover(4)), [1, 0])

    def test_fewer_places_go_ahead_of_a_smaller_set_number(self):
        # {0, 1} = 3 covers them too, but {2} = 4 has fewer places.
        self.assertEqual(last(create(3), set_road(0, 2, 5), set_road(1, 2, 5), smallest_cover(5)), [1, 2])

    def test_a_tie_goes_to_the_smaller_set_number(self):
        self.assertEqual(last(create(2), set_road(0, 1, 5), smallest_cover(5)), [1, 0])
        # Of two places, {2, 3} = 12, {0, 4} = 17 and {3, 4} = 24 cover all.
        calls = [create(5), set_road(0, 3, 4), set_road(1, 3, 2), set_road(1, 4, 3), set_road(2, 4, 4)]
        self.assertEqual(last(*calls, smallest_cover(4)), [2, 2, 3])

    def test_the_tie_does_not_go_to_the_smaller_distance(self):
        self.assertEqual(last(*path(3, 5), smallest_cover(10)), [1, 0])

    def test_seven_places(self):
        for radius, expected in ((49, [7, 0, 1, 2, 3, 4, 5, 6]), (50, [3, 0, 2, 5]), (100, [2, 0, 4]),
                                 (149, [2, 0, 4]), (150, [1, 3]), (300, [1, 0])):
            self.assertEqual(last(*path(7, 50), smallest_cover(radius)), expected)

    def test_the_stores_do_not_matter(self):
        self.assertEqual(ask(*line_of_three(), set_store(1, 1), smallest_cover(5), summary())[-2:],
                         [[2, 0, 2], [3, 7, 2, 2]])


class PlacesWithin(unittest.TestCase):
    def test_the_line_of_the_examples(self):
        for radius, expected in ((0, [1, 1]), (3, [1, 1]), (4, [2, 0, 1]), (5, [2, 0, 1]), (6, [3, 0, 1, 2]),
                                 (MOST, [3, 0, 1, 2])):
            self.assertEqual(last(*line_of_three(), set_store(1, 1), places_within(radius)), expected)

    def test_several_stores(self):
        calls = path(7, 5) + [set_store(1, 1), set_store(4, 1)]
        for radius, expected in ((0, [2, 1, 4]), (4, [2, 1, 4]), (5, [6, 0, 1, 2, 3, 4, 5]), (9, [6, 0, 1, 2, 3, 4, 5]),
                                 (10, [7, 0, 1, 2, 3, 4, 5, 6])):
            self.assertEqual(last(*calls, places_within(radius)), expected)

    def test_no_store(self):
        for radius in (0, 10, MOST):
            self.assertEqual(last(*line_of_three(), places_within(radius)), [0])

    def test_a_store_at_every_place(self):
        calls = [create(7)] + [set_store(place, 1) for place in range(7)]
        for radius in (0, MOST):
            self.assertEqual(last(*calls, places_within(radius)), [7, 0, 1, 2, 3, 4, 5, 6])

    def test_places_without_people_are_included(self):
        self.assertEqual(last(*line_of_three(), set_people(0, 0), set_people(1, 0), set_store(1, 1), places_within(4)),
                         [2, 0, 1])
        self.assertEqual(last(*nobody(2), set_store(1, 1), places_within(0)), [1, 1])

    def test_places_that_reach_no_store_are_not(self):
        self.assertEqual(last(create(4), set_road(1, 3, 5), set_store(3, 1), places_within(MOST)), [2, 1, 3])
        self.assertEqual(last(*line_of_three(), set_store(2, 1), set_road(0, 1, 0), places_within(MOST)), [2, 1, 2])


class Summary(unittest.TestCase):
    def test_a_new_instance(self):
        for place_count in range(1, 8):
            self.assertEqual(last(create(place_count), summary()), [place_count, place_count, 0, 0])

    def test_the_line_of_the_examples(self):
        self.assertEqual(last(*line_of_three(), summary()), [3, 7, 2, 0])

    def test_the_stores_are_told_as_a_set(self):
        for place in range(7):
            self.assertEqual(last(create(7), set_store(place, 1), summary()), [7, 7, 0, 2 ** place])
        self.assertEqual(last(create(7), set_store(6, 1), set_store(0, 1), set_store(3, 1), set_store(6, 1), summary()),
                         [7, 7, 0, 73])
        self.assertEqual(last(create(7), set_store(6, 1), set_store(2, 1), set_store(6, 0), summary()), [7, 7, 0, 4])

    def test_the_people_are_counted(self):
        answer = ask(create(3), set_people(0, 99), summary(), set_people(2, 0), summary(), set_people(0, 0), summary())
        self.assertEqual(answer[2::2], [[3, 101, 0, 0], [3, 100, 0, 0], [3, 1, 0, 0]])
        self.assertEqual(last(*nobody(4), summary()), [4, 0, 0, 0])

    def test_a_road_is_counted_once(self):
        answer = ask(create(3), set_road(2, 0, 5), summary(), set_road(0, 2, 9), summary(), set_road(0, 1, 1),
                     summary())
        self.assertEqual(answer[2::2], [[3, 3, 1, 0], [3, 3, 1, 0], [3, 3, 2, 0]])

    def test_a_removed_road_is_not_counted(self):
        answer = ask(*line_of_three(), set_road(1, 0, 0), summary(), set_road(1, 0, 0), summary())
        self.assertEqual(answer[5::2], [[3, 7, 1, 0], [3, 7, 1, 0]])

    def test_all_that_there_can_be(self):
        calls = [create(7)] + [set_people(place, 99) for place in range(7)]
        calls += [set_store(place, 1) for place in range(7)]
        calls += [set_road(a, b, 50) for a in range(7) for b in range(a)]
        self.assertEqual(last(*calls, summary()), [7, 693, 21, 127])


if __name__ == "__main__":
    unittest.main()
