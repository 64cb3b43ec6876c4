"""distance, distance_matrix and is_connected."""

import unittest

from helper import (
    MOST, ask, create, distance, distance_matrix, is_connected, last, line_of_three, path, set_people, set_road,
    set_store)


class Distance(unittest.TestCase):
    def test_the_line_of_the_examples(self):
        self.assertEqual(last(*line_of_three(), distance(0, 2)), [10])
        self.assertEqual(last(*line_of_three(), distance(2, 0)), [10])
        self.assertEqual(last(*line_of_three(), distance(2, 1)), [6])

    def test_0_from_a_place_to_itself(self):
        self.assertEqual(last(create(1), distance(0, 0)), [0])
        self.assertEqual(last(*path(7, 50), distance(3, 3)), [0])

    def test_a_way_round_may_be_shorter_than_the_road(self):
        roads = [create(3), set_road(0, 2, 50), set_road(0, 1, 24), set_road(1, 2, 25)]
        self.assertEqual(last(*roads, distance(0, 2)), [49])

    def test_the_road_may_be_shorter_than_a_way_round(self):
        roads = [create(3), set_road(0, 2, 48), set_road(0, 1, 24), set_road(1, 2, 25)]
        self.assertEqual(last(*roads, distance(0, 2)), [48])

    def test_the_longest_route(self):
        self.assertEqual(last(*path(7, 50), distance(0, 6)), [300])

    def test_a_route_that_visits_the_places_in_no_order(self):
        route = (0, 5, 2, 6, 1, 4, 3)
        roads = [create(7)] + [set_road(route[step], route[step + 1], step + 1) for step in range(6)]
        self.assertEqual(last(*roads, distance(0, 3)), [21])
        self.assertEqual(last(*roads, distance(3, 0)), [21])
        self.assertEqual(last(*roads, distance(2, 1)), [7])

    def test_a_removed_road_leads_nowhere(self):
        self.assertEqual(last(*line_of_three(), set_road(2, 1, 0), distance(0, 2)), [-33])

    def test_people_and_stores_do_not_matter(self):
        self.assertEqual(last(*line_of_three(), set_people(1, 0), set_store(1, 1), distance(0, 2)), [10])

    def test_refuses_where_there_is_no_route(self):
        for a, b in ((0, 2), (2, 0), (1, 3)):
            self.assertEqual(last(create(4), set_road(0, 1, 1), set_road(2, 3, 1), distance(a, b)), [-33])

    def test_refuses_places_that_are_not_there(self):
        for a, b in ((0, 3), (3, 0), (3, 3), (0, MOST), (MOST, 0), (MOST, MOST)):
            self.assertEqual(last(create(3), distance(a, b)), [-2])


class DistanceMatrix(unittest.TestCase):
    def test_the_line_of_the_examples(self):
        self.assertEqual(last(*line_of_three(), distance_matrix()), [3, 0, 4, 10, 4, 0, 6, 10, 6, 0])

    def test_one_place(self):
        self.assertEqual(last(create(1), distance_matrix()), [1, 0])

    def test_undefined_distances_are_told_as_minus_1(self):
        self.assertEqual(last(create(3), set_road(0, 2, 7), distance_matrix()), [3, 0, -1, 7, -1, 0, -1, 7, -1, 0])

    def test_seven_places(self):
        expected = [7] + [3 * abs(a - b) for a in range(7) for b in range(7)]
        self.assertEqual(last(*path(7, 3), distance_matrix()), expected)

    def test_seven_places_without_roads(self):
        expected = [7] + [0 if a == b else -1 for a in range(7) for b in range(7)]
        self.assertEqual(last(create(7), distance_matrix()), expected)


class IsConnected(unittest.TestCase):
    def test_one_place_is_connected(self):
        self.assertEqual(last(create(1), is_connected()), [1])

    def test_two_places_need_a_road(self):
        self.assertEqual(ask(create(2), is_connected(), set_road(0, 1, 1), is_connected(), set_road(0, 1, 0),
                             is_connected()), [[0], [0], [0], [1], [1], [0]])

    def test_seven_places(self):
        self.assertEqual(last(*path(7, 1), is_connected()), [1])
        for place in range(6):
            self.assertEqual(last(*path(7, 1), set_road(place, place + 1, 0), is_connected()), [0])

    def test_the_last_place_alone(self):
        self.assertEqual(last(create(3), set_road(0, 1, 1), is_connected()), [0])

    def test_places_without_people_count_too(self):
        self.assertEqual(last(create(2), set_people(1, 0), set_store(0, 1), is_connected()), [0])


if __name__ == "__main__":
    unittest.main()
