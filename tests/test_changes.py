"""create, set_people, set_road and set_store."""

import unittest

from helper import (
    MOST, ask, create, distance, distance_matrix, greatest_distance, is_connected, last, nearest_store,
    people_per_store, set_people, set_road, set_store, store_distance, total_distance)


class Create(unittest.TestCase):
    def test_answers_0_for_every_allowed_number_of_places(self):
        for place_count in range(1, 8):
            self.assertEqual(ask(create(place_count)), [[0]])

    def test_the_new_instance_has_that_many_places(self):
        for place_count in range(1, 8):
            answer = ask(create(place_count), distance_matrix(), set_people(place_count - 1, 1),
                         set_people(place_count, 1))
            self.assertEqual(answer[1][0], place_count)
            self.assertEqual(len(answer[1]), 1 + place_count * place_count)
            self.assertEqual(answer[2:], [[1], [-2]])

    def test_there_is_one_person_at_each_place(self):
        calls = [create(7)] + [set_people(place, 0) for place in range(7)]
        self.assertEqual(ask(*calls), [[0]] + [[1]] * 7)

    def test_there_are_no_roads(self):
        pairs = [(a, b) for a in range(7) for b in range(a)]
        calls = [create(7)] + [set_road(a, b, 0) for a, b in pairs]
        self.assertEqual(ask(*calls), [[0]] * 22)

    def test_there_are_no_stores(self):
        calls = [create(7), people_per_store()] + [set_store(place, 0) for place in range(7)]
        self.assertEqual(ask(*calls), [[0]] * 9)

    def test_refuses_other_numbers_of_places(self):
        for place_count in (0, 8, 9, 256, 2 ** 31, MOST):
            self.assertEqual(ask(create(place_count)), [[-22]])

    def test_after_a_refused_create_there_is_still_no_instance(self):
        self.assertEqual(ask(create(0), is_connected(), create(8), is_connected()), [[-22], [-11], [-22], [-11]])

    def test_replaces_an_instance(self):
        calls = [create(3), set_people(0, 9), set_road(0, 1, 4), set_store(1, 1), create(2)]
        answer = ask(*calls, distance_matrix(), set_people(0, 0), set_people(1, 0), set_store(1, 0),
                     set_road(0, 1, 0), set_people(2, 0))
        self.assertEqual(answer[4:], [[0], [2, 0, -1, -1, 0], [1], [1], [0], [0], [-2]])

    def test_replaces_an_instance_by_a_larger_one(self):
        self.assertEqual(ask(create(1), set_people(6, 1), create(7), set_people(6, 1)), [[0], [-2], [0], [1]])

    def test_a_refused_create_replaces_nothing(self):
        for place_count in (0, 8, MOST):
            answer = ask(create(2), set_people(0, 9), set_road(0, 1, 4), set_store(1, 1), create(place_count),
                         distance_matrix(), set_people(0, 0), set_store(1, 0), set_people(2, 0))
            self.assertEqual(answer[4:], [[-22], [2, 0, 4, 4, 0], [9], [1], [-2]])


class SetPeople(unittest.TestCase):
    def test_answers_the_previous_number(self):
        self.assertEqual(ask(create(2), set_people(1, 7), set_people(1, 3), set_people(1, 3), set_people(0, 2)),
                         [[0], [1], [7], [3], [1]])

    def test_takes_0_and_99(self):
        self.assertEqual(ask(create(1), set_people(0, 0), set_people(0, 99), set_people(0, 1)),
                         [[0], [1], [0], [99]])

    def test_the_number_counts(self):
        answer = ask(create(1), set_store(0, 1), people_per_store(), set_people(0, 99), people_per_store())
        self.assertEqual([answer[2], answer[4]], [[1, 1], [1, 99]])

    def test_refuses_a_place_that_is_not_there(self):
        for place in (2, 3, 7, 2 ** 32 - 2, MOST):
            self.assertEqual(last(create(2), set_people(place, 5)), [-2])

    def test_refuses_more_than_99(self):
        for people in (100, 101, 256, MOST):
            self.assertEqual(last(create(2), set_people(1, people)), [-22])

    def test_the_place_is_checked_ahead_of_the_people(self):
        self.assertEqual(last(create(2), set_people(2, 100)), [-2])
        self.assertEqual(last(create(2), set_people(MOST, MOST)), [-2])


class SetRoad(unittest.TestCase):
    def test_answers_the_previous_time_in_both_directions(self):
        self.assertEqual(ask(create(3), set_road(0, 2, 5), set_road(2, 0, 8), set_road(0, 2, 3)),
                         [[0], [0], [5], [8]])

    def test_takes_1_and_50(self):
        self.assertEqual(ask(create(2), set_road(0, 1, 50), distance(1, 0), set_road(0, 1, 1), distance(1, 0)),
                         [[0], [0], [50], [50], [1]])

    def test_0_removes_the_road(self):
        answer = ask(create(2), set_road(0, 1, 5), set_road(1, 0, 0), distance(0, 1), distance(1, 0),
                     set_road(0, 1, 0))
        self.assertEqual(answer[2:], [[5], [-33], [-33], [0]])

    def test_a_second_road_between_two_places_replaces_the_first(self):
        self.assertEqual(last(create(2), set_road(0, 1, 5), set_road(1, 0, 9), distance(0, 1)), [9])

    def test_other_roads_stay(self):
        answer = ask(create(3), set_road(0, 1, 5), set_road(1, 2, 7), set_road(0, 1, 0), distance_matrix())
        self.assertEqual(answer[4], [3, 0, -1, -1, -1, 0, 7, -1, 7, 0])

    def test_refuses_places_that_are_not_there(self):
        for a, b in ((0, 3), (3, 0), (3, 4), (3, 3), (0, MOST), (MOST, 0), (MOST, MOST)):
            self.assertEqual(last(create(3), set_road(a, b, 5)), [-2])

    def test_refuses_a_road_from_a_place_to_itself(self):
        for time in (0, 5, 51, MOST):
            self.assertEqual(last(create(3), set_road(1, 1, time)), [-22])

    def test_refuses_times_above_50(self):
        for time in (51, 52, 256, MOST):
            self.assertEqual(last(create(3), set_road(0, 1, time)), [-22])

    def test_the_places_are_checked_ahead_of_all_else(self):
        self.assertEqual(last(create(3), set_road(0, 3, 51)), [-2])
        self.assertEqual(last(create(3), set_road(3, 0, 51)), [-2])
        self.assertEqual(last(create(3), set_road(3, 3, 51)), [-2])
        self.assertEqual(last(create(3), set_road(MOST, MOST, MOST)), [-2])


class SetStore(unittest.TestCase):
    def test_answers_whether_there_was_a_store(self):
        self.assertEqual(
            ask(create(2), set_store(1, 0), set_store(1, 1), set_store(1, 1), set_store(1, 0), set_store(1, 0)),
            [[0], [0], [0], [1], [1], [0]])

    def test_each_place_has_a_store_of_its_own(self):
        calls = [create(7)] + [set_store(place, 1) for place in (0, 3, 6)] + [people_per_store()]
        calls += [set_store(3, 0)] + [nearest_store(place) for place in range(7)]
        answer = ask(*calls)
        self.assertEqual(answer[4:], [[3, 1, 1, 1], [1], [0], [-33], [-33], [-33], [-33], [-33], [6]])

    def test_a_closed_store_serves_nobody(self):
        answer = ask(create(1), set_store(0, 1), greatest_distance(), set_store(0, 0), greatest_distance(),
                     store_distance(0), total_distance())
        self.assertEqual(answer[2:], [[0], [1], [-33], [-33], [-33]])

    def test_setting_a_store_twice_leaves_it_there(self):
        self.assertEqual(last(create(2), set_store(1, 1), set_store(1, 1), nearest_store(1)), [1])
        self.assertEqual(last(create(2), set_store(1, 0), nearest_store(1)), [-33])

    def test_refuses_a_place_that_is_not_there(self):
        for place in (2, 3, 7, 32, 64, MOST):
            self.assertEqual(last(create(2), set_store(place, 1)), [-2])

    def test_refuses_present_above_1(self):
        for present in (2, 3, 256, MOST):
            self.assertEqual(last(create(2), set_store(1, present)), [-22])

    def test_the_place_is_checked_ahead_of_present(self):
        self.assertEqual(last(create(2), set_store(2, 2)), [-2])
        self.assertEqual(last(create(2), set_store(MOST, MOST)), [-2])


if __name__ == "__main__":
    unittest.main()
