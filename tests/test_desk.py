"""The interface: how a request is read and told, and what a refusal leaves as it was."""

import unittest

from helper import (
    ARGUMENTS, MOST, ask, best_additional_store, best_centers, best_medians, best_robust_centers, create, distance,
    distance_matrix, farthest_first, flat, greatest_distance, greatest_distance_after_loss, greatest_distance_with,
    greatest_distance_with_road, greatest_distance_without, is_connected, line_of_three, nearest_store,
    people_per_store, places_within, probe, set_people, set_road, set_store, smallest_cover, store_distance, summary,
    total_distance, use_best_centers, use_best_medians, use_best_robust_centers)
from nearstores.desk import answers

SIZED = (best_centers, best_medians, best_robust_centers, farthest_first,
         use_best_centers, use_best_medians, use_best_robust_centers)

# Every way in which a call is refused on the network of the examples with a store at place 2.
REFUSED = [
    (create(0), -22), (create(8), -22), (create(MOST), -22),
    (set_people(3, 5), -2), (set_people(MOST, 100), -2), (set_people(0, 100), -22), (set_people(0, MOST), -22),
    (set_road(3, 0, 5), -2), (set_road(0, 3, 5), -2), (set_road(MOST, MOST, MOST), -2),
    (set_road(1, 1, 5), -22), (set_road(0, 1, 51), -22), (set_road(1, 0, MOST), -22),
    (set_store(3, 1), -2), (set_store(MOST, 2), -2), (set_store(2, 2), -22), (set_store(0, MOST), -22),
    (distance(0, 3), -2), (distance(MOST, 0), -2),
    (store_distance(3), -2), (nearest_store(3), -2),
    (greatest_distance_without(3), -2), (greatest_distance_without(0), -6), (greatest_distance_without(2), -33),
    (greatest_distance_after_loss(), -33),
    (best_robust_centers(1), -22), (use_best_robust_centers(1), -22),
    (greatest_distance_with(3), -2), (greatest_distance_with(MOST), -2), (greatest_distance_with(2), -17),
    (greatest_distance_with_road(3, 0, 5), -2), (greatest_distance_with_road(0, MOST, MOST), -2),
    (greatest_distance_with_road(1, 1, 5), -22), (greatest_distance_with_road(0, 1, 51), -22),
    (greatest_distance_with_road(1, 2, 0), -33),
] + [(call(k), -22) for call in SIZED for k in (0, 4, MOST)]

# Those that need a network of two parts, with people at both and a store at one.
REFUSED_IN_PARTS = [
    (distance(0, 2), -33), (store_distance(2), -33), (nearest_store(2), -33), (greatest_distance(), -33),
    (total_distance(), -33), (greatest_distance_without(0), -33), (greatest_distance_after_loss(), -33),
    (greatest_distance_with(1), -33), (greatest_distance_with_road(0, 1, 9), -33),
] + [(call(2), -33) for call in SIZED]


class Interface(unittest.TestCase):
    def test_the_examples(self):
        calls = [0, 3, 2, 0, 1, 4, 2, 1, 2, 6, 1, 2, 5, 4, 0, 2, 14, 1, 15, 1, 16, 2, 20, 1, 12, 2, 17, 5]
        told = [1, 0, 1, 0, 1, 0, 1, 1, 1, 10, 2, 6, 1, 2, 16, 2, 3, 10, 0, 1, 1, 16, 1, -33, 3, 2, 0, 2]
        self.assertEqual(answers(calls), told)

    def test_the_examples_by_their_names(self):
        calls = [create(3), set_road(0, 1, 4), set_road(1, 2, 6), set_people(2, 5), distance(0, 2), best_centers(1),
                 best_medians(1), best_robust_centers(2), use_best_medians(1), greatest_distance_without(2),
                 smallest_cover(5)]
        told = [[0], [0], [0], [1], [10], [6, 1], [16, 2], [10, 0, 1], [16], [-33], [2, 0, 2]]
        self.assertEqual(ask(*calls), told)

    def test_each_number_is_the_call_that_the_document_names(self):
        calls = [0, 3, 1, 2, 5, 2, 0, 1, 4, 2, 1, 2, 6, 3, 0, 1, 3, 2, 1,
                 4, 0, 2, 5, 6, 7, 1, 8, 1, 9, 10, 11, 12, 0, 13]
        told = [1, 0, 1, 1, 1, 0, 1, 0, 1, 0, 1, 0,
                1, 10, 10, 3, 0, 4, 10, 4, 0, 6, 10, 6, 0, 1, 1, 1, 4, 1, 0, 1, 4, 1, 4, 3, 2, 2, 5, 1, 10, 1, 10]
        self.assertEqual(answers(calls), told)

    def test_each_later_number_is_the_call_that_the_document_names(self):
        calls = [0, 3, 1, 2, 5, 2, 0, 1, 4, 2, 1, 2, 6,
                 14, 1, 15, 1, 16, 3, 17, 4, 18, 1, 19, 1, 26, 20, 1, 26, 21, 2, 26, 22, 2, 23, 24, 1, 2, 1, 25, 5, 26]
        told = [1, 0, 1, 1, 1, 0, 1, 0,
                2, 6, 1, 2, 16, 2, 4, 6, 0, 1, 2, 3, 2, 0, 2, 2, 10, 0,
                1, 6, 4, 3, 7, 2, 2, 1, 16, 4, 3, 7, 2, 4, 1, 10, 4, 3, 7, 2, 3,
                1, 0, 2, 2, 0, 1, 1, 3, 2, 0, 1, 4, 3, 7, 2, 3]
        self.assertEqual(answers(calls), told)

    def test_a_request_of_one_call(self):
        self.assertEqual(answers([0, 1]), [1, 0])
        self.assertEqual(answers([13]), [1, -11])
        self.assertEqual(answers([26]), [1, -11])

    def test_a_request_of_forty_calls(self):
        self.assertEqual(answers([0, 7] + [6] * 39), [1, 0] * 40)
        self.assertEqual(answers([0, 1] + [2, 0, 0, 0] * 39), [1, 0] + [1, -22] * 39)

    def test_the_largest_answer(self):
        matrix = [50, 7] + [0 if a == b else -1 for a in range(7) for b in range(7)]
        self.assertEqual(answers([0, 7] + [5] * 39), [1, 0] + matrix * 39)

    def test_a_refusal_is_its_code_alone_and_the_calls_behind_it_go_on(self):
        self.assertEqual(answers([0, 2, 12, 0, 5, 4, 0, 1, 6]), [1, 0, 1, -6, 5, 2, 0, -1, -1, 0, 1, -33, 1, 0])

    def test_the_list_handed_in_is_unchanged(self):
        for calls in (flat([*line_of_three(), *probe(3)]), [13, 0, 0, 0, 9, 1, 0, 0]):
            handed = list(calls)
            answers(handed)
            self.assertEqual(handed, calls)

    def test_all_that_is_told_is_whole_numbers_in_a_list(self):
        told = answers(flat([*line_of_three(), set_store(1, 1), is_connected(), people_per_store(), *probe(3)]))
        self.assertIs(type(told), list)
        for number in told:
            self.assertIs(type(number), int)

    def test_nothing_is_kept_from_one_time_to_the_next(self):
        calls = flat([*line_of_three(), set_store(2, 1), distance_matrix(), total_distance()])
        first = answers(calls)
        self.assertEqual(answers([5]), [1, -11])
        self.assertEqual(answers([0, 3, 5, 11]), [1, 0, 10, 3, 0, -1, -1, -1, 0, -1, -1, -1, 0, 1, 0])
        self.assertEqual(answers(calls), first)

    def test_what_was_told_is_the_askers_own(self):
        first = answers([0, 2, 5])
        expected = list(first)
        first.clear()
        self.assertEqual(answers([0, 2, 5]), expected)


class NoInstance(unittest.TestCase):
    def test_is_answered_by_every_call_but_create(self):
        for number, count in ARGUMENTS.items():
            for value in (0, 1, 2, 7, 100, MOST):
                self.assertEqual(answers([number] + [value] * count), [1, -11])

    def test_is_checked_ahead_of_all_else(self):
        calls = [set_people(MOST, MOST), set_road(MOST, MOST, MOST), set_road(0, 0, 51), set_store(MOST, MOST),
                 distance(MOST, MOST), store_distance(MOST), nearest_store(MOST), greatest_distance_without(MOST),
                 greatest_distance_after_loss(), smallest_cover(MOST), greatest_distance_with(MOST),
                 best_additional_store(), greatest_distance_with_road(MOST, MOST, MOST),
                 greatest_distance_with_road(0, 0, 51), places_within(MOST), summary()]
        calls += [call(k) for call in SIZED for k in (0, MOST)]
        self.assertEqual(ask(*calls), [[-11]] * len(calls))

    def test_holds_until_create_has_succeeded(self):
        self.assertEqual(ask(set_people(0, 5), create(0), set_people(0, 6), create(1), set_people(0, 7)),
                         [[-11], [-22], [-11], [0], [1]])


class Refusals(unittest.TestCase):
    def check_unchanged(self, setting, refused):
        expected = ask(*setting, *probe(3))[len(setting):]
        for call, code in refused:
            answer = ask(*setting, call, *probe(3))
            self.assertEqual(answer[len(setting)], [code], call)
            self.assertEqual(answer[len(setting) + 1:], expected, call)

    def test_leave_the_instance_unchanged(self):
        self.check_unchanged([*line_of_three(), set_store(2, 1)], REFUSED)

    def test_leave_a_network_of_two_parts_unchanged(self):
        self.check_unchanged([create(3), set_road(0, 1, 4), set_people(1, 9), set_store(0, 1)], REFUSED_IN_PARTS)

    def test_leave_an_instance_without_stores_unchanged(self):
        refused = [(store_distance(0), -33), (nearest_store(0), -33), (greatest_distance(), -33),
                   (total_distance(), -33), (greatest_distance_without(0), -6), (greatest_distance_after_loss(), -6),
                   (greatest_distance_with_road(0, 2, 1), -33)]
        self.check_unchanged(line_of_three(), refused)

    def test_leave_an_instance_with_stores_everywhere_unchanged(self):
        setting = [*line_of_three(), *[set_store(place, 1) for place in range(3)]]
        refused = [(best_additional_store(), -28)] + [(greatest_distance_with(place), -17) for place in range(3)]
        self.check_unchanged(setting, refused)


class Questions(unittest.TestCase):
    def test_leave_the_instance_unchanged(self):
        setting = [*line_of_three(), set_store(0, 1), set_store(2, 1)]
        expected = ask(*setting, *probe(3))[len(setting):]
        for call in (distance(0, 2), distance_matrix(), is_connected(), store_distance(1), nearest_store(1),
                     greatest_distance(), total_distance(), people_per_store(), greatest_distance_without(0),
                     greatest_distance_after_loss(), best_centers(1), best_medians(1), best_robust_centers(2),
                     smallest_cover(5), farthest_first(1), greatest_distance_with(1), best_additional_store(),
                     greatest_distance_with_road(0, 1, 1), places_within(4), summary()):
            answer = ask(*setting, call, *probe(3))
            self.assertGreaterEqual(answer[len(setting)][0], 0, call)
            self.assertEqual(answer[len(setting) + 1:], expected, call)


if __name__ == "__main__":
    unittest.main()
