"""The best sets under the three objectives, the calls that use them, and the farthest-first set."""

import unittest

from helper import (
    MOST, ask, best_centers, best_medians, best_robust_centers, create, farthest_first, greatest_distance,
    greatest_distance_after_loss, last, line_of_three, nobody, path, people_per_store, probe, set_people, set_road,
    set_store, summary, total_distance, use_best_centers, use_best_medians, use_best_robust_centers)


def network(people, roads):
    """A network with these people by place, and the roads as pairs of places with their times."""
    calls = [create(len(people))] + [set_people(place, number) for place, number in enumerate(people)]
    return calls + [set_road(a, b, time) for (a, b), time in roads.items()]


def nobody_on_a_path(place_count):
    return path(place_count, 5) + [set_people(place, 0) for place in range(place_count)]


PLAIN = (best_centers, best_medians, farthest_first, use_best_centers, use_best_medians)
ROBUST = (best_robust_centers, use_best_robust_centers)


class Refusals(unittest.TestCase):
    def test_sizes_that_are_not_allowed(self):
        for place_count in range(1, 8):
            for k in (0, place_count + 1, 8, 255, 256, 2 ** 31, 2 ** 32 - 2, MOST):
                for call in PLAIN + ROBUST:
                    self.assertEqual(last(*path(place_count, 1), call(k)), [-22], (call, k))

    def test_the_robust_ones_refuse_1(self):
        for place_count in range(1, 8):
            for call in ROBUST:
                self.assertEqual(last(*path(place_count, 1), call(1)), [-22])

    def test_every_other_size_is_allowed(self):
        for place_count in range(1, 8):
            for k in range(1, place_count + 1):
                for call in PLAIN:
                    self.assertGreaterEqual(last(*path(place_count, 1), call(k))[0], 0)
            for k in range(2, place_count + 1):
                for call in ROBUST:
                    self.assertGreaterEqual(last(*path(place_count, 1), call(k))[0], 0)

    def test_a_network_that_is_not_connected(self):
        for k in (1, 2, 3):
            for call in PLAIN:
                self.assertEqual(last(create(3), set_road(0, 1, 4), call(k)), [-33])
        for k in (2, 3):
            for call in ROBUST:
                self.assertEqual(last(create(3), set_road(0, 1, 4), call(k)), [-33])

    def test_a_network_that_a_removed_road_leaves_unconnected(self):
        for call in PLAIN + ROBUST:
            answer = ask(*line_of_three(), call(2), set_road(2, 1, 0), call(2))
            self.assertGreaterEqual(answer[-3][0], 0)
            self.assertEqual(answer[-1], [-33])

    def test_a_place_without_people_must_be_connected_too(self):
        for call in PLAIN + ROBUST:
            self.assertEqual(last(*line_of_three(), set_people(0, 0), set_road(0, 1, 0), call(2)), [-33])
            self.assertEqual(last(*nobody(2), call(2)), [-33])

    def test_stores_everywhere_do_not_make_it_connected(self):
        for call in PLAIN + ROBUST:
            self.assertEqual(last(create(2), set_store(0, 1), set_store(1, 1), call(2)), [-33])

    def test_the_size_is_checked_ahead_of_the_network(self):
        for k in (0, 4, MOST):
            for call in PLAIN + ROBUST:
                self.assertEqual(last(create(3), call(k)), [-22])
        for call in ROBUST:
            self.assertEqual(last(create(3), call(1)), [-22])


class BestCenters(unittest.TestCase):
    def test_the_line_of_the_examples(self):
        answer = ask(*line_of_three(), best_centers(1), best_centers(2), best_centers(3))
        self.assertEqual(answer[4:], [[6, 1], [4, 0, 2], [0, 0, 1, 2]])

    def test_one_place(self):
        self.assertEqual(last(create(1), best_centers(1)), [0, 0])

    def test_the_number_of_people_does_not_matter(self):
        self.assertEqual(last(*path(3, 5), set_people(2, 99), best_centers(1)), [5, 1])

    def test_places_without_people_are_ignored(self):
        self.assertEqual(last(*path(3, 5), set_people(2, 0), best_centers(1)), [5, 0])
        self.assertEqual(last(*path(5, 5), set_people(3, 0), set_people(4, 0), best_centers(1)), [5, 1])

    def test_a_place_without_people_may_be_the_best(self):
        self.assertEqual(last(*path(3, 5), set_people(1, 0), best_centers(1)), [5, 1])

    def test_nobody_at_any_place(self):
        for k in range(1, 5):
            self.assertEqual(last(*nobody_on_a_path(4), best_centers(k)), [0] + list(range(k)))

    def test_a_tie_goes_to_the_smaller_set_number(self):
        self.assertEqual(last(create(2), set_road(0, 1, 3), best_centers(1)), [3, 0])
        self.assertEqual(last(*path(3, 5), best_centers(2)), [5, 0, 1])
        # The best ones are {1, 2} = 6, {0, 4} = 17 and {1, 4} = 18.
        roads = {(0, 1): 2, (1, 3): 3, (2, 4): 4, (3, 4): 3}
        self.assertEqual(last(*network([3, 0, 2, 3, 1], roads), best_centers(2)), [4, 1, 2])

    def test_there_are_exactly_k_places_even_if_fewer_would_do(self):
        calls = [*path(4, 5), set_people(0, 0), set_people(1, 0), set_people(2, 0)]
        self.assertEqual(last(*calls, best_centers(1)), [0, 3])
        self.assertEqual(last(*calls, best_centers(2)), [0, 0, 3])
        self.assertEqual(last(*calls, best_centers(3)), [0, 0, 1, 3])

    def test_seven_places(self):
        self.assertEqual(last(*path(7, 50), best_centers(1)), [150, 3])
        self.assertEqual(last(*path(7, 50), best_centers(7)), [0, 0, 1, 2, 3, 4, 5, 6])

    def test_the_stores_do_not_matter(self):
        self.assertEqual(last(*line_of_three(), set_store(0, 1), set_store(2, 1), best_centers(1)), [6, 1])


class BestMedians(unittest.TestCase):
    def test_the_line_of_the_examples(self):
        answer = ask(*line_of_three(), best_medians(1), best_medians(2), best_medians(3))
        self.assertEqual(answer[4:], [[16, 2], [4, 0, 2], [0, 0, 1, 2]])

    def test_one_place(self):
        self.assertEqual(last(create(1), set_people(0, 99), best_medians(1)), [0, 0])

    def test_the_number_of_people_matters(self):
        for place in range(3):
            self.assertEqual(last(*path(3, 5), set_people(place, 99), best_medians(1))[1:], [place])

    def test_places_without_people_are_ignored(self):
        self.assertEqual(last(*path(3, 5), set_people(2, 0), set_people(0, 2), best_medians(1)), [5, 0])

    def test_nobody_at_any_place(self):
        for k in range(1, 5):
            self.assertEqual(last(*nobody_on_a_path(4), best_medians(k)), [0] + list(range(k)))

    def test_a_tie_goes_to_the_smaller_set_number(self):
        self.assertEqual(last(create(2), set_road(0, 1, 3), best_medians(1)), [3, 0])
        # The best ones are {1, 2} = 6, {0, 3} = 9 and {2, 3} = 12.
        roads = {(0, 1): 3, (0, 2): 4, (1, 3): 2}
        self.assertEqual(last(*network([2, 1, 2, 2], roads), best_medians(2)), [10, 1, 2])
        # The best ones are {1, 2, 4} = 22 and {0, 3, 4} = 25.
        roads = {(0, 1): 1, (0, 2): 1, (2, 3): 2, (1, 4): 3, (3, 4): 4}
        self.assertEqual(last(*network([2, 3, 3, 2, 3], roads), best_medians(3)), [6, 1, 2, 4])

    def test_seven_places(self):
        calls = path(7, 50) + [set_people(place, 99) for place in range(7)]
        self.assertEqual(last(*calls, best_medians(1)), [99 * 600, 3])
        self.assertEqual(last(*calls, best_medians(7)), [0, 0, 1, 2, 3, 4, 5, 6])

    def test_the_stores_do_not_matter(self):
        self.assertEqual(last(*line_of_three(), set_store(0, 1), set_store(1, 1), best_medians(1)), [16, 2])


class BestRobustCenters(unittest.TestCase):
    def test_the_line_of_the_examples(self):
        answer = ask(*line_of_three(), best_robust_centers(2), best_robust_centers(3))
        self.assertEqual(answer[4:], [[10, 0, 1], [6, 0, 1, 2]])

    def test_two_places(self):
        self.assertEqual(last(create(2), set_road(0, 1, 3), best_robust_centers(2)), [3, 0, 1])

    def test_the_two_in_the_middle_are_best(self):
        self.assertEqual(last(*path(4, 5), best_robust_centers(2)), [10, 1, 2])

    def test_places_without_people_are_ignored(self):
        self.assertEqual(last(*line_of_three(), set_people(0, 0), best_robust_centers(2)), [6, 1, 2])

    def test_nobody_at_any_place(self):
        for k in range(2, 5):
            self.assertEqual(last(*nobody_on_a_path(4), best_robust_centers(k)), [0] + list(range(k)))

    def test_a_tie_goes_to_the_smaller_set_number(self):
        # The best ones are {0, 2, 3} = 13, {0, 1, 4} = 19 and {0, 3, 4} = 25.
        roads = {(0, 1): 3, (0, 3): 1, (1, 3): 2, (0, 4): 2, (2, 4): 2}
        self.assertEqual(last(*network([3, 0, 0, 1, 2], roads), best_robust_centers(3)), [2, 0, 2, 3])

    def test_seven_places(self):
        self.assertEqual(last(*path(7, 50), best_robust_centers(2)), [200, 2, 3])
        self.assertEqual(last(*path(7, 50), best_robust_centers(7)), [50, 0, 1, 2, 3, 4, 5, 6])

    def test_the_stores_do_not_matter(self):
        self.assertEqual(last(*line_of_three(), set_store(2, 1), best_robust_centers(2)), [10, 0, 1])


class FarthestFirst(unittest.TestCase):
    def test_the_line_of_the_examples(self):
        answer = ask(*line_of_three(), farthest_first(1), farthest_first(2), farthest_first(3))
        self.assertEqual(answer[4:], [[10, 0], [4, 0, 2], [0, 0, 1, 2]])

    def test_it_need_not_be_the_best(self):
        self.assertEqual(ask(*path(3, 5), farthest_first(1), best_centers(1))[-2:], [[10, 0], [5, 1]])

    def test_the_first_is_the_smallest_place_with_people(self):
        self.assertEqual(last(*path(3, 5), set_people(0, 0), farthest_first(1)), [5, 1])
        self.assertEqual(last(*path(3, 5), set_people(0, 0), set_people(1, 0), farthest_first(1)), [0, 2])

    def test_the_number_of_people_does_not_matter(self):
        self.assertEqual(last(*path(3, 5), set_people(1, 99), farthest_first(2)), [5, 0, 2])

    def test_places_without_people_are_not_chosen(self):
        self.assertEqual(last(*path(4, 5), set_people(3, 0), farthest_first(2)), [5, 0, 2])

    def test_there_are_fewer_places_if_fewer_have_people(self):
        calls = [*path(4, 5), set_people(1, 0), set_people(2, 0)]
        for k, expected in ((1, [15, 0]), (2, [0, 0, 3]), (3, [0, 0, 3]), (4, [0, 0, 3])):
            self.assertEqual(last(*calls, farthest_first(k)), expected)

    def test_nobody_at_any_place(self):
        for k in range(1, 5):
            self.assertEqual(last(*nobody_on_a_path(4), farthest_first(k)), [0])

    def test_one_place(self):
        self.assertEqual(last(create(1), farthest_first(1)), [0, 0])
        self.assertEqual(last(*nobody(1), farthest_first(1)), [0])

    def test_a_tie_goes_to_the_smaller_place_number(self):
        star = [create(4), set_road(1, 0, 5), set_road(2, 0, 7), set_road(3, 0, 7)]
        self.assertEqual(last(*star, farthest_first(2)), [7, 0, 2])
        self.assertEqual(last(*star, farthest_first(3)), [5, 0, 2, 3])

    def test_the_distance_from_all_that_are_chosen_counts(self):
        # From 0 the farthest is 4; then 2 is 10 from both, though 1 and 3 are far from one each.
        self.assertEqual(last(*path(5, 5), farthest_first(3)), [5, 0, 2, 4])

    def test_the_places_are_told_in_increasing_order(self):
        # They are chosen in the order 0, 6, 3.
        self.assertEqual(last(*path(7, 50), farthest_first(3)), [50, 0, 3, 6])

    def test_the_stores_do_not_matter(self):
        self.assertEqual(last(*line_of_three(), set_store(1, 1), farthest_first(2)), [4, 0, 2])


class Use(unittest.TestCase):
    CASES = (
        (use_best_centers, best_centers, greatest_distance, 1),
        (use_best_medians, best_medians, total_distance, 1),
        (use_best_robust_centers, best_robust_centers, greatest_distance_after_loss, 2),
    )

    def test_the_examples(self):
        self.assertEqual(ask(*line_of_three(), use_best_medians(1), summary())[4:], [[16], [3, 7, 2, 4]])
        self.assertEqual(ask(*line_of_three(), use_best_centers(1), summary())[4:], [[6], [3, 7, 2, 2]])
        self.assertEqual(ask(*line_of_three(), use_best_robust_centers(2), summary())[4:], [[10], [3, 7, 2, 3]])

    def test_the_stores_are_the_places_that_are_told(self):
        for use, best, objective, fewest in self.CASES:
            for k in range(fewest, 5):
                calls = [*path(4, 5), set_people(0, 7), set_people(2, 0)]
                told, used, state, reached = ask(*calls, best(k), use(k), summary(), objective())[-4:]
                self.assertEqual(used, told[:1])
                self.assertEqual(state[-1], sum(2 ** place for place in told[1:]))
                self.assertEqual(reached, told[:1])

    def test_earlier_stores_are_closed(self):
        opened = [set_store(place, 1) for place in range(3)]
        self.assertEqual(ask(*line_of_three(), *opened, use_best_centers(1), people_per_store())[-2:], [[6], [1, 7]])
        self.assertEqual(ask(*line_of_three(), *opened, use_best_medians(1), people_per_store())[-2:], [[16], [1, 7]])
        self.assertEqual(ask(*line_of_three(), *opened, use_best_robust_centers(2), people_per_store())[-2:],
                         [[10], [2, 1, 6]])

    def test_they_can_be_used_one_after_another(self):
        answer = ask(*line_of_three(), use_best_centers(3), summary(), use_best_medians(1), summary(),
                     use_best_centers(1), summary(), use_best_robust_centers(2), summary())
        self.assertEqual([state[-1] for state in answer[5::2]], [7, 4, 2, 3])

    def test_nothing_else_is_changed(self):
        for use, _, _, _ in self.CASES:
            answer = ask(*line_of_three(), use(2), *probe(3))
            expected = ask(*line_of_three(), *probe(3))[4:]
            without_stores = [probe(3).index(call) for call in probe(3) if call[0] != 3]
            self.assertEqual([answer[5:][at] for at in without_stores], [expected[at] for at in without_stores])

    def test_nobody_at_any_place(self):
        for use, _, _, _ in self.CASES:
            self.assertEqual(ask(*nobody_on_a_path(3), use(2), summary())[-2:], [[0], [3, 0, 2, 3]])

    def test_a_refusal_leaves_the_stores(self):
        for use, _, _, _ in self.CASES:
            for k in (0, 4, MOST):
                self.assertEqual(ask(*line_of_three(), set_store(1, 1), use(k), summary())[-2:], [[-22], [3, 7, 2, 2]])
            self.assertEqual(ask(create(3), set_store(1, 1), use(2), summary())[-2:], [[-33], [3, 3, 0, 2]])


if __name__ == "__main__":
    unittest.main()
