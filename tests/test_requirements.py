"""Requirements 1 to 6, and all answers against a slow model, on many networks.

The networks come from a fixed seed, so that every run sees the same ones.
"""

import random
import unittest
from itertools import combinations, permutations

from helper import (
    ARGUMENTS, MOST, ask, best_additional_store, best_centers, best_medians, best_robust_centers, create, distance,
    distance_matrix, farthest_first, greatest_distance, greatest_distance_after_loss, greatest_distance_with,
    greatest_distance_with_road, greatest_distance_without, is_connected, nearest_store, people_per_store,
    places_within, set_people, set_road, set_store, smallest_cover, store_distance, summary, total_distance,
    use_best_centers, use_best_medians, use_best_robust_centers)

FAR = 10 ** 9


class Network:
    """Some places, roads, people and stores, and what the document's terms say of them."""

    def __init__(self, chance, place_count):
        self.count = place_count
        self.people = [chance.choice((0, 1, 2, 50, 99)) for _ in range(place_count)]
        self.roads = {}
        longest = chance.choice((2, 6, 50))
        for a in range(place_count):
            for b in range(a):
                if chance.random() < chance.choice((0.3, 0.6)):
                    self.roads[b, a] = chance.randint(1, longest)
        self.stores = [place for place in range(place_count) if chance.random() < 0.4]

    def connect(self, chance):
        """Add roads so that each place is joined to an earlier one."""
        for place in range(1, self.count):
            self.roads.setdefault((chance.randrange(place), place), chance.randint(1, 6))

    def calls(self):
        calls = [create(self.count)]
        calls += [set_people(place, people) for place, people in enumerate(self.people) if people != 1]
        calls += [set_road(b, a, time) for (a, b), time in self.roads.items()]
        return calls + [set_store(place, 1) for place in self.stores]

    def distance(self, a, b):
        """Try every route: that is what the word in the document means."""
        if a == b:
            return 0
        others = [place for place in range(self.count) if place not in (a, b)]
        best = FAR
        for length in range(len(others) + 1):
            for middle in permutations(others, length):
                route = (a, *middle, b)
                roads = [tuple(sorted(step)) for step in zip(route, route[1:])]
                if all(road in self.roads for road in roads):
                    best = min(best, sum(self.roads[road] for road in roads))
        return best

    def matrix(self):
        return [[self.distance(a, b) for b in range(self.count)] for a in range(self.count)]


def or_refused(number):
    return [-33] if number >= FAR else [number]


def greatest(network, matrix, stores):
    near = [min([row[store] for store in stores], default=FAR) for row in matrix]
    return max([near[place] for place in range(network.count) if network.people[place]], default=0)


def total(network, matrix, stores):
    if greatest(network, matrix, stores) >= FAR:
        return FAR
    return sum(people * min([row[store] for store in stores], default=0) for people, row in zip(network.people, matrix))


def after_loss(network, matrix, stores):
    return max(greatest(network, matrix, [kept for kept in stores if kept != lost]) for lost in stores)


def set_number(places):
    return sum(2 ** place for place in places)


def every_set(network):
    return [places for size in range(network.count + 1) for places in combinations(range(network.count), size)]


def best_set(network, matrix, k, objective):
    sets = [places for places in every_set(network) if len(places) == k]
    return min(sets, key=lambda places: (objective(network, matrix, places), set_number(places)))


def expected_best(network, matrix, k, objective, fewest=1):
    if not fewest <= k <= network.count:
        return [-22]
    if max(max(row) for row in matrix) >= FAR:
        return [-33]
    places = best_set(network, matrix, k, objective)
    return [objective(network, matrix, places), *places]


def expected_farthest_first(network, matrix, k):
    if not 1 <= k <= network.count:
        return [-22]
    if max(max(row) for row in matrix) >= FAR:
        return [-33]
    chosen = []
    peopled = [place for place in range(network.count) if network.people[place]]
    while len(chosen) < k and set(chosen) != set(peopled):
        left = [place for place in peopled if place not in chosen]
        chosen.append(min(left, key=lambda place: (-min([matrix[place][at] for at in chosen], default=FAR), place)))
    return [greatest(network, matrix, chosen), *sorted(chosen)]


def expected_cover(network, matrix, radius):
    covers = [places for places in every_set(network) if greatest(network, matrix, places) <= min(radius, FAR - 1)]
    places = min(covers, key=lambda places: (len(places), set_number(places)))
    return [len(places), *places]


def expected_places_within(network, matrix, radius):
    near = [min([row[store] for store in network.stores], default=FAR) for row in matrix]
    places = [place for place in range(network.count) if near[place] <= min(radius, FAR - 1)]
    return [len(places), *places]


def expected_with(network, matrix, place):
    if place in network.stores:
        return [-17]
    return or_refused(greatest(network, matrix, network.stores + [place]))


def expected_additional(network, matrix):
    free = [place for place in range(network.count) if place not in network.stores]
    if not free:
        return [-28]
    far, place = min((greatest(network, matrix, network.stores + [place]), place) for place in free)
    return [place, -1 if far >= FAR else far]


def choices(network, matrix):
    """Every call that chooses places, each with the answer that the terms ask for."""
    asked = [(best_additional_store(), expected_additional(network, matrix)),
             (summary(), [network.count, sum(network.people), len(network.roads), set_number(network.stores)])]
    for k in (*range(network.count + 2), MOST):
        asked.append((best_centers(k), expected_best(network, matrix, k, greatest)))
        asked.append((best_medians(k), expected_best(network, matrix, k, total)))
        asked.append((best_robust_centers(k), expected_best(network, matrix, k, after_loss, 2)))
        asked.append((farthest_first(k), expected_farthest_first(network, matrix, k)))
    edges = {far + step for row in matrix for far in row for step in (-1, 0) if 0 < far < FAR}
    for radius in sorted(edges | {0, MOST}):
        asked.append((smallest_cover(radius), expected_cover(network, matrix, radius)))
        asked.append((places_within(radius), expected_places_within(network, matrix, radius)))
    for place in range(network.count):
        asked.append((greatest_distance_with(place), expected_with(network, matrix, place)))
    return asked


def expected_answers(network, matrix):
    stores = network.stores
    near = [min([(row[store], store) for store in stores], default=(FAR, FAR)) for row in matrix]
    expected = [[network.count] + [-1 if far >= FAR else far for row in matrix for far in row]]
    expected.append([int(max(max(row) for row in matrix) < FAR)])
    for far, store in near:
        expected.append(or_refused(far))
        expected.append([-33] if far >= FAR else [store])
    expected.append(or_refused(greatest(network, matrix, stores)))
    expected.append(or_refused(sum(people * far for people, (far, _) in zip(network.people, near) if people)))
    served = [sum(network.people[place] for place in range(network.count) if near[place][0] < FAR
                  and near[place][1] == store) for store in stores]
    expected.append([len(stores)] + served)
    without = [greatest(network, matrix, [kept for kept in stores if kept != lost]) for lost in range(network.count)]
    for place in range(network.count):
        expected.append(or_refused(without[place]) if place in stores else [-6])
    expected.append(or_refused(max(without[place] for place in stores)) if stores else [-6])
    return expected


def questions(place_count):
    calls = [distance_matrix(), is_connected()]
    for place in range(place_count):
        calls += [store_distance(place), nearest_store(place)]
    calls += [greatest_distance(), total_distance(), people_per_store()]
    calls += [greatest_distance_without(place) for place in range(place_count)]
    return calls + [greatest_distance_after_loss()]


def in_one_or_more_requests(setting, asked):
    """A request has at most 40 calls and 160 numbers, so the questions may need several."""
    answer = []
    room = 40 - len(setting)
    for start in range(0, len(asked), room):
        answer += ask(*setting, *asked[start:start + room])[len(setting):]
    return answer


def networks(count, most_places):
    chance = random.Random(20)
    for number in range(count):
        yield Network(chance, 1 + number % most_places)


def connected_networks(count, most_places):
    chance = random.Random(33)
    for number in range(count):
        network = Network(chance, 1 + number % most_places)
        network.connect(chance)
        yield network


class Model(unittest.TestCase):
    def test_every_answer_is_that_of_the_terms(self):
        for network in networks(300, 6):
            answer = in_one_or_more_requests(network.calls(), questions(network.count))
            self.assertEqual(answer, expected_answers(network, network.matrix()), network.calls())

    def test_seven_places(self):
        chance = random.Random(7)
        for _ in range(12):
            network = Network(chance, 7)
            answer = in_one_or_more_requests(network.calls(), questions(7))
            self.assertEqual(answer, expected_answers(network, network.matrix()), network.calls())


class ChoicesModel(unittest.TestCase):
    def check(self, network):
        asked = choices(network, network.matrix())
        answer = in_one_or_more_requests(network.calls(), [call for call, _ in asked])
        for (call, expected), told in zip(asked, answer, strict=True):
            self.assertEqual(told, expected, (network.calls(), call))

    def test_every_choice_is_that_of_the_terms(self):
        for network in networks(100, 6):
            self.check(network)

    def test_every_choice_in_connected_networks(self):
        for network in connected_networks(150, 6):
            self.check(network)

    def test_seven_places(self):
        for seed in range(6):
            chance = random.Random(seed)
            network = Network(chance, 7)
            if seed > 0:
                network.connect(chance)
            self.check(network)

    def test_the_best_ones_are_used_as_they_are_told(self):
        kinds = ((use_best_centers, greatest, greatest_distance, 1), (use_best_medians, total, total_distance, 1),
                 (use_best_robust_centers, after_loss, greatest_distance_after_loss, 2))
        for network in connected_networks(60, 6):
            matrix = network.matrix()
            for use, objective, asked, fewest in kinds:
                for k in range(fewest, network.count + 1):
                    far, *places = expected_best(network, matrix, k, objective)
                    used, reached, state = ask(*network.calls(), use(k), asked(), summary())[-3:]
                    self.assertEqual((used, reached, state[-1]), ([far], [far], set_number(places)))

    def test_a_road_that_is_tried_is_as_good_as_a_road_that_is_set(self):
        chance = random.Random(24)
        for network in networks(120, 6):
            for a, b in combinations(range(network.count), 2):
                time = chance.choice((0, 1, 3, 50))
                tried, before = ask(*network.calls(), greatest_distance_with_road(a, b, time), distance_matrix())[-2:]
                self.assertEqual(before, ask(*network.calls(), distance_matrix())[-1])
                self.assertEqual(tried, ask(*network.calls(), set_road(b, a, time), greatest_distance())[-1])


class Optimality(unittest.TestCase):
    def test_no_set_of_so_many_places_is_better(self):
        for network in connected_networks(90, 6):
            matrix = network.matrix()
            for call, objective, fewest in ((best_centers, greatest, 1), (best_medians, total, 1),
                                            (best_robust_centers, after_loss, 2)):
                for k in range(fewest, network.count + 1):
                    told, *places = ask(*network.calls(), call(k))[-1]
                    self.assertEqual(objective(network, matrix, places), told)
                    self.assertEqual(len(set(places)), k)
                    for other in combinations(range(network.count), k):
                        self.assertLessEqual(told, objective(network, matrix, other))


class Approximation(unittest.TestCase):
    def test_farthest_first_is_at_most_twice_the_best(self):
        for network in connected_networks(140, 7):
            for k in range(1, network.count + 1):
                best, told = ask(*network.calls(), best_centers(k), farthest_first(k))[-2:]
                self.assertLessEqual(told[0], 2 * best[0])
                self.assertGreaterEqual(told[0], best[0])


class SmallestCover(unittest.TestCase):
    def test_it_covers_all_and_no_set_with_fewer_places_does(self):
        for network in (*networks(60, 6), *connected_networks(60, 6)):
            matrix = network.matrix()
            for radius in (0, 1, 2, 4, 7, 50, MOST):
                count, *places = ask(*network.calls(), smallest_cover(radius))[-1]
                self.assertEqual(len(set(places)), count)
                self.assertLessEqual(greatest(network, matrix, places), min(radius, FAR - 1))
                for other in every_set(network):
                    if len(other) < count:
                        self.assertGreater(greatest(network, matrix, other), min(radius, FAR - 1))


class Metric(unittest.TestCase):
    def test_distances_are_a_metric(self):
        for network in networks(210, 7):
            told = ask(*network.calls(), distance_matrix())[-1][1:]
            count = network.count
            far = [[FAR if told[a * count + b] < 0 else told[a * count + b] for b in range(count)]
                   for a in range(count)]
            for a in range(count):
                self.assertEqual(far[a][a], 0)
                for b in range(count):
                    self.assertEqual(far[a][b], far[b][a])
                    for c in range(count):
                        self.assertLessEqual(far[a][c], far[a][b] + far[b][c])

    def test_distance_and_the_matrix_agree(self):
        for network in networks(60, 4):
            pairs = [(a, b) for a in range(network.count) for b in range(network.count)]
            answer = ask(*network.calls(), distance_matrix(), *[distance(a, b) for a, b in pairs])
            told = answer[-len(pairs) - 1][1:]
            self.assertEqual(answer[-len(pairs):], [[-33] if far < 0 else [far] for far in told])


class Monotonicity(unittest.TestCase):
    def test_an_additional_store_increases_nothing(self):
        asked = [greatest_distance(), total_distance()]
        for network in networks(140, 7):
            before = ask(*network.calls(), *asked)[-2:]
            for place in range(network.count):
                after = ask(*network.calls(), set_store(place, 1), *asked)[-2:]
                for (old,), (new,) in zip(before, after):
                    if old >= 0:
                        self.assertGreaterEqual(new, 0)
                        self.assertLessEqual(new, old)

    def test_a_store_that_is_tried_increases_nothing(self):
        for network in networks(140, 7):
            for place in range(network.count):
                (old,), (new,) = ask(*network.calls(), greatest_distance(), greatest_distance_with(place))[-2:]
                if old >= 0 and place not in network.stores:
                    self.assertGreaterEqual(new, 0)
                    self.assertLessEqual(new, old)


class Errors(unittest.TestCase):
    def test_a_refused_call_changes_nothing(self):
        chance = random.Random(6)
        for network in networks(120, 5):
            state = [distance_matrix(), summary()] + [set_people(place, 0) for place in range(network.count)]
            expected = ask(*network.calls(), *state)[-len(state):]
            for _ in range(12):
                number = chance.choice(list(ARGUMENTS))
                call = [number] + [chance.choice((0, 1, 4, 5, 51, MOST)) for _ in range(ARGUMENTS[number])]
                told, *answer = ask(*network.calls(), call, *state)[-len(state) - 1:]
                if told[0] < 0:
                    self.assertEqual(answer, expected, (network.calls(), call))


if __name__ == "__main__":
    unittest.main()
