"""Requirements 4 and 5, and all answers against a slow model, on many networks.

The networks come from a fixed seed, so that every run sees the same ones.
"""

import random
import unittest
from itertools import permutations

from helper import (
    ask, create, distance, distance_matrix, greatest_distance, greatest_distance_after_loss,
    greatest_distance_without, is_connected, nearest_store, people_per_store, set_people, set_road, set_store,
    store_distance, total_distance)

FAR = 10 ** 9


class Network:
    """Some places, roads, people and stores, and what the document's terms say of them."""

    def __init__(self, chance, place_count):
        self.count = place_count
        self.people = [chance.choice((0, 1, 2, 50, 99)) for _ in range(place_count)]
        self.roads = {}
        longest = chance.choice((2, 6, 50))
        for a in range(place_count):
            for b in range(a):
                if chance.random() < chance.choice((0.3, 0.6)):
                    self.roads[b, a] = chance.randint(1, longest)
        self.stores = [place for place in range(place_count) if chance.random() < 0.4]

    def calls(self):
        calls = [create(self.count)]
        calls += [set_people(place, people) for place, people in enumerate(self.people) if people != 1]
        calls += [set_road(b, a, time) for (a, b), time in self.roads.items()]
        return calls + [set_store(place, 1) for place in self.stores]

    def distance(self, a, b):
        """Try every route: that is what the word in the document means."""
        if a == b:
            return 0
        others = [place for place in range(self.count) if place not in (a, b)]
        best = FAR
        for length in range(len(others) + 1):
            for middle in permutations(others, length):
                route = (a, *middle, b)
                roads = [tuple(sorted(step)) for step in zip(route, route[1:])]
                if all(road in self.roads for road in roads):
                    best = min(best, sum(self.roads[road] for road in roads))
        return best

    def matrix(self):
        return [[self.distance(a, b) for b in range(self.count)] for a in range(self.count)]


def or_refused(number):
    return [-33] if number >= FAR else [number]


def greatest(network, matrix, stores):
    near = [min([row[store] for store in stores], default=FAR) for row in matrix]
    return max([near[place] for place in range(network.count) if network.people[place]], default=0)


def expected_answers(network, matrix):
    stores = network.stores
    near = [min([(row[store], store) for store in stores], default=(FAR, FAR)) for row in matrix]
    expected = [[network.count] + [-1 if far >= FAR else far for row in matrix for far in row]]
    expected.append([int(max(max(row) for row in matrix) < FAR)])
    for far, store in near:
        expected.append(or_refused(far))
        expected.append([-33] if far >= FAR else [store])
    expected.append(or_refused(greatest(network, matrix, stores)))
    expected.append(or_refused(sum(people * far for people, (far, _) in zip(network.people, near) if people)))
    served = [sum(network.people[place] for place in range(network.count) if near[place][0] < FAR
                  and near[place][1] == store) for store in stores]
    expected.append([len(stores)] + served)
    without = [greatest(network, matrix, [kept for kept in stores if kept != lost]) for lost in range(network.count)]
    for place in range(network.count):
        expected.append(or_refused(without[place]) if place in stores else [-6])
    expected.append(or_refused(max(without[place] for place in stores)) if stores else [-6])
    return expected


def questions(place_count):
    calls = [distance_matrix(), is_connected()]
    for place in range(place_count):
        calls += [store_distance(place), nearest_store(place)]
    calls += [greatest_distance(), total_distance(), people_per_store()]
    calls += [greatest_distance_without(place) for place in range(place_count)]
    return calls + [greatest_distance_after_loss()]


def in_one_or_more_requests(setting, asked):
    """A request has at most 40 calls and 160 numbers, so the questions may need several."""
    answer = []
    room = 40 - len(setting)
    for start in range(0, len(asked), room):
        answer += ask(*setting, *asked[start:start + room])[len(setting):]
    return answer


def networks(count, most_places):
    chance = random.Random(20)
    for number in range(count):
        yield Network(chance, 1 + number % most_places)


class Model(unittest.TestCase):
    def test_every_answer_is_that_of_the_terms(self):
        for network in networks(300, 6):
            answer = in_one_or_more_requests(network.calls(), questions(network.count))
            self.assertEqual(answer, expected_answers(network, network.matrix()), network.calls())

    def test_seven_places(self):
        chance = random.Random(7)
        for _ in range(12):
            network = Network(chance, 7)
            answer = in_one_or_more_requests(network.calls(), questions(7))
            self.assertEqual(answer, expected_answers(network, network.matrix()), network.calls())


class Metric(unittest.TestCase):
    def test_distances_are_a_metric(self):
        for network in networks(210, 7):
            told = ask(*network.calls(), distance_matrix())[-1][1:]
            count = network.count
            far = [[FAR if told[a * count + b] < 0 else told[a * count + b] for b in range(count)]
                   for a in range(count)]
            for a in range(count):
                self.assertEqual(far[a][a], 0)
                for b in range(count):
                    self.assertEqual(far[a][b], far[b][a])
                    for c in range(count):
                        self.assertLessEqual(far[a][c], far[a][b] + far[b][c])

    def test_distance_and_the_matrix_agree(self):
        for network in networks(60, 4):
            pairs = [(a, b) for a in range(network.count) for b in range(network.count)]
            answer = ask(*network.calls(), distance_matrix(), *[distance(a, b) for a, b in pairs])
            told = answer[-len(pairs) - 1][1:]
            self.assertEqual(answer[-len(pairs):], [[-33] if far < 0 else [far] for far in told])


class Monotonicity(unittest.TestCase):
    def test_an_additional_store_increases_nothing(self):
        asked = [greatest_distance(), total_distance()]
        for network in networks(140, 7):
            before = ask(*network.calls(), *asked)[-2:]
            for place in range(network.count):
                after = ask(*network.calls(), set_store(place, 1), *asked)[-2:]
                for (old,), (new,) in zip(before, after):
                    if old >= 0:
                        self.assertGreaterEqual(new, 0)
                        self.assertLessEqual(new, old)


if __name__ == "__main__":
    unittest.main()
