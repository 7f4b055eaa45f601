"""Great inputs are answered in a reasonable time: no step for each unit, no deep recursion."""

import random
import unittest

from plain import BEYOND, ask, narrow, net, pipe, send, ways, within

SECONDS = 30


def doubling_net(depth, factor):
    """A net whose cheapest ways, one by one, double in number with each step of depth.

    Each step puts a start and a goal round the net so far: what fills it cheaply
    first is all to be taken back from it, way by way, to bring as much again.
    Pipes, start, goal, and the gate (holds, cost) of each step.
    """
    pipes = [(0, 1, factor, 0)]
    start, goal, holds, cost = 0, 1, factor, 1
    gates = []
    for step in range(depth):
        outer, last = goal + 1, goal + 2
        pipes += [(outer, start, holds, 0), (goal, last, holds, 0)]
        pipes += [(outer, goal, holds, cost), (start, last, holds, cost)]
        gates.append((holds, cost))
        start, goal, holds, cost = outer, last, 2 * holds, 2 * cost + 1
    return pipes, start, goal, gates


def doubling_cost(gates, units):
    """What so many units cost in a doubling net, told from how it is built."""
    cost = 0
    for holds, price in reversed(gates):
        if units > holds:
            cost += 2 * price * (units - holds)
            units = 2 * holds - units
    return cost


def random_pipes(seed, places, count, reach):
    """A chain of pipes through all places, then pipes at random that lead reach places on at the most."""
    source = random.Random(seed)
    pipes = [(place, place + 1, source.randint(1, 2 ** 62), source.randint(0, 10 ** 9)) for place in range(places - 1)]
    while len(pipes) < count:
        a = source.randrange(places)
        b = min(places - 1, max(0, a + source.randint(-reach // 2, reach)))
        pipes.append((a, b, source.randint(0, 2 ** 62), source.randint(0, 10 ** 9)))
    return pipes


class Great(unittest.TestCase):
    def timed(self, *calls):
        return within(SECONDS, lambda: ask(*calls))

    def test_a_narrow_pipe_across_two_great_ways(self):
        many = 2 ** 62
        for cost in (0, 1):
            pipes = [(0, 1, many, cost), (0, 2, many, cost), (1, 2, 1, 0), (2, 1, 1, 0), (1, 3, many, cost),
                     (2, 3, many, cost)]
            rows = self.timed(*net(4, pipes), send(0, 3), narrow(0), narrow(1))
            self.assertEqual(rows[7:], [[0, 2 * many, 4 * many * cost], [1, 1, 0, 0, 0], [3, 1, 1, 1, 0]])

    def test_ways_that_double_and_double(self):
        pipes, start, goal, gates = doubling_net(29, 2 ** 32 + 1)
        whole = 2 * gates[-1][0]
        for most in (1, gates[-1][0] - 1, gates[-1][0] + 12345678901, whole - 98765432109, whole, BEYOND):
            rows = self.timed(*net(goal + 1, pipes), send(start, goal, most))
            units = min(most, whole)
            self.assertEqual(rows[-1], [0, units, doubling_cost(gates, units)])

    def test_a_chain_of_256_places_there_and_back(self):
        pipes = [(place, place + 1, 2 ** 62 - place % 7, 10 ** 9) for place in range(255)]
        pipes += [(place + 1, place, 2 ** 62, 1) for place in range(140)]
        rows = self.timed(*net(256, pipes), send(0, 255), narrow(0), narrow(1), ways(0, 255))
        units = 2 ** 62 - 6
        self.assertEqual(rows[-4], [0, units, units * 255 * 10 ** 9])
        self.assertEqual(rows[-3], [7] + [1] * 7 + [0] * 249)
        self.assertEqual(rows[-2], [252] + [1] * 252 + [0] * 4)
        self.assertEqual(rows[-1], [1])

    def test_a_long_chain_of_choices(self):
        pipes = []
        for place in range(132):
            pipes += [(place, place + 1, 2 ** 61 + place, 5), (place, place + 1, 2 ** 62, 7), (place, place + 1, 9, 1)]
        rows = self.timed(*net(133, pipes), send(0, 132), narrow(0, 0), ways(0, 132))
        cost = sum(9 + 5 * (2 ** 61 + place) + 7 * (2 ** 62 - place) for place in range(132))
        self.assertEqual(rows[-3:], [[0, 2 ** 61 + 2 ** 62 + 9, cost], [1], [3]])

    def test_as_many_pipes_as_a_list_of_calls_has_room_for(self):
        for places, reach in ((256, 3), (100, 6), (30, 30), (2, 2)):
            pipes = random_pipes(places, places, 393, reach)
            last = places - 1
            rows = self.timed(*net(places, pipes), send(0, last), narrow(0), narrow(1), send(0, last, 10 ** 18),
                              ways(0, last), send(last, 0))
            self.assert_as_wide_as_its_walls(places, pipes, rows[-6:-3])
            self.assertEqual(rows[-3][1], min(10 ** 18, rows[-6][1]))
            self.assertLessEqual(rows[-3][2], rows[-6][2])
            self.assertGreater(rows[-6][1], 0)

    def assert_as_wide_as_its_walls(self, places, pipes, rows):
        if rows[0][1] == BEYOND:
            self.assertEqual(rows[1:], [[-1], [-1]])
            return
        for row in rows[1:]:
            wall = row[1:]
            self.assertEqual((row[0], wall[0], wall[places - 1]), (sum(wall), 1, 0))
            out = sum(each[2] for each in pipes if wall[each[0]] == 1 and wall[each[1]] == 0)
            self.assertEqual(out, rows[0][1])

    def test_half_pipes_half_sends(self):
        for places, reach in ((60, 60), (50, 5), (2, 2)):
            pipes = random_pipes(places + 1, places, 200, reach)
            rows = self.timed(*net(places, pipes), *[send(0, places - 1)] * 199)
            self.assertEqual(rows[201:], [rows[201]] * 199)

    def test_half_pipes_half_ways(self):
        pipes = random_pipes(31, 40, 200, 12)
        rows = self.timed(*net(40, pipes), *[ways(0, 39)] * 100, *[ways(39, 0)] * 99)
        self.assertEqual(rows[201:], [rows[201]] * 100 + [rows[301]] * 99)

    def test_a_pipe_and_a_send_by_turns(self):
        calls = [call for each in random_pipes(41, 20, 199, 20) for call in (pipe(*each), send(0, 19))]
        rows = self.timed([1, 20], *calls)
        units = [row[1] for row in rows[2::2]]
        self.assertEqual(units, sorted(units))
        self.assertGreater(units[-1], 2 ** 62)
