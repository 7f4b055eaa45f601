"""Point 5: ways that have no pipe in common."""

import random
import unittest

from plain import all_ways, ask, least_walls, most_apart, narrow, net, new, pipe, random_nets, send, ways

LEAST = -2147483648
GREATEST = 2147483647


class Ordinary(unittest.TestCase):
    def count(self, places, pipes, a, b):
        return ask(*net(places, pipes), ways(a, b))[-1]

    def test_none_and_one(self):
        self.assertEqual(self.count(2, [], 0, 1), [0])
        self.assertEqual(self.count(2, [(0, 1, 5, 7)], 0, 1), [1])
        self.assertEqual(self.count(2, [(0, 1, 5, 7)], 1, 0), [0])
        self.assertEqual(self.count(3, [(0, 1, 5, 7)], 0, 2), [0])

    def test_several_pipes_between_two_places_are_ways_of_their_own(self):
        self.assertEqual(self.count(2, [(0, 1, 1, 0)] * 9, 0, 1), [9])

    def test_how_much_a_pipe_holds_does_not_count(self):
        self.assertEqual(self.count(3, [(0, 1, 2 ** 62, 0), (1, 2, 2 ** 62, 0)], 0, 2), [1])

    def test_pipes_that_hold_0_are_left_out(self):
        self.assertEqual(self.count(2, [(0, 1, 0, 0), (0, 1, 1, 0), (0, 1, 0, 5)], 0, 1), [1])
        self.assertEqual(self.count(3, [(0, 1, 3, 0), (1, 2, 0, 0)], 0, 2), [0])

    def test_ways_may_share_a_place(self):
        self.assertEqual(self.count(3, [(0, 1, 1, 0), (0, 1, 1, 0), (1, 2, 1, 0), (1, 2, 1, 0)], 0, 2), [2])

    def test_a_first_way_must_not_stand_in_the_way_of_two(self):
        pipes = [(0, 1, 1, 9), (1, 2, 1, 0), (2, 3, 1, 9), (0, 2, 1, 9), (1, 3, 1, 9)]
        self.assertEqual(self.count(4, pipes, 0, 3), [2])

    def test_a_pipe_to_the_same_place_is_no_way(self):
        self.assertEqual(self.count(2, [(0, 0, 1, 0), (1, 1, 1, 0)], 0, 1), [0])
        self.assertEqual(self.count(2, [(0, 0, 1, 0), (0, 1, 1, 0), (1, 1, 1, 0)], 0, 1), [1])


class Wrong(unittest.TestCase):
    def test_ends_out_of_range(self):
        for place in (LEAST, -1, 3, 256, GREATEST):
            self.assertEqual(ask(new(3), ways(place, 0), ways(0, place), ways(place, place)), [[0], [-2], [-2], [-2]])

    def test_a_and_b_the_same(self):
        for place in (0, 1, 2):
            self.assertEqual(ask(new(3), pipe(place, place), ways(place, place))[-1], [-2])

    def test_the_last_place_is_in_range(self):
        self.assertEqual(ask(new(256), pipe(255, 0), pipe(0, 255), ways(255, 0), ways(0, 255))[-2:], [[1], [1]])


class ChangesNothing(unittest.TestCase):
    PIPES = [(0, 1, 5, 2), (1, 2, 3, 2), (0, 2, 0, 1), (0, 2, 4, 9)]

    def test_what_is_sent_is_the_same_behind_it(self):
        rows = ask(*net(3, self.PIPES), send(0, 2), ways(0, 2), ways(0, 2), send(0, 2), pipe(1, 0))
        self.assertEqual(rows[5:], [[0, 7, 48], [2], [2], [0, 7, 48], [4]])

    def test_what_is_kept_stays(self):
        rows = ask(*net(3, self.PIPES), send(0, 2), ways(0, 1), ways(2, 0), narrow(0), narrow(1))
        self.assertEqual(rows[-2:], [[2, 1, 1, 0], [2, 1, 1, 0]])

    def test_a_flow_that_is_kept_does_not_count(self):
        rows = ask(*net(2, [(0, 1, 1, 1), (0, 1, 1, 1)]), send(0, 1, 1), ways(0, 1), send(0, 1), ways(0, 1))
        self.assertEqual(rows[-3:], [[2], [0, 2, 2], [2]])


class AgainstPlainWays(unittest.TestCase):
    def test_all_ways_of_small_nets(self):
        source = random.Random(21)
        for places, pipes in random_nets(21, 500, 6, 10, 3, 5):
            a, b = source.sample(range(places), 2)
            self.assertEqual(ask(*net(places, pipes), ways(a, b))[-1], [most_apart(all_ways(pipes, a, b))],
                             (places, pipes, a, b))

    def test_the_fewest_pipes_out_of_a_wall(self):
        for places, pipes in random_nets(22, 300, 7, 30, 3, 5):
            single = [(each[0], each[1], min(1, each[2]), 0) for each in pipes]
            self.assertEqual(ask(*net(places, pipes), ways(0, 1))[-1], [least_walls(places, single, 0, 1)[1]],
                             (places, pipes))
