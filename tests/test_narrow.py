"""Point 4: the narrowest walls."""

import random
import unittest

from plain import ask, least_walls, narrow, net, new, pipe, random_nets, send, ways

LEAST = -2147483648
GREATEST = 2147483647
CHAIN = [(0, 1, 5, 1), (1, 2, 3, 1), (2, 3, 3, 1), (3, 4, 8, 1)]


class Ordinary(unittest.TestCase):
    def test_one_pipe(self):
        rows = ask(*net(2, [(0, 1, 4, 1)]), send(0, 1), narrow(0), narrow(1))
        self.assertEqual(rows[3:], [[1, 1, 0], [1, 1, 0]])

    def test_nearest_to_the_beginning_and_to_the_end(self):
        rows = ask(*net(5, CHAIN), send(0, 4), narrow(0), narrow(1))
        self.assertEqual(rows[6:], [[2, 1, 1, 0, 0, 0], [3, 1, 1, 1, 0, 0]])

    def test_backwards(self):
        turned = [(each[1], each[0]) + each[2:] for each in CHAIN]
        rows = ask(*net(5, turned), send(4, 0), narrow(0), narrow(1))
        self.assertEqual(rows[6:], [[2, 0, 0, 0, 1, 1], [3, 0, 0, 1, 1, 1]])

    def test_places_that_no_pipe_reaches_are_in_the_greatest_alone(self):
        rows = ask(*net(7, CHAIN), send(0, 4), narrow(0), narrow(1))
        self.assertEqual(rows[6:], [[2, 1, 1, 0, 0, 0, 0, 0], [5, 1, 1, 1, 0, 0, 1, 1]])

    def test_walls_of_width_0(self):
        pipes = [(0, 1, 3, 1), (1, 2, 0, 1), (2, 3, 3, 1)]
        rows = ask(*net(5, pipes), send(0, 3, 1), narrow(0), narrow(1))
        self.assertEqual(rows[4:], [[0, 0, 0], [2, 1, 1, 0, 0, 0], [3, 1, 1, 0, 0, 1]])

    def test_a_net_without_pipes(self):
        rows = ask(new(256), send(7, 9), narrow(0), narrow(1))
        self.assertEqual(rows[2], [1] + [1 if place == 7 else 0 for place in range(256)])
        self.assertEqual(rows[3], [255] + [0 if place == 9 else 1 for place in range(256)])

    def test_a_pipe_into_the_wall_is_not_part_of_its_width(self):
        pipes = [(0, 1, 2, 0), (1, 2, 5, 0), (2, 0, 9, 0), (2, 1, 9, 0)]
        rows = ask(*net(3, pipes), send(0, 2), narrow(0), narrow(1))
        self.assertEqual(rows[5:], [[0, 2, 0], [1, 1, 0, 0], [1, 1, 0, 0]])

    def test_walls_wider_than_64_bits_beside_the_narrowest(self):
        pipes = [(0, 1, 2 ** 62, 0)] * 6 + [(1, 2, 2 ** 62, 0)] * 3 + [(2, 3, 2 ** 62, 0)] * 6
        rows = ask(*net(4, pipes), send(0, 3), narrow(0), narrow(1))
        self.assertEqual(rows[16:], [[0, 3 * 2 ** 62, 0], [2, 1, 1, 0, 0], [2, 1, 1, 0, 0]])

    def test_none_is_told_if_the_narrowest_is_wider_than_any_most(self):
        pipes = [(0, 1, 2 ** 62, 0)] * 4
        self.assertEqual(ask(*net(2, pipes), send(0, 1), narrow(0))[5:], [[0, 2 ** 64 - 1, 0], [-1]])


class PlaceForFewer(unittest.TestCase):
    def test_most_cuts_the_list_but_not_the_count(self):
        whole = [3, 1, 1, 1, 0, 0]
        for most in (0, 1, 2, 3, 4, 5, 6, 255, 256):
            self.assertEqual(ask(*net(5, CHAIN), send(0, 4), narrow(1, most))[-1], whole[:1 + most])

    def test_256_places(self):
        pipes = [(place, place + 1, 300 - place, 0) for place in range(255)]
        for most in (0, 1, 128, 255, 256):
            rows = ask(*net(256, pipes), send(0, 255), narrow(0, most), narrow(1, most))
            self.assertEqual(rows[-2:], [[255] + ([1] * 255 + [0])[:most]] * 2)


class Wrong(unittest.TestCase):
    def test_far_out_of_range(self):
        for far in (LEAST, -1, 2, 256, GREATEST):
            self.assertEqual(ask(*net(5, CHAIN), send(0, 4), narrow(far))[-1], [-2])

    def test_most_out_of_range(self):
        for most in (LEAST, -1, 257, GREATEST):
            self.assertEqual(ask(*net(5, CHAIN), send(0, 4), narrow(0, most), narrow(1, most))[-2:], [[-2], [-2]])

    def test_out_of_range_comes_before_no_flow(self):
        for wrong in (narrow(-1), narrow(2), narrow(0, -1), narrow(0, 257), narrow(2, 257)):
            self.assertEqual(ask(new(2), wrong), [[0], [-2]])
            self.assertEqual(ask(new(2), pipe(0, 1), send(0, 1, 1), wrong)[-1], [-2])


class WhatIsKept(unittest.TestCase):
    SENT = net(5, CHAIN) + [send(0, 4)]
    KEPT = [2, 1, 1, 0, 0, 0]

    def test_before_any_send(self):
        self.assertEqual(ask(*net(5, CHAIN), narrow(0), narrow(1), narrow(0, 0))[-3:], [[-1]] * 3)

    def test_the_flow_stays_from_one_narrow_to_the_next(self):
        self.assertEqual(ask(*self.SENT, *[narrow(0)] * 4)[-4:], [self.KEPT] * 4)

    def test_gone_after_a_pipe(self):
        for more in (pipe(0, 4, 1, 1), pipe(2, 2, 0, 0)):
            self.assertEqual(ask(*self.SENT, more, narrow(0))[-2:], [[4], [-1]])

    def test_gone_after_a_new_net(self):
        for places in (2, 5):
            self.assertEqual(ask(*self.SENT, new(places), narrow(0))[-2:], [[0], [-1]])

    def test_not_after_a_send_that_brings_its_most(self):
        for most in (0, 1, 2, 3):
            self.assertEqual(ask(*net(5, CHAIN), send(0, 4, most), narrow(0), narrow(1))[-2:], [[-1], [-1]])
        self.assertEqual(ask(*net(5, CHAIN), send(0, 4, 4), narrow(0))[-1], self.KEPT)

    def test_a_later_send_takes_the_place_of_the_flow(self):
        rows = ask(*self.SENT, send(0, 2), narrow(0), send(3, 4), narrow(1), send(0, 4, 3), narrow(0))
        self.assertEqual(rows[6:], [[0, 3, 6], [2, 1, 1, 0, 0, 0], [0, 8, 8], [4, 1, 1, 1, 1, 0], [0, 3, 12], [-1]])

    def test_refused_calls_leave_it(self):
        refused = [
            new(1), new(257), pipe(-1, 0), pipe(0, 5), pipe(0, 1, 2 ** 62 + 1), pipe(0, 1, 1, 10 ** 9 + 1),
            pipe(0, 1, 1, -1), send(0, 0), send(-1, 0), send(0, 5), narrow(2), narrow(0, 257), ways(0, 0), ways(0, 5),
        ]
        for call in refused:
            self.assertEqual(ask(*self.SENT, call, narrow(0))[-2:], [[-2], self.KEPT], call)

    def test_a_refused_narrow_leaves_it(self):
        self.assertEqual(ask(*self.SENT, narrow(0, -1), narrow(-1), narrow(0))[-3:], [[-2], [-2], self.KEPT])

    def test_ways_leave_it(self):
        self.assertEqual(ask(*self.SENT, ways(0, 4), ways(4, 0), ways(1, 2), narrow(0))[-1], self.KEPT)

    def test_ways_keep_nothing_of_their_own(self):
        self.assertEqual(ask(*net(5, CHAIN), ways(0, 4), narrow(0))[-2:], [[1], [-1]])


class AgainstAllWalls(unittest.TestCase):
    def check(self, places, pipes, start, goal):
        least = least_walls(places, pipes, start, goal)[0]
        smallest = [min(column) for column in zip(*least)]
        greatest = [max(column) for column in zip(*least)]
        self.assertIn(tuple(smallest), least)
        self.assertIn(tuple(greatest), least)
        rows = ask(*net(places, pipes), send(start, goal), narrow(0), narrow(1))
        self.assertEqual(rows[-2:], [[sum(smallest)] + smallest, [sum(greatest)] + greatest],
                         (places, pipes, start, goal))

    def test_small_holds(self):
        source = random.Random(11)
        for places, pipes in random_nets(11, 700, 7, 16, 2, 3):
            start, goal = source.sample(range(places), 2)
            self.check(places, pipes, start, goal)

    def test_great_holds(self):
        for places, pipes in random_nets(12, 200, 6, 12, 2, 10 ** 9):
            great = [each[:2] + (each[2] * 2 ** 59,) + each[3:] for each in pipes]
            self.check(places, great, 0, 1)
