"""Point 3: as much as can be, at the least cost."""

import random
import unittest

from plain import (
    BEYOND, ask, best_of_all_flows, least_walls, narrow, net, new, pipe, random_nets, send, unit_by_unit, way_by_way,
)

LEAST = -2147483648
GREATEST = 2147483647


class Ordinary(unittest.TestCase):
    def sent(self, places, pipes, start, goal, most=BEYOND):
        return ask(*net(places, pipes), send(start, goal, most))[-1]

    def test_one_pipe(self):
        self.assertEqual(self.sent(2, [(0, 1, 7, 3)], 0, 1), [0, 7, 21])

    def test_no_pipe_at_all(self):
        self.assertEqual(self.sent(2, [], 0, 1), [0, 0, 0])
        self.assertEqual(self.sent(256, [], 255, 0), [0, 0, 0])

    def test_pipes_one_behind_another(self):
        self.assertEqual(self.sent(4, [(0, 1, 9, 1), (1, 2, 4, 10), (2, 3, 6, 100)], 0, 3), [0, 4, 444])

    def test_the_cheaper_of_several_pipes_between_two_places_is_filled_first(self):
        pipes = [(0, 1, 5, 9), (0, 1, 2, 1), (0, 1, 4, 3)]
        self.assertEqual(self.sent(2, pipes, 0, 1, 1), [0, 1, 1])
        self.assertEqual(self.sent(2, pipes, 0, 1, 5), [0, 5, 2 + 9])
        self.assertEqual(self.sent(2, pipes, 0, 1), [0, 11, 2 + 12 + 45])

    def test_more_units_go_before_cheaper_ones(self):
        self.assertEqual(self.sent(3, [(0, 2, 1, 0), (0, 1, 3, 10 ** 9), (1, 2, 3, 10 ** 9)], 0, 2),
                         [0, 4, 6 * 10 ** 9])

    def test_most_cuts_it_off(self):
        pipes = [(0, 1, 7, 3)]
        for most in (0, 1, 6, 7, 8, BEYOND):
            self.assertEqual(self.sent(2, pipes, 0, 1, most), [0, min(7, most), 3 * min(7, most)])

    def test_units_are_taken_back_from_a_pipe(self):
        # The first unit goes 0 1 2 3 for 2; two of them can go only if 1 to 2 is left again.
        pipes = [(0, 1, 1, 1), (1, 2, 1, 0), (2, 3, 1, 1), (0, 2, 1, 5), (1, 3, 1, 6)]
        self.assertEqual(self.sent(4, pipes, 0, 3, 1), [0, 1, 2])
        self.assertEqual(self.sent(4, pipes, 0, 3, 2), [0, 2, 13])

    def test_many_units_are_taken_back_from_a_pipe(self):
        many = 2 ** 61
        pipes = [(0, 1, many, 1), (1, 2, many, 0), (2, 3, many, 1), (0, 2, many, 5), (1, 3, many, 6)]
        self.assertEqual(self.sent(4, pipes, 0, 3), [0, 2 * many, 13 * many])
        self.assertEqual(self.sent(4, pipes, 0, 3, many + 7), [0, many + 7, 2 * many + 11 * 7])

    def test_pipes_that_lead_round_cost_nothing(self):
        pipes = [(0, 1, 2, 1), (1, 2, 9, 4), (2, 1, 9, 4), (1, 1, 9, 4), (1, 0, 9, 4), (1, 3, 3, 1), (0, 0, 8, 8)]
        self.assertEqual(self.sent(4, pipes, 0, 3), [0, 2, 4])

    def test_pipes_into_the_start_and_out_of_the_goal_are_of_no_use(self):
        self.assertEqual(self.sent(2, [(1, 0, 9, 1), (0, 1, 4, 2), (1, 0, 9, 0)], 0, 1), [0, 4, 8])

    def test_places_that_no_pipe_reaches(self):
        pipes = [(3, 5, 4, 2)]
        self.assertEqual(self.sent(256, pipes, 3, 5), [0, 4, 8])
        self.assertEqual(self.sent(256, pipes, 3, 6), [0, 0, 0])
        self.assertEqual(self.sent(256, pipes, 255, 5), [0, 0, 0])

    def test_each_send_begins_anew(self):
        rows = ask(*net(3, [(0, 1, 5, 1), (1, 2, 3, 1)]), send(0, 2), send(0, 2), send(0, 1), send(0, 2, 1))
        self.assertEqual(rows[3:], [[0, 3, 6], [0, 3, 6], [0, 5, 5], [0, 1, 2]])


class Great(unittest.TestCase):
    def test_what_it_costs_may_go_beyond_64_bits(self):
        pipes = [(0, 1, 2 ** 62, 10 ** 9)] * 3
        self.assertEqual(ask(*net(2, pipes), send(0, 1))[-1], [0, 3 * 2 ** 62, 3 * 2 ** 62 * 10 ** 9])

    def test_the_most_there_is(self):
        pipes = [(0, 1, 2 ** 62, 1)] * 5
        rows = ask(*net(2, pipes), send(0, 1), narrow(0), send(0, 1, BEYOND - 1), narrow(0))
        self.assertEqual(rows[6:], [[0, BEYOND, BEYOND], [-1], [0, BEYOND - 1, BEYOND - 1], [-1]])

    def test_exactly_one_below_the_most(self):
        pipes = [(0, 1, 2 ** 62, 1)] * 3 + [(0, 1, 2 ** 62 - 2, 1)]
        rows = ask(*net(2, pipes), send(0, 1), narrow(0), send(0, 1, BEYOND - 1), narrow(0))
        self.assertEqual(rows[5:], [[0, BEYOND - 1, BEYOND - 1], [1, 1, 0], [0, BEYOND - 1, BEYOND - 1], [-1]])

    def test_a_chain_of_256_places_at_the_greatest_cost(self):
        pipes = [(place, place + 1, 2 ** 62, 10 ** 9) for place in range(255)]
        self.assertEqual(ask(*net(256, pipes), send(0, 255))[-1], [0, 2 ** 62, 255 * 2 ** 62 * 10 ** 9])

    def test_amounts_times_a_great_number(self):
        source = random.Random(5)
        for places, pipes in random_nets(5, 150, 6, 14, 6, 9):
            factor = 2 ** 58 + source.randrange(2 ** 58)
            small = ask(*net(places, pipes), send(0, 1, 15))[-1]
            great = [(each[0], each[1], each[2] * factor, each[3]) for each in pipes]
            self.assertEqual(ask(*net(places, great), send(0, 1, 15 * factor))[-1],
                             [0, small[1] * factor, small[2] * factor], (places, pipes, factor))


class Wrong(unittest.TestCase):
    def test_ends_out_of_range(self):
        for place in (LEAST, -1, 3, 256, GREATEST):
            self.assertEqual(ask(new(3), send(place, 0), send(0, place), send(place, place)),
                             [[0], [-2], [-2], [-2]])

    def test_from_and_to_the_same(self):
        for place in (0, 1, 2):
            self.assertEqual(ask(new(3), pipe(place, place), send(place, place), send(place, place, 0))[2:],
                             [[-2], [-2]])

    def test_the_last_place_is_in_range(self):
        self.assertEqual(ask(new(3), pipe(2, 0, 1, 1), send(2, 0), pipe(0, 2, 1, 1), send(0, 2))[2::2],
                         [[0, 1, 1], [0, 1, 1]])

    def test_most_out_of_range(self):
        self.assertEqual(ask(new(2), pipe(0, 1), send(0, 1, -1), send(0, 1, BEYOND + 1))[2:], [[-2], [-2]])


class AgainstPlainWays(unittest.TestCase):
    def test_each_flow_of_tiny_nets(self):
        source = random.Random(1)
        for places, pipes in random_nets(1, 500, 4, 6, 2, 4):
            start, goal = source.sample(range(places), 2)
            for most in (0, 1, 2, 3, BEYOND):
                brought, cost = best_of_all_flows(places, pipes, start, goal, most)
                self.assertEqual(ask(*net(places, pipes), send(start, goal, most))[-1], [0, brought, cost],
                                 (places, pipes, start, goal, most))

    def test_unit_by_unit_on_small_nets(self):
        source = random.Random(2)
        for places, pipes in random_nets(2, 400, 8, 24, 12, 20):
            start, goal = source.sample(range(places), 2)
            for most in (source.randint(1, 30), BEYOND):
                brought, cost = unit_by_unit(places, pipes, start, goal, most)
                self.assertEqual(ask(*net(places, pipes), send(start, goal, most))[-1], [0, brought, cost],
                                 (places, pipes, start, goal, most))

    def test_unit_by_unit_with_great_and_small_pipes_side_by_side(self):
        source = random.Random(3)
        for places, pipes in random_nets(3, 60, 6, 16, 3, 6):
            mixed = [each[:2] + (source.choice((each[2], 40 * each[2], 300)),) + each[3:] for each in pipes]
            most = source.choice((60, 280, 900))
            brought, cost = unit_by_unit(places, mixed, 0, 1, most)
            self.assertEqual(ask(*net(places, mixed), send(0, 1, most))[-1], [0, brought, cost],
                             (places, mixed, most))

    def test_way_by_way_with_great_holds_and_costs(self):
        source = random.Random(6)
        for places, pipes in random_nets(6, 200, 12, 40, 2 ** 62, 10 ** 9):
            start, goal = source.sample(range(places), 2)
            for most in (source.randrange(2 ** 64), BEYOND):
                brought, cost = way_by_way(places, pipes, start, goal, most)
                self.assertEqual(ask(*net(places, pipes), send(start, goal, most))[-1], [0, brought, cost],
                                 (places, pipes, start, goal, most))

    def test_way_by_way_with_holds_of_every_size(self):
        source = random.Random(7)
        for places, pipes in random_nets(7, 200, 9, 30, 1, 3):
            sized = [each[:2] + (source.randrange(2 ** source.randint(0, 62)),) + each[3:] for each in pipes]
            brought, cost = way_by_way(places, sized, 0, 1, BEYOND)
            self.assertEqual(ask(*net(places, sized), send(0, 1))[-1], [0, brought, cost], (places, sized))

    def test_what_it_brings_is_the_least_width(self):
        for places, pipes in random_nets(4, 300, 7, 20, 2 ** 62, 10 ** 9):
            least = least_walls(places, pipes, 0, 1)[1]
            self.assertEqual(ask(*net(places, pipes), send(0, 1))[-1][1], min(least, BEYOND), (places, pipes))
