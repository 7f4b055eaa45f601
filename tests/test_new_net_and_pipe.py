"""Points 1 and 2: a new net, and pipes in it."""

import unittest

from pipenet.net import Net
from pipenet.refusals import NetFull, OutOfRange
from plain import ask, narrow, net, new, pipe, send, ways

LEAST = -2147483648
GREATEST = 2147483647


class NewNet(unittest.TestCase):
    def test_two_to_256_places_are_taken(self):
        for places in (2, 3, 100, 255, 256):
            self.assertEqual(ask(new(places)), [[0]])

    def test_other_numbers_of_places_are_refused(self):
        for places in (LEAST, -1, 0, 1, 257, 1000, GREATEST):
            self.assertEqual(ask(new(2), new(places)), [[0], [-2]])

    def test_it_has_as_many_places_as_told(self):
        for places in (2, 17, 256):
            rows = ask(new(places), pipe(places - 1, 0), pipe(places, 0), pipe(0, places))
            self.assertEqual(rows, [[0], [0], [-2], [-2]])

    def test_a_new_one_has_no_pipes(self):
        rows = ask(new(2), pipe(0, 1, 5, 1), pipe(0, 1, 5, 1), new(2), send(0, 1), ways(0, 1), pipe(0, 1, 5, 1))
        self.assertEqual(rows, [[0], [0], [1], [0], [0, 0, 0], [0], [0]])

    def test_it_may_come_again_with_more_or_fewer_places(self):
        rows = ask(new(2), pipe(0, 2), new(3), pipe(0, 2), new(2), pipe(0, 2))
        self.assertEqual(rows, [[0], [-2], [0], [0], [0], [-2]])

    def test_a_refused_one_changes_nothing(self):
        for places in (1, 257):
            rows = ask(new(3), pipe(0, 2, 4, 3), send(0, 2, 9), new(places), narrow(0), send(0, 2, 9), pipe(2, 1))
            self.assertEqual(rows, [[0], [0], [0, 4, 12], [-2], [1, 1, 0, 0], [0, 4, 12], [1]])


class Pipe(unittest.TestCase):
    def test_pipes_are_numbered_in_order(self):
        rows = ask(new(4), pipe(0, 1), pipe(1, 2), pipe(0, 1), pipe(3, 0), pipe(2, 2))
        self.assertEqual(rows[1:], [[0], [1], [2], [3], [4]])

    def test_ends_out_of_range(self):
        for place in (LEAST, -1, 3, 256, GREATEST):
            rows = ask(new(3), pipe(place, 1), pipe(1, place), pipe(place, place), pipe(0, 2))
            self.assertEqual(rows, [[0], [-2], [-2], [-2], [0]])

    def test_holds_up_to_its_greatest(self):
        for holds in (0, 1, 2 ** 62 - 1, 2 ** 62):
            rows = ask(new(2), pipe(0, 1, holds, 3), send(0, 1))
            self.assertEqual(rows, [[0], [0], [0, holds, 3 * holds]])

    def test_holds_beyond_its_greatest(self):
        for holds in (2 ** 62 + 1, 2 ** 63 - 1, 2 ** 63, 2 ** 64 - 1):
            rows = ask(new(2), pipe(0, 1, holds, 0), send(0, 1), pipe(0, 1, 1, 0))
            self.assertEqual(rows, [[0], [-2], [0, 0, 0], [0]])

    def test_holds_below_0(self):
        self.assertEqual(ask(new(2), pipe(0, 1, -1, 0)), [[0], [-2]])

    def test_cost_from_0_to_its_greatest(self):
        for cost in (0, 1, 999999999, 1000000000):
            self.assertEqual(ask(new(2), pipe(0, 1, 7, cost), send(0, 1)), [[0], [0], [0, 7, 7 * cost]])

    def test_cost_out_of_range(self):
        for cost in (LEAST, -1, 1000000001, GREATEST):
            self.assertEqual(ask(new(2), pipe(0, 1, 7, cost), send(0, 1)), [[0], [-2], [0, 0, 0]])

    def test_a_refused_pipe_has_no_number(self):
        rows = ask(new(2), pipe(0, 1), pipe(0, 2), pipe(0, 1, 2 ** 63), pipe(0, 1, 1, -1), pipe(0, 1))
        self.assertEqual(rows, [[0], [0], [-2], [-2], [-2], [1]])

    def test_a_pipe_to_the_same_place_is_taken_and_brings_nothing(self):
        rows = ask(new(2), pipe(0, 0, 5, 0), pipe(1, 1, 5, 9), send(0, 1), pipe(0, 1, 3, 2), send(0, 1))
        self.assertEqual(rows, [[0], [0], [1], [0, 0, 0], [2], [0, 3, 6]])

    def test_a_pipe_leads_one_way_alone(self):
        self.assertEqual(ask(new(2), pipe(1, 0, 5, 1), send(0, 1), send(1, 0))[2:], [[0, 0, 0], [0, 5, 5]])


class FourThousandPipes(unittest.TestCase):
    """A list of calls has no room for so many pipes: here the net is asked itself."""

    def full_net(self):
        made = Net()
        made.begin(3)
        numbers = [made.lay(0, 1, 1, 1) for turn in range(4096)]
        self.assertEqual(numbers, list(range(4096)))
        return made

    def test_one_more_is_refused_and_changes_nothing(self):
        made = self.full_net()
        self.assertEqual(made.send(0, 1, 5000), (4096, 4096))
        with self.assertRaises(NetFull):
            made.lay(0, 1, 1, 1)
        self.assertEqual(made.narrow(0, 256), (1, [1, 0, 0]))
        self.assertEqual(made.narrow(1, 256), (2, [1, 0, 1]))
        self.assertEqual(made.send(0, 1, 5000), (4096, 4096))
        self.assertEqual(made.ways(0, 1), 4096)

    def test_out_of_range_comes_before_full(self):
        made = self.full_net()
        for wrong in ((-1, 1, 1, 1), (0, 3, 1, 1), (0, 1, 2 ** 62 + 1, 1), (0, 1, 1, 10 ** 9 + 1), (0, 1, 1, -1)):
            with self.assertRaises(OutOfRange):
                made.lay(*wrong)

    def test_a_new_net_takes_pipes_again(self):
        made = self.full_net()
        made.begin(2)
        self.assertEqual(made.lay(0, 1, 1, 1), 0)

    def test_the_desk_says_it_with_its_number(self):
        rows = ask(*net(2, [(0, 1, 1, 1)] * 4096), pipe(0, 1), pipe(0, 2), pipe(1, 0, 0, 0), ways(0, 1))
        self.assertEqual(rows[1:4097], [[number] for number in range(4096)])
        self.assertEqual(rows[4097:], [[-1], [-2], [-1], [4096]])
