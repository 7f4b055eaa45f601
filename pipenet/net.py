"""A net of pipes, what may be asked of it, and the flow that it keeps."""

from pipenet.cheapest import carry_cheapest
from pipenet.fullest import fill
from pipenet.refusals import NetFull, NoWallKnown, OutOfRange
from pipenet.rooms import Rooms

FEWEST_PLACES = 2
MOST_PLACES = 256
MOST_PIPES = 4096
# 2 to the power of 62
MOST_HOLDS = 4611686018427387904
MOST_COST = 1000000000
# 2 to the power of 64, less 1
MOST_UNITS = 18446744073709551615


class Net:
    """One net; it has no places until begin is called.

    A call that is refused raises its error before it changes anything.
    """

    def __init__(self):
        self.places = 0
        self.pipes = []
        self.kept = None

    def begin(self, places):
        """Take so many places without pipes in the stead of what was there."""
        check_range(places, FEWEST_PLACES, MOST_PLACES)
        self.places = places
        self.pipes = []
        self.kept = None

    def lay(self, a, b, holds, cost):
        """Lay a pipe from a to b; its number."""
        self.check_place(a)
        self.check_place(b)
        check_range(holds, 0, MOST_HOLDS)
        check_range(cost, 0, MOST_COST)
        if len(self.pipes) >= MOST_PIPES:
            raise NetFull()
        self.pipes.append((a, b, holds, cost))
        self.kept = None
        return len(self.pipes) - 1

    def send(self, start, goal, most):
        """Keep a cheapest flow among those that bring as much as can be, most at most.

        How many units it brings, and what they cost.
        """
        self.check_ends(start, goal)
        check_range(most, 0, MOST_UNITS)
        brought = fill(Rooms(self.places, self.pipes), start, goal, most)
        rooms = Rooms(self.places, self.pipes)
        carry_cheapest(rooms, start, goal, brought)
        self.kept = Flow(rooms, start, goal, brought < most)
        return brought, rooms.cost()

    def narrow(self, far, most):
        """The narrowest wall of the kept flow, nearest to its start (far 0) or its goal (far 1).

        How many places are in it, and for each of the first places, most at most, 1 if it is in it, else 0.
        """
        check_range(far, 0, 1)
        check_range(most, 0, MOST_PLACES)
        if self.kept is None or not self.kept.is_fullest:
            raise NoWallKnown()
        wall = self.kept.greatest_wall() if far == 1 else self.kept.smallest_wall()
        return sum(wall), wall[:most]

    def ways(self, a, b):
        """How many ways from a to b there are at the most that have no pipe in common."""
        self.check_ends(a, b)
        single = [(pipe[0], pipe[1], 1, 0) for pipe in self.pipes if pipe[2] > 0]
        return fill(Rooms(self.places, single), a, b, len(single))

    def check_place(self, place):
        check_range(place, 0, self.places - 1)

    def check_ends(self, start, goal):
        self.check_place(start)
        self.check_place(goal)
        if start == goal:
            raise OutOfRange()


class Flow:
    """A flow that a net keeps, as the room that it leaves.

    Of the fullest flow, each wall of the least width is one that no lane with room leads out of.
    """

    def __init__(self, rooms, start, goal, is_fullest):
        self.rooms = rooms
        self.start = start
        self.goal = goal
        self.is_fullest = is_fullest

    def smallest_wall(self):
        """1 for each place that still can be reached from the start, else 0."""
        return [1 if steps >= 0 else 0 for steps in self.rooms.steps(self.start, 0)]

    def greatest_wall(self):
        """1 for each place from which the goal can't be reached any more, else 0."""
        return [1 if steps < 0 else 0 for steps in self.rooms.steps(self.goal, 1)]


def check_range(number, lowest, greatest):
    if number < lowest or number > greatest:
        raise OutOfRange()
