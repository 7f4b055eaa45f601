"""What the tests share: calls written by name, and plain, slow ways to work out the same answers."""

import itertools
import random
import signal

from pipenet.desk import answers

BEYOND = 2 ** 64 - 1


def new(places):
    return [1, places]


def pipe(a, b, holds=1, cost=0):
    return [2, a, b, holds, cost]


def send(start, goal, most=BEYOND):
    return [3, start, goal, most]


def narrow(far, most=256):
    return [4, far, most]


def ways(a, b):
    return [5, a, b]


def split(given):
    """The answers call by call, out of one list in which a count stands before each."""
    rows = []
    at = 0
    while at < len(given):
        count = given[at]
        row = given[at + 1:at + 1 + count]
        if count < 1 or len(row) != count:
            raise AssertionError(f"no whole answer at {at} of {given}")
        rows.append(row)
        at += 1 + count
    return rows


def ask(*calls):
    """The answers, call by call, to calls that are each a list."""
    rows = split(answers(list(itertools.chain.from_iterable(calls))))
    if len(rows) != len(calls):
        raise AssertionError(f"{len(calls)} calls, but {len(rows)} answers")
    return rows


def net(places, pipes):
    """The calls that make a net."""
    return [new(places)] + [pipe(*each) for each in pipes]


def random_nets(seed, count, places, pipes, holds, cost):
    """Many nets, the same each time: a number of places and a list of pipes each."""
    source = random.Random(seed)
    for turn in range(count):
        size = source.randint(2, places)
        made = []
        for number in range(source.randint(0, pipes)):
            ends = (source.randrange(size), source.randrange(size))
            made.append(ends + (source.randint(0, holds), source.randint(0, cost)))
        yield size, made


def walls(places, start, goal):
    """Each wall between start and goal, as a tuple of 1 and 0."""
    for wall in itertools.product((0, 1), repeat=places):
        if wall[start] == 1 and wall[goal] == 0:
            yield wall


def width(wall, pipes):
    return sum(each[2] for each in pipes if wall[each[0]] == 1 and wall[each[1]] == 0)


def least_walls(places, pipes, start, goal):
    """All walls of the least width, and that width."""
    found = [(width(wall, pipes), wall) for wall in walls(places, start, goal)]
    least = min(each[0] for each in found)
    return [wall for each, wall in found if each == least], least


def brings(flow, pipes, places, start, goal):
    """What the flow brings; None if it's no flow."""
    balance = [0] * places
    for units, each in zip(flow, pipes):
        balance[each[0]] += units
        balance[each[1]] -= units
    for place in range(places):
        if place not in (start, goal) and balance[place] != 0:
            return None
    return balance[start] if balance[start] >= 0 else None


def best_of_all_flows(places, pipes, start, goal, most):
    """What a flow brings and costs, out of each flow there is."""
    best = None
    for flow in itertools.product(*[range(each[2] + 1) for each in pipes]):
        brought = brings(flow, pipes, places, start, goal)
        if brought is not None and brought <= most:
            cost = sum(units * each[3] for units, each in zip(flow, pipes))
            if best is None or (-brought, cost) < best:
                best = (-brought, cost)
    return -best[0], best[1]


def cheapest_way(places, pipes, flow, start, goal):
    """The cheapest way for one more unit, as (pipe, +1 or -1) each; None if there is none."""
    reach = {start: (0, [])}
    for turn in range(places):
        for number, each in enumerate(pipes):
            for tail, head, room, step in (
                (each[0], each[1], each[2] - flow[number], 1),
                (each[1], each[0], flow[number], -1),
            ):
                if room > 0 and tail in reach:
                    cost = reach[tail][0] + step * each[3]
                    if head not in reach or cost < reach[head][0]:
                        reach[head] = (cost, reach[tail][1] + [(number, step)])
    return reach[goal][1] if goal in reach else None


def unit_by_unit(places, pipes, start, goal, most):
    """What a cheapest flow brings and costs, one unit after another along the cheapest way left."""
    return along_ways(places, pipes, start, goal, most, 1)


def way_by_way(places, pipes, start, goal, most):
    """The same, with as many units along each cheapest way as there is room for."""
    return along_ways(places, pipes, start, goal, most, most)


def along_ways(places, pipes, start, goal, most, at_once):
    flow = [0] * len(pipes)
    brought = 0
    while brought < most:
        way = cheapest_way(places, pipes, flow, start, goal)
        if way is None:
            break
        rooms = [pipes[number][2] - flow[number] if step > 0 else flow[number] for number, step in way]
        units = min(rooms + [at_once, most - brought])
        for number, step in way:
            flow[number] += step * units
        brought += units
    return brought, sum(units * each[3] for units, each in zip(flow, pipes))


def all_ways(pipes, a, b):
    """Each way from a to b that meets no place twice, as a set of pipes."""
    found = []
    parts = [(a, frozenset(), frozenset([a]))]
    while parts:
        place, used, met = parts.pop()
        if place == b:
            found.append(used)
            continue
        for number, each in enumerate(pipes):
            if each[0] == place and each[2] > 0 and each[1] not in met:
                parts.append((each[1], used | {number}, met | {each[1]}))
    return found


def most_apart(found):
    """How many of the sets at the most have nothing in common."""
    best = 0
    for number, first in enumerate(found):
        rest = [each for each in found[number + 1:] if not each & first]
        best = max(best, 1 + most_apart(rest))
    return best


def within(seconds, work):
    """What work answers, if it does so in time."""

    def late(number, frame):
        raise AssertionError(f"not answered within {seconds} seconds")

    before = signal.signal(signal.SIGALRM, late)
    signal.alarm(seconds)
    try:
        return work()
    finally:
        signal.alarm(0)
        signal.signal(signal.SIGALRM, before)
