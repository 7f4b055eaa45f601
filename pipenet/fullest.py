"""How many units can go from a place to another one, whatever they cost."""


def fill(rooms, start, goal, most):
    """Bring as many units as can be from start to goal, but not above most; how many these are.

    Round after round only ways of the fewest lanes are filled, so that there are
    never more rounds than places, however much the pipes hold.
    """
    brought = 0
    while brought < most:
        steps = rooms.steps(start, 0)
        if steps[goal] < 0:
            break
        brought += fill_shortest(rooms, steps, start, goal, most - brought)
    return brought


def fill_shortest(rooms, steps, start, goal, most):
    """Fill the ways on which each lane leads one step further; how many units that brings."""
    tried = [0] * rooms.places
    path = []
    brought = 0
    place = start
    while brought < most:
        if place == goal:
            units = min(most - brought, min([rooms.room[lane] for lane in path]))
            rooms.push(path, units)
            brought += units
            path = before_full(rooms, path)
        elif advance(rooms, steps, tried, place):
            path.append(rooms.lanes[place][tried[place]])
        elif path:
            path.pop()
            tried[end_of(rooms, path, start)] += 1
        else:
            break
        place = end_of(rooms, path, start)
    return brought


def advance(rooms, steps, tried, place):
    """Go on to the next lane out of place that has room and leads a step further, if there is one."""
    lanes = rooms.lanes[place]
    while tried[place] < len(lanes):
        lane = lanes[tried[place]]
        if rooms.room[lane] > 0 and steps[rooms.heads[lane]] == steps[place] + 1:
            return True
        tried[place] += 1
    return False


def before_full(rooms, path):
    """The part of the path ahead of its first lane without room."""
    count = 0
    while count < len(path) and rooms.room[path[count]] > 0:
        count += 1
    return path[:count]


def end_of(rooms, path, start):
    return rooms.heads[path[-1]] if path else start
