"""A flow of the least cost among those that bring a given number of units."""

# Any grain above 1 does; a smaller one makes more rounds, a greater one more paths a round.
GRAIN = 16

# More than the greatest place: a waiting place and its distance are one number.
SPAN = 256


def carry_cheapest(rooms, start, goal, units):
    """Carry units from start to goal at the least cost, in rooms without flow that can take them.

    Great portions go first, along lanes with room for them alone, then smaller ones.
    Else, where each path has little room, there could be a path for each unit.
    """
    carrier = Carrier(rooms)
    carrier.extra[start] += units
    carrier.extra[goal] -= units
    portion = 1
    while portion * GRAIN <= units:
        portion *= GRAIN
    while portion > 0:
        carrier.fill_gainful(portion)
        while carrier.carry_once(portion):
            pass
        portion //= GRAIN


class Carrier:
    """A flow on its way: some places still have units too many (extra above 0) or lack them (below 0).

    No lane with room for a portion would gain anything: its price, with the height
    of its tail added and that of its head taken off, is 0 or more. So when a portion is
    one unit and no place has extra, no flow that brings as much is cheaper.
    """

    def __init__(self, rooms):
        self.rooms = rooms
        self.heights = [0] * rooms.places
        self.extra = [0] * rooms.places

    def fill_gainful(self, portion):
        """Fill the lanes that would gain something, now that portions are smaller."""
        rooms = self.rooms
        for place in range(rooms.places):
            for lane in rooms.lanes[place]:
                units = rooms.room[lane]
                head = rooms.heads[lane]
                if units >= portion and rooms.prices[lane] + self.heights[place] < self.heights[head]:
                    rooms.push([lane], units)
                    self.extra[place] -= units
                    self.extra[head] += units

    def carry_once(self, portion):
        """Carry a portion or more to the nearest place that lacks it; False if there's no way."""
        search = Search(self, portion)
        goal = search.nearest_lack()
        if goal < 0:
            return False
        for place in search.settled:
            self.heights[place] += search.distances[place] - search.distances[goal]
        path = search.path_to(goal)
        start = self.rooms.heads[path[-1] ^ 1]
        units = min(self.extra[start], -self.extra[goal], min([self.rooms.room[lane] for lane in path]))
        self.rooms.push(path, units)
        self.extra[start] -= units
        self.extra[goal] += units
        return True


class Search:
    """The nearest places, one after another, from those that have a portion too many."""

    def __init__(self, carrier, portion):
        self.rooms = carrier.rooms
        self.heights = carrier.heights
        self.extra = carrier.extra
        self.portion = portion
        self.distances = [-1] * self.rooms.places
        self.entries = [-1] * self.rooms.places
        self.settled = []
        self.waiting = []

    def nearest_lack(self):
        """The nearest place that lacks a portion, -1 if none can be reached."""
        for place in range(self.rooms.places - 1, -1, -1):
            if self.extra[place] >= self.portion:
                self.distances[place] = 0
                self.waiting.append(-place)
        while self.waiting:
            key = -self.waiting.pop()
            place = key % SPAN
            # A place waits once more whenever a nearer way to it is found; only the nearest counts.
            if key // SPAN == self.distances[place]:
                self.settled.append(place)
                if self.extra[place] <= -self.portion:
                    return place
                self.look_on(place)
        return -1

    def look_on(self, place):
        rooms = self.rooms
        base = self.distances[place] + self.heights[place]
        for lane in rooms.lanes[place]:
            if rooms.room[lane] >= self.portion:
                head = rooms.heads[lane]
                distance = base + rooms.prices[lane] - self.heights[head]
                if self.distances[head] < 0 or distance < self.distances[head]:
                    self.distances[head] = distance
                    self.entries[head] = lane
                    put_in_order(self.waiting, -(distance * SPAN + head))

    def path_to(self, goal):
        """The lanes by which goal was found, the last one first."""
        path = []
        lane = self.entries[goal]
        while lane >= 0:
            path.append(lane)
            lane = self.entries[self.rooms.heads[lane ^ 1]]
        return path


def put_in_order(numbers, number):
    """Put a number into a list that rises, behind those not above it."""
    low = 0
    high = len(numbers)
    if high > 0 and numbers[-1] <= number:
        low = high
    while low < high:
        middle = (low + high) // 2
        if numbers[middle] <= number:
            low = middle + 1
        else:
            high = middle
    numbers.insert(low, number)
