"""The room that a flow leaves in a net, along each pipe and back."""


class Rooms:
    """Two lanes a pipe, at first with no flow in them.

    Lane 2 * k goes along pipe k, and its room is what more the pipe could take;
    lane 2 * k + 1 goes back, and its room is what the pipe's flow could give back.
    So lane ^ 1 is the other lane of the same pipe.
    """

    def __init__(self, places, pipes):
        self.places = places
        self.heads = []
        self.room = []
        self.prices = []
        self.lanes = [[] for place in range(places)]
        for pipe in pipes:
            self.add_lane(pipe[0], pipe[1], pipe[2], pipe[3])
            self.add_lane(pipe[1], pipe[0], 0, -pipe[3])

    def add_lane(self, tail, head, room, price):
        self.lanes[tail].append(len(self.heads))
        self.heads.append(head)
        self.room.append(room)
        self.prices.append(price)

    def push(self, path, units):
        """Let units more go along each lane of the path."""
        for lane in path:
            self.room[lane] -= units
            self.room[lane ^ 1] += units

    def cost(self):
        """What the flow costs that is in the lanes."""
        return sum([self.room[lane] * -self.prices[lane] for lane in range(1, len(self.heads), 2)])

    def steps(self, start, other):
        """How many lanes with room lie between start and each place, -1 where none lead.

        They lead away from start if other is 0, and towards it if other is 1: then
        it's the other lane of each pipe that must have room.
        """
        found = [-1] * self.places
        found[start] = 0
        row = [start]
        at = 0
        while at < len(row):
            place = row[at]
            at += 1
            for lane in self.lanes[place]:
                head = self.heads[lane]
                if found[head] < 0 and self.room[lane ^ other] > 0:
                    found[head] = found[place] + 1
                    row.append(head)
        return found
