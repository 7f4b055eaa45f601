"""The calls on a net as one list of whole numbers, and their answers as another one."""

from pipenet.net import Net
from pipenet.refusals import NetFull, NoWallKnown, OutOfRange

NEW_NET = 1
PIPE = 2
SEND = 3
NARROW = 4
WAYS = 5

# For each call, from 1 on, how many numbers stand behind its own.
SIZES = {1: 1, 2: 4, 3: 3, 4: 2, 5: 2}


def answers(calls):
    """For each call on a new net, in order: how many numbers it answers, then these."""
    net = Net()
    given = []
    at = 0
    while at < len(calls):
        behind = at + 1 + SIZES[calls[at]]
        answer = answer_or_refusal(net, calls[at], calls[at + 1:behind])
        given.append(len(answer))
        given.extend(answer)
        at = behind
    return given


def answer_or_refusal(net, call, numbers):
    try:
        return answer_of(net, call, numbers)
    except OutOfRange:
        return [-2]
    except NetFull:
        return [-1]
    except NoWallKnown:
        return [-1]


def answer_of(net, call, numbers):
    if call == NEW_NET:
        net.begin(numbers[0])
        return [0]
    if call == PIPE:
        return [net.lay(numbers[0], numbers[1], numbers[2], numbers[3])]
    if call == SEND:
        sent = net.send(numbers[0], numbers[1], numbers[2])
        return [0, sent[0], sent[1]]
    if call == NARROW:
        wall = net.narrow(numbers[0], numbers[1])
        return [wall[0]] + wall[1]
    return [net.ways(numbers[0], numbers[1])]
