"""Lines of calls for the tests, and their answers call by call."""

from stationclock.clock import answers

TWO_40 = 2 ** 40
TWO_62 = 2 ** 62
TWO_63 = 2 ** 63
TWO_64 = 2 ** 64
BILLION = 10 ** 9

OUT_OF_RANGE = [-1]
NOTHING_THERE = [-2]
OUT_OF_TURN = [-4]
TAKEN = [0]
DOUBTED = [1]
BELIEVED = [2]


def begin(num=1, den=1, ppm=0):
    return [0, num, den, ppm]


def refer(c, t, u=0):
    return [1, c, t, u]


def now(c):
    return [2, c]


def look(c):
    return [3, c]


def rate():
    return [4]


def when(t):
    return [5, t]


def refs():
    return [6]


def count():
    return [7]


def one_list(calls):
    return [number for call in calls for number in call]


def call_by_call(answered):
    found = []
    place = 0
    while place < len(answered):
        size = answered[place]
        found.append(answered[place + 1:place + 1 + size])
        place += 1 + size
    return found


def answers_of(*calls):
    return call_by_call(answers(one_list(calls)))


def last_answer(*calls):
    return answers_of(*calls)[-1]


def told(*calls):
    """The told time that each now of the line is answered."""
    found = []
    for call, answer in zip(calls, answers_of(*calls)):
        if call[0] == 2:
            found.append(answer[1])
    return found
