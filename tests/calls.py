"""What the tests share: the calls as lists of numbers, and answers cut apart again, call by call."""

import unittest

from tickclocks.game import answers

HIGHEST = 4294967295

# Numbers of clocks or timers that are never there, whatever they are cut down to.
NEVER_THERE = (40, 128, 255, 256, 65535, 65536, 2147483647, 2147483648, HIGHEST)


class Case(unittest.TestCase):
    def assertSequenceEqual(self, first, second, msg=None, seq_type=None):
        # The usual one may seek all differences of two long lists for hours; the first one is enough.
        if first == second:
            return
        at = 0
        while at < min(len(first), len(second)) and first[at] == second[at]:
            at += 1
        self.fail(f"{msg}: from {at} on {str(first[at:])[:300]} is not {str(second[at:])[:300]}")

    def assertNothingChanges(self, call):
        """Behind this call, asked twice in the middle of a game, all is as without it."""
        before = [speed(0, 130), clock(0, 70), clock(1, 199), timer(1, 2, 1), timer(0, 2, 0), timer(2, 30, 7),
                  frame(131)]
        behind = [*probes(3, 3), frame(95), *probes(3, 3)]
        told = ask(*before, call, call, *behind)
        self.assertEqual(told[:7] + told[9:], ask(*before, *behind), call)
        self.assertEqual(told[7], told[8], call)


def begins(step, most):
    return [0, step, most]


def frame(parts):
    return [1, parts]


def clock(on, speed):
    return [2, on, speed]


def speed(number, hundredths):
    return [3, number, hundredths]


def timer(on, behind, again):
    return [4, on, behind, again]


def stop(number):
    return [5, number]


def left(number):
    return [6, number]


def now(number):
    return [7, number]


def ahead():
    """The call next, by a name that Python has not taken."""
    return [8]


def shows():
    return [9]


def cut(told):
    """Cut what answers() gave back into one list for each call."""
    lists = []
    start = 0
    while start < len(told):
        end = start + 1 + told[start]
        if end > len(told):
            raise ValueError("a count says more than there is")
        lists.append(told[start + 1:end])
        start = end
    return lists


def ask(*calls):
    """Ask the calls of one game; give back one list for each."""
    line = [number for call in calls for number in call]
    if len(calls) > 40 or len(line) > 160:
        raise ValueError("no such line is ever asked")
    return cut(answers(line))


def last(*calls):
    return ask(*calls)[-1]


def probes(clocks=6, timers=13):
    """Calls that change nothing and together tell all that is: the clocks, the timers, what comes and what was."""
    return [*[now(number) for number in range(clocks)], *[left(number) for number in range(timers)], ahead(), shows()]


def rings(answer):
    """The rings of a frame's answer, as (tick of the game, timer, tick of its clock)."""
    triples = answer[3:]
    if len(triples) != 3 * answer[2]:
        raise ValueError("the count of rings is not theirs")
    return [tuple(triples[at:at + 3]) for at in range(0, len(triples), 3)]
