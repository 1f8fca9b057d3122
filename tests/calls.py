"""What the tests share: the calls as lists of numbers, and answers cut apart again, call by call."""

import unittest

from tickclocks.game import answers

HIGHEST = 4294967295


class Case(unittest.TestCase):
    def assertSequenceEqual(self, first, second, msg=None, seq_type=None):
        # The usual one may seek all differences of two long lists for hours; the first one is enough.
        if first == second:
            return
        at = 0
        while at < min(len(first), len(second)) and first[at] == second[at]:
            at += 1
        self.fail(f"{msg}: from {at} on {str(first[at:])[:300]} is not {str(second[at:])[:300]}")


def begins(step, most):
    return [0, step, most]


def frame(parts):
    return [1, parts]


def clock(on, speed):
    return [2, on, speed]


def speed(number, hundredths):
    return [3, number, hundredths]


def timer(on, behind, again):
    return [4, on, behind, again]


def cut(told):
    """Cut what answers() gave back into one list for each call."""
    lists = []
    start = 0
    while start < len(told):
        end = start + 1 + told[start]
        if end > len(told):
            raise ValueError("a count says more than there is")
        lists.append(told[start + 1:end])
        start = end
    return lists


def ask(*calls):
    """Ask the calls of one game; give back one list for each."""
    return cut(answers([number for call in calls for number in call]))


def last(*calls):
    return ask(*calls)[-1]


def rings(answer):
    """The rings of a frame's answer, as (tick of the game, timer, tick of its clock)."""
    triples = answer[3:]
    if len(triples) != 3 * answer[2]:
        raise ValueError("the count of rings is not theirs")
    return [tuple(triples[at:at + 3]) for at in range(0, len(triples), 3)]
