"""All ten calls together: held against the model, and what holds over the whole program."""

import ast
import builtins
import contextlib
import io
import pathlib
import unittest
from unittest import mock

import tickclocks
from tickclocks.game import answers
from tests.calls import (HIGHEST, NEVER_THERE, Case, ahead, ask, begins, clock, cut, frame, left, now, probes, rings,
                         shows, speed, stop, timer)
from tests.model import KINDS, Model


class Dice:
    """Numbers that look thrown and are the same each time."""

    def __init__(self, seed):
        self.state = seed

    def below(self, bound):
        self.state = (self.state * 6364136223846793005 + 1442695040888963407) % 2 ** 64
        return (self.state >> 33) % bound

    def one_of(self, choices):
        return choices[self.below(len(choices))]


def some_number(dice, ordinary, edges):
    """Mostly an ordinary number, now and then one at an edge."""
    return dice.one_of(edges) if dice.below(8) == 0 else dice.one_of(ordinary)


def some_call(dice):
    number = dice.one_of((0, 1, 1, 1, 1, 1, 2, 2, 2, 3, 3, 4, 4, 4, 4, 4, 5, 5, 6, 6, 7, 7, 8, 9))
    on = some_number(dice, (0, 0, 1, 2, 3), (4, 5, 6, HIGHEST))
    of_timers = some_number(dice, range(8), (11, 12, 13, HIGHEST))
    hundredths = some_number(dice, (30, 50, 70, 100, 130, 199), (0, 1, 200, 201, HIGHEST))
    if number == 0:
        # Seldom: it throws away all that the calls before it built.
        if dice.below(3) > 0:
            return shows()
        return begins(some_number(dice, (1, 7, 16), (0, 1000, 1001, HIGHEST)),
                      some_number(dice, (3, 5, 20), (0, 1, 50, 51, HIGHEST)))
    if number == 1:
        return frame(some_number(dice, (5, 16, 40, 90, 200), (0, 1, 3000, 100000, 100001, HIGHEST)))
    if number == 2:
        return clock(on, hundredths)
    if number == 3:
        return speed(on, hundredths)
    if number == 4:
        return timer(on, some_number(dice, (1, 2, 3, 7, 40), (0, 300, 301, 1000, 1001, HIGHEST)),
                     some_number(dice, (0, 0, 1, 2, 5), (3, 1000, 1001, HIGHEST)))
    if number in (5, 6):
        return [number, of_timers]
    return now(on) if number == 7 else [number]


def some_line(dice):
    """A list of up to 40 calls and up to 160 numbers; some begin with as many clocks and timers as there may be."""
    calls = []
    if dice.below(4) == 0:
        calls += [clock(on, dice.one_of((50, 100, 150, 200))) for on in range(5)]
        calls += [timer(dice.below(6), 1 + dice.below(30), dice.below(4)) for _ in range(12)]
    wanted = 1 + dice.below(40)
    while len(calls) < max(wanted, 20 if calls else 1):
        call = some_call(dice)
        if sum(map(len, calls)) + len(call) > 160:
            break
        calls.append(call)
    return calls


class AgainstTheModel(Case):
    def test_mixed_lists(self):
        seen = set()
        longest = 0
        for seed in range(600):
            calls = some_line(Dice(seed))
            longest = max(longest, len(calls))
            model = Model()
            for at, (call, answer) in enumerate(zip(calls, ask(*calls), strict=True)):
                self.assertEqual(answer, model.answer(call), (seed, at, calls[:at + 1]))
                seen.add((KINDS[call[0]], min(answer[0], 0)))
        self.assertEqual(longest, 40)
        # All that can be answered or refused was, or the lists would tell too little.
        self.assertEqual(seen, {(kind, 0) for kind in KINDS} | {
            ("begins", -1), ("frame", -1), ("clock", -1), ("clock", -2), ("clock", -5), ("speed", -1), ("speed", -2),
            ("timer", -1), ("timer", -2), ("timer", -5), ("stop", -2), ("left", -2), ("now", -2)})

    def test_the_same_time_in_other_frames(self):
        dice = Dice(2026)
        for _ in range(40):
            world = [begins(4, 50), *[clock(dice.below(on + 1), dice.below(201)) for on in range(4)],
                     *[timer(dice.below(5), 1 + dice.below(9), dice.below(4)) for _ in range(6)]]
            first, second, change = dice.below(200), dice.below(200), speed(dice.below(5), dice.below(201))
            wholes = [[first], [second]]
            pieces = [[dice.below(parts + 1)] for parts in (first, second)]
            for parts, piece in zip((first, second), pieces):
                piece.append(parts - piece[0])
            self.assertEqual(run(world, change, pieces), run(world, change, wholes), (world, change, pieces))


def run(world, change, frames):
    """All that rings, however it is cut, with a change between two stretches of time; and the world behind it."""
    calls = [*world, *map(frame, frames[0]), change, *map(frame, frames[1])]
    told = ask(*calls, *probes(5, 6))
    rung = [ring for call, answer in zip(calls, told) if call[0] == 1 for ring in rings(answer)]
    return rung, told[len(calls):]


class Refused(Case):
    """Behind each refusal all is as it was."""

    world = [begins(10, 4), clock(0, 70), clock(1, 150), timer(2, 3, 2), timer(0, 1, 0), timer(1, 9, 0), frame(57)]
    behind = [*probes(3, 3), frame(33), *probes(3, 3)]

    def test_all_is_as_it_was(self):
        plain = ask(*self.world, *self.behind)
        for call, refusal in (
                (begins(0, 4), -1), (begins(10, 51), -1), (frame(100001), -1), (frame(HIGHEST), -1),
                (clock(3, 201), -1), (clock(3, 200), -2), (speed(3, 201), -1), (speed(3, 200), -2),
                (speed(1, 201), -1), (timer(3, 0, 0), -1), (timer(3, 1, 1001), -1), (timer(3, 1, 1), -2),
                (stop(1), -2), (stop(3), -2), (left(1), -2), (left(3), -2), (now(3), -2)):
            told = ask(*self.world, call, *self.behind)
            self.assertEqual(told[7], [refusal], call)
            self.assertEqual(told[:7] + told[8:], plain, call)

    def test_where_there_is_no_room(self):
        full = [*[clock(0, 50)] * 5, *[timer(0, 2, 3)] * 12, frame(25)]
        behind = [now(5), left(11), ahead(), shows(), frame(80), shows()]
        plain = ask(*full, *behind)
        for call, refusal in ((clock(5, 200), -5), (clock(6, 200), -2), (clock(6, 201), -1),
                              (timer(5, 1, 1), -5), (timer(6, 1, 1), -2), (timer(6, 0, 1), -1)):
            told = ask(*full, call, *behind)
            self.assertEqual(told[18], [refusal], call)
            self.assertEqual(told[:18] + told[19:], plain, call)

    def test_numbers_of_what_is_never_there(self):
        for number in NEVER_THERE:
            told = ask(*self.world, clock(number, 100), speed(number, 100), timer(number, 1, 1), stop(number),
                       left(number), now(number))
            self.assertEqual(told[7:], [[-2]] * 6, number)

    def test_numbers_above_their_bounds(self):
        for high in (100001, 131072, 2147483648, 4294967280, HIGHEST):
            told = ask(begins(high, 5), begins(16, high), frame(high), clock(0, high), speed(0, high),
                       timer(0, high, 0), timer(0, 1, high), shows())
            self.assertEqual(told, [[-1]] * 7 + [[0, 0, 0, 1, 0]], high)


class Long(Case):
    def test_answers_of_many_numbers(self):
        fast = [begins(1, 50), speed(0, 200), *[clock(on, 200) for on in range(5)], *[timer(5, 1, 1)] * 12]
        told = ask(*fast, *[frame(50)] * 8, left(11), now(5), ahead(), shows())
        due = 0
        for at in range(8):
            rung = rings(told[19 + at])
            self.assertEqual(len(rung), 50 * 64 * 12)
            self.assertEqual(rung[0], (1 + 50 * at, 0, due + 1))
            due += 50 * 64
            self.assertEqual(rung[-1], (50 * (at + 1), 11, due))
        self.assertEqual(told[27:29], [[5, 1, 1], [due, 0, 200, 5]])
        self.assertEqual(told[29], [12] + [number for each in range(12) for number in (each, 1)])
        self.assertEqual(told[30], [400, 0, 0, 6, 12])

    def test_forty_calls_of_next(self):
        self.assertEqual(answers([4, 0, 300, 1] + [8] * 39), [1, 0] + [3, 1, 0, 300] * 39)

    def test_160_numbers(self):
        line = [4, 0, 3, 1] * 40
        self.assertEqual(len(line), 160)
        self.assertEqual(cut(answers(line)), [[number] for number in range(12)] + [[-5]] * 28)


def sources():
    return sorted(pathlib.Path(tickclocks.__file__).parent.rglob("*.py"))


class Alone(Case):
    """It prints, reads and imports nothing."""

    line = [0, 7, 9, 2, 0, 77, 4, 1, 2, 3, 4, 0, 1, 0, 1, 20, 3, 1, 200, 1, 100001, 6, 0, 5, 0, 5, 0, 7, 1, 8, 9]

    def test_no_file_imports(self):
        self.assertIn("game.py", [path.name for path in sources()])
        for path in sources():
            for node in ast.walk(ast.parse(path.read_text(encoding="utf-8"))):
                self.assertNotIsInstance(node, (ast.Import, ast.ImportFrom), path)

    def test_it_asks_python_for_nothing_else(self):
        wanted = answers(list(self.line))

        def refuse(*ignored, **also_ignored):
            raise AssertionError("not told")

        names = ("print", "input", "open", "__import__", "exec", "eval", "compile")
        with contextlib.ExitStack() as stack:
            for name in names:
                stack.enter_context(mock.patch.object(builtins, name, refuse))
            told = answers(list(self.line))
        self.assertEqual(told, wanted)

    def test_it_prints_nothing(self):
        with contextlib.redirect_stdout(io.StringIO()) as out, contextlib.redirect_stderr(io.StringIO()) as errors:
            answers(list(self.line))
        self.assertEqual((out.getvalue(), errors.getvalue()), ("", ""))


if __name__ == "__main__":
    unittest.main()
