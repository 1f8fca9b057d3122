"""The document told once more, in the most long-winded way, for the tests to hold the program against.

Nothing here is counted ahead or kept ready: time passes part by part, each tick that a clock ever had is looked at,
and what comes next is found by letting it come to a copy.
"""

import copy

KINDS = ("begins", "frame", "clock", "speed", "timer", "stop", "left", "now", "next", "shows")


class Model:
    def __init__(self):
        self.begins(16, 5)

    def answer(self, call):
        return getattr(self, KINDS[call[0]])(*call[1:])

    def begins(self, step, most):
        if not (1 <= step <= 1000 and 1 <= most <= 50):
            return [-1]
        self.step, self.most = step, most
        self.time = self.ticks = self.lost = 0
        # Of each clock: what it hangs on, its speed, all hundredths it was ever given.
        self.clocks = {0: [None, 100, 0]}
        # Of each timer: its clock, the tick at which it is due first, again behind how many.
        self.timers = {}
        self.given = 0
        return [0]

    def had(self, number):
        return self.clocks[number][2] // 100

    def frame(self, parts):
        if parts > 100000:
            return [-1]
        ticks = 0
        told = []
        for _ in range(parts):
            self.time += 1
            if self.time < self.step:
                continue
            self.time = 0
            if ticks == self.most:
                self.lost += 1
            else:
                ticks += 1
                told += self.tick()
        return [ticks, self.time, len(told)] + [number for ring in told for number in ring]

    def tick(self):
        """Go on by one tick; tell what rings as (tick of the game, timer, tick of its clock)."""
        self.ticks += 1
        before = {number: self.had(number) for number in self.clocks}
        for number in range(len(self.clocks)):
            on, speed, _ = self.clocks[number]
            self.clocks[number][2] += speed * (1 if on is None else self.had(on) - before[on])
        told = []
        for number in range(len(self.clocks)):
            for due in range(before[number] + 1, self.had(number) + 1):
                for timer in range(self.given):
                    if self.is_due(timer, number, due):
                        told.append((self.ticks, timer, due))
                        if self.timers[timer][2] == 0:
                            self.timers.pop(timer)
        return told

    def is_due(self, timer, number, tick):
        if timer not in self.timers or self.timers[timer][0] != number:
            return False
        _, first, again = self.timers[timer]
        return tick == first or (again > 0 and tick > first and (tick - first) % again == 0)

    def clock(self, on, speed):
        if speed > 200:
            return [-1]
        if on not in self.clocks:
            return [-2]
        if len(self.clocks) == 6:
            return [-5]
        self.clocks[len(self.clocks)] = [on, speed, 0]
        return [len(self.clocks) - 1]

    def speed(self, number, speed):
        if speed > 200:
            return [-1]
        if number not in self.clocks:
            return [-2]
        self.clocks[number][1] = speed
        return [0]

    def timer(self, number, behind, again):
        if behind == 0 or behind > 1000 or again > 1000:
            return [-1]
        if number not in self.clocks:
            return [-2]
        if len(self.timers) == 12:
            return [-5]
        self.timers[self.given] = (number, self.had(number) + behind, again)
        self.given += 1
        return [self.given - 1]

    def stop(self, timer):
        if timer not in self.timers:
            return [-2]
        self.timers.pop(timer)
        return [len(self.timers)]

    def left(self, timer):
        if timer not in self.timers:
            return [-2]
        number, _, again = self.timers[timer]
        ticks = 1
        while not self.is_due(timer, number, self.had(number) + ticks):
            ticks += 1
        return [number, ticks, again]

    def now(self, number):
        if number not in self.clocks:
            return [-2]
        on, speed, hundredths = self.clocks[number]
        return [hundredths // 100, hundredths % 100, speed, 0 if on is None else on + 1]

    def next(self):
        other = copy.deepcopy(self)
        firsts = {}
        for ticks in range(1, 301):
            for _, timer, _ in other.tick():
                firsts.setdefault(timer, ticks)
        return [len(firsts)] + [number for timer in sorted(firsts) for number in (timer, firsts[timer])]

    def shows(self):
        return [self.ticks, self.time, self.lost, len(self.clocks), len(self.timers)]
