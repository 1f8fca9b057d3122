import unittest

from tests.calls import HIGHEST, Case, ask, begins, clock, frame, last, rings, speed, timer


def ticks_of(clocks, number, frames):
    """How many ticks the clock has had behind each tick of the game, told by a timer that rings at each."""
    told = ask(begins(1, 50), *clocks, timer(number, 1, 1), *[frame(1)] * frames)[-frames:]
    had = []
    for answer in told:
        had.append(len(rings(answer)) + (had[-1] if had else 0))
    return had


class ClockRefusals(Case):
    def test_speed(self):
        for hundredths, answer in ((0, 1), (1, 1), (100, 1), (200, 1), (201, -1), (HIGHEST, -1)):
            self.assertEqual(ask(clock(0, hundredths)), [[answer]], hundredths)

    def test_no_such_clock(self):
        for on in (1, 2, 6, HIGHEST):
            self.assertEqual(ask(clock(on, 100)), [[-2]], on)

    def test_it_does_not_hang_on_itself(self):
        self.assertEqual(ask(clock(0, 100), clock(2, 100), clock(1, 100)), [[1], [-2], [2]])

    def test_a_seventh_clock(self):
        self.assertEqual(ask(*[clock(0, 100)] * 7), [[1], [2], [3], [4], [5], [-5], [-5]])

    def test_the_one_told_first(self):
        self.assertEqual(last(clock(9, 201)), [-1])
        five = [clock(0, 100)] * 5
        self.assertEqual(last(*five, clock(0, 201)), [-1])
        self.assertEqual(last(*five, clock(6, 201)), [-1])
        self.assertEqual(last(*five, clock(6, 200)), [-2])
        self.assertEqual(last(*five, clock(5, 200)), [-5])

    def test_refused_all_is_as_it_was(self):
        before = [clock(0, 60), timer(1, 1, 1), frame(16)]
        behind = [clock(1, 50), timer(2, 1, 1), frame(80), frame(80)]
        for refused in (clock(0, 201), clock(2, 100), clock(HIGHEST, HIGHEST)):
            told = ask(*before, refused, *behind)
            self.assertLess(told[3][0], 0)
            self.assertEqual(told[:3] + told[4:], ask(*before, *behind))

    def test_a_refused_seventh_clock_is_not_there(self):
        self.assertEqual(ask(*[clock(0, 100)] * 6, timer(6, 1, 0), speed(6, 1), timer(5, 1, 0))[5:],
                         [[-5], [-2], [-2], [0]])


class SpeedRefusals(Case):
    def test_speed(self):
        for hundredths, answer in ((0, 0), (1, 0), (100, 0), (200, 0), (201, -1), (HIGHEST, -1)):
            self.assertEqual(ask(speed(0, hundredths)), [[answer]], hundredths)

    def test_no_such_clock(self):
        for number in (1, 5, HIGHEST):
            self.assertEqual(ask(speed(number, 100)), [[-2]], number)
        self.assertEqual(ask(clock(0, 1), speed(1, 100), speed(2, 100)), [[1], [0], [-2]])

    def test_the_one_told_first(self):
        self.assertEqual(ask(speed(1, 201)), [[-1]])

    def test_refused_all_is_as_it_was(self):
        before = [clock(0, 60), timer(1, 1, 1), timer(0, 1, 1), frame(16)]
        for refused in (speed(1, 201), speed(0, HIGHEST), speed(2, 0)):
            told = ask(*before, refused, frame(80))
            self.assertLess(told[4][0], 0)
            self.assertEqual(told[:4] + told[5:], ask(*before, frame(80)))


class Share(Case):
    def test_on_clock_0_to_the_hundredth(self):
        for hundredths in (0, 1, 33, 50, 67, 99, 100, 101, 150, 199, 200):
            self.assertEqual(ticks_of([clock(0, hundredths)], 1, 30),
                             [tick * hundredths // 100 for tick in range(1, 31)], hundredths)

    def test_of_clock_0_itself(self):
        for hundredths in (0, 37, 100, 200):
            self.assertEqual(ticks_of([speed(0, hundredths)], 0, 30),
                             [tick * hundredths // 100 for tick in range(1, 31)], hundredths)

    def test_speed_1_has_its_first_tick_at_the_hundredth(self):
        told = ask(begins(1, 50), clock(0, 1), timer(1, 1, 1), frame(50), frame(49), frame(1), frame(50), frame(50))
        self.assertEqual(told[3:], [[50, 0, 0], [49, 0, 0], [1, 0, 1, 100, 0, 1], [50, 0, 0],
                                    [50, 0, 1, 200, 0, 2]])

    def test_on_a_clock_that_hangs_on_another(self):
        for first, second, third in ((50, 50, 50), (150, 70, 130), (200, 200, 200), (33, 200, 99), (0, 200, 200)):
            clocks = [clock(0, first), clock(1, second), clock(2, third)]
            wanted = []
            for tick in range(1, 31):
                wanted.append(tick * first // 100 * second // 100 * third // 100)
            self.assertEqual(ticks_of(clocks, 3, 30), wanted)

    def test_clocks_on_one_clock_do_not_share(self):
        clocks = [clock(0, 50), clock(0, 150), clock(1, 100), clock(1, 200)]
        wanted = (lambda tick: tick, lambda tick: tick // 2, lambda tick: tick * 3 // 2,
                  lambda tick: tick // 2, lambda tick: tick // 2 * 2)
        for number in range(5):
            self.assertEqual(ticks_of(clocks, number, 20), [wanted[number](tick) for tick in range(1, 21)])

    def test_six_fast_clocks_one_below_the_other(self):
        clocks = [speed(0, 200)] + [clock(on, 200) for on in range(5)]
        self.assertEqual(ticks_of(clocks, 5, 4), [64, 128, 192, 256])

    def test_a_new_clock_begins_with_nothing(self):
        told = ask(frame(80), clock(0, 100), timer(1, 1, 1), frame(32))
        self.assertEqual(told[-1], [2, 0, 2, 6, 0, 1, 7, 0, 2])


class Changed(Case):
    def test_hundredths_left_over_stay(self):
        told = ask(clock(0, 99), timer(1, 1, 1), frame(16), speed(1, 1), frame(16))
        self.assertEqual(told[2:], [[1, 0, 0], [0], [1, 0, 1, 2, 0, 1]])

    def test_less_than_a_tick_is_not_one(self):
        told = ask(clock(0, 98), timer(1, 1, 1), frame(16), speed(1, 1), frame(16), frame(16))
        self.assertEqual(told[4:], [[1, 0, 0], [1, 0, 1, 3, 0, 1]])

    def test_speed_0_holds_a_clock_and_its_hundredths(self):
        told = ask(clock(0, 70), timer(1, 1, 1), frame(16), speed(1, 0), frame(80), frame(80), speed(1, 30),
                   frame(16))
        self.assertEqual(told[2:], [[1, 0, 0], [0], [5, 0, 0], [5, 0, 0], [0], [1, 0, 1, 12, 0, 1]])

    def test_speed_0_holds_what_hangs_on_it(self):
        told = ask(clock(0, 100), clock(1, 200), timer(2, 1, 1), timer(0, 1, 0), frame(16), speed(1, 0), frame(48),
                   speed(1, 100), frame(16))
        self.assertEqual(told[4], [1, 0, 3, 1, 1, 1, 1, 0, 1, 1, 0, 2])
        self.assertEqual(told[6], [3, 0, 0])
        self.assertEqual(told[8], [1, 0, 2, 5, 0, 3, 5, 0, 4])

    def test_speed_of_clock_0_is_felt_below_it(self):
        told = ask(clock(0, 100), timer(1, 1, 1), speed(0, 50), frame(64))
        self.assertEqual(told[3], [4, 0, 2, 2, 0, 1, 4, 0, 2])

    def test_only_the_clock_that_is_named(self):
        told = ask(clock(0, 100), clock(0, 100), timer(0, 1, 1), timer(2, 1, 1), speed(1, 0), frame(16))
        self.assertEqual(told[5], [1, 0, 2, 1, 0, 1, 1, 1, 1])


if __name__ == "__main__":
    unittest.main()
