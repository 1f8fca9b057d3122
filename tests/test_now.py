import unittest

from tests.calls import HIGHEST, NEVER_THERE, Case, ask, begins, clock, frame, last, now, probes, speed, timer


class Answer(Case):
    def test_of_clock_0(self):
        told = ask(now(0), frame(48), now(0), frame(80), now(0))
        self.assertEqual(told[::2], [[0, 0, 100, 0], [3, 0, 100, 0], [8, 0, 100, 0]])

    def test_of_clock_0_at_another_speed(self):
        self.assertEqual(last(speed(0, 37), frame(80), now(0)), [1, 85, 37, 0])

    def test_on_which_clock_it_hangs(self):
        told = ask(clock(0, 10), clock(1, 20), clock(0, 30), clock(2, 40), clock(4, 50), *probes(6, 0)[:6])
        self.assertEqual(told[5:], [[0, 0, 100, 0], [0, 0, 10, 1], [0, 0, 20, 2], [0, 0, 30, 1], [0, 0, 40, 3],
                                    [0, 0, 50, 5]])

    def test_hundredths_left_over(self):
        told = ask(clock(0, 99), *[frame(16), now(1)] * 4)
        self.assertEqual(told[2::2], [[0, 99, 99, 1], [1, 98, 99, 1], [2, 97, 99, 1], [3, 96, 99, 1]])

    def test_a_whole_hundred_is_not_left_over(self):
        told = ask(clock(0, 50), clock(0, 150), frame(16), now(1), now(2), frame(16), now(1), now(2))
        self.assertEqual(told[3:5] + told[6:], [[0, 50, 50, 1], [1, 50, 150, 1], [1, 0, 50, 1], [3, 0, 150, 1]])

    def test_share_to_the_hundredth(self):
        for hundredths in (0, 1, 33, 100, 101, 199, 200):
            told = ask(begins(1, 50), clock(0, hundredths), frame(50), now(1), frame(37), now(1))
            self.assertEqual(told[3], [50 * hundredths // 100, 50 * hundredths % 100, hundredths, 1])
            self.assertEqual(told[5], [87 * hundredths // 100, 87 * hundredths % 100, hundredths, 1])

    def test_share_of_the_clock_on_which_it_hangs(self):
        told = ask(begins(1, 50), clock(0, 150), clock(1, 70), clock(2, 130), frame(31), now(1), now(2), now(3))
        self.assertEqual(told[5:], [[46, 50, 150, 1], [32, 20, 70, 2], [41, 60, 130, 3]])

    def test_forgotten_ticks_are_none_of_a_clocks(self):
        self.assertEqual(last(clock(0, 150), frame(100000), now(1)), [7, 50, 150, 1])

    def test_a_clock_that_came_later(self):
        self.assertEqual(ask(frame(80), clock(0, 100), now(1), frame(32), now(0), now(1))[2:],
                         [[0, 0, 100, 1], [2, 0, 0], [7, 0, 100, 0], [2, 0, 100, 1]])


class Changed(Case):
    def test_behind_a_change_of_speed(self):
        told = ask(clock(0, 70), frame(16), speed(1, 45), now(1), frame(16), now(1), speed(1, 200), frame(16), now(1))
        self.assertEqual([told[at] for at in (3, 5, 8)], [[0, 70, 45, 1], [1, 15, 45, 1], [3, 15, 200, 1]])

    def test_held(self):
        told = ask(clock(0, 70), frame(32), speed(1, 0), now(1), frame(80), now(1))
        self.assertEqual(told[3::2], [[1, 40, 0, 1], [1, 40, 0, 1]])

    def test_below_a_held_clock(self):
        told = ask(clock(0, 100), clock(1, 70), frame(32), speed(1, 0), frame(80), now(1), now(2))
        self.assertEqual(told[5:], [[2, 0, 0, 1], [1, 40, 70, 2]])

    def test_a_refused_speed_is_not_told(self):
        self.assertEqual(last(clock(0, 70), speed(1, 201), now(1)), [0, 0, 70, 1])

    def test_behind_begins(self):
        self.assertEqual(ask(clock(0, 70), speed(0, 30), frame(16), begins(16, 5), now(0), now(1))[4:],
                         [[0, 0, 100, 0], [-2]])


class Refusals(Case):
    def test_no_such_clock(self):
        for number in (1, 5, 6, *NEVER_THERE):
            self.assertEqual(ask(now(number)), [[-2]], number)

    def test_a_clock_that_was_refused(self):
        self.assertEqual(last(clock(0, 201), now(1)), [-2])
        self.assertEqual(ask(*[clock(0, 1)] * 6, now(5), now(6))[6:], [[0, 0, 1, 1], [-2]])

    def test_a_number_of_a_timer_is_none_of_a_clock(self):
        self.assertEqual(last(timer(0, 1, 1), timer(0, 1, 1), now(1)), [-2])


class Unchanged(Case):
    def test_all_is_as_it_was(self):
        for number in (0, 1, 2, 3, HIGHEST):
            self.assertNothingChanges(now(number))


if __name__ == "__main__":
    unittest.main()
