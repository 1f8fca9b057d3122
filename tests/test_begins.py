import unittest

from tests.calls import HIGHEST, Case, ask, begins, clock, frame, last, speed, timer


class Bounds(Case):
    def test_step(self):
        for step, answer in ((0, -1), (1, 0), (16, 0), (1000, 0), (1001, -1), (HIGHEST, -1)):
            self.assertEqual(ask(begins(step, 5)), [[answer]], step)

    def test_most(self):
        for most, answer in ((0, -1), (1, 0), (5, 0), (50, 0), (51, -1), (HIGHEST, -1)):
            self.assertEqual(ask(begins(16, most)), [[answer]], most)

    def test_both_wrong(self):
        for step in (0, 1001, HIGHEST):
            for most in (0, 51, HIGHEST):
                self.assertEqual(ask(begins(step, most)), [[-1]])


class Line(Case):
    def test_step_at_a_lines_beginning(self):
        self.assertEqual(ask(frame(15), frame(1), frame(16)), [[0, 15, 0], [1, 0, 0], [1, 0, 0]])

    def test_most_at_a_lines_beginning(self):
        self.assertEqual(ask(frame(80)), [[5, 0, 0]])
        self.assertEqual(ask(frame(96)), [[5, 0, 0]])

    def test_clock_at_a_lines_beginning(self):
        self.assertEqual(ask(timer(0, 1, 1), frame(48)), [[0], [3, 0, 3, 1, 0, 1, 2, 0, 2, 3, 0, 3]])
        self.assertEqual(ask(clock(0, 100)), [[1]])

    def test_no_timer_at_a_lines_beginning(self):
        self.assertEqual(ask(frame(80)), [[5, 0, 0]])


class Anew(Case):
    def test_step_and_most_hold(self):
        self.assertEqual(ask(begins(10, 3), frame(29), frame(100)), [[0], [2, 9, 0], [3, 9, 0]])
        self.assertEqual(last(begins(1000, 50), frame(50999)), [50, 999, 0])
        self.assertEqual(last(begins(1, 1), frame(100000)), [1, 0, 0])

    def test_what_is_left_over_is_gone(self):
        self.assertEqual(ask(frame(15), begins(16, 5), frame(1)), [[0, 15, 0], [0], [0, 1, 0]])

    def test_ticks_are_counted_from_one_again(self):
        self.assertEqual(last(frame(64), begins(16, 5), timer(0, 2, 0), frame(48)), [3, 0, 1, 2, 0, 2])

    def test_timers_are_gone(self):
        self.assertEqual(last(timer(0, 1, 1), begins(16, 5), frame(80)), [5, 0, 0])

    def test_there_is_room_for_twelve_timers_again(self):
        twelve = [timer(0, 1, 1)] * 12
        self.assertEqual(ask(*twelve, begins(16, 5), *twelve)[13:], [[number] for number in range(12)])

    def test_numbers_of_timers_begin_again(self):
        self.assertEqual(ask(timer(0, 1, 0), timer(0, 1, 0), begins(16, 5), timer(0, 1, 0)), [[0], [1], [0], [0]])

    def test_clocks_are_gone(self):
        self.assertEqual(ask(clock(0, 50), begins(16, 5), timer(1, 1, 0), speed(1, 5), clock(0, 50)),
                         [[1], [0], [-2], [-2], [1]])

    def test_clock_0_has_its_first_speed(self):
        self.assertEqual(last(speed(0, 0), begins(16, 5), timer(0, 1, 0), frame(16)), [1, 0, 1, 1, 0, 1])

    def test_clock_0_has_no_hundredths_left_over(self):
        self.assertEqual(last(speed(0, 99), frame(16), begins(16, 5), speed(0, 1), timer(0, 1, 0), frame(16)),
                         [1, 0, 0])


class Refused(Case):
    def test_all_is_as_it_was(self):
        before = [begins(10, 3), clock(0, 150), timer(1, 3, 2), frame(19)]
        behind = [frame(11), clock(0, 1), timer(1, 1, 0), frame(100)]
        plain = ask(*before, *behind)
        for step, most in ((0, 5), (1001, 5), (16, 0), (16, 51), (0, 51)):
            told = ask(*before, begins(step, most), *behind)
            self.assertEqual(told[4], [-1])
            self.assertEqual(told[:4] + told[5:], plain)


if __name__ == "__main__":
    unittest.main()
