import unittest

from tests.calls import Case, ahead, ask, begins, clock, frame, last, left, now, shows, speed, stop, timer


class Answer(Case):
    def test_at_a_lines_beginning(self):
        self.assertEqual(ask(shows()), [[0, 0, 0, 1, 0]])

    def test_all_five(self):
        self.assertEqual(last(clock(0, 50), clock(1, 0), timer(0, 9, 0), frame(16 * 7 + 3), shows()), [5, 3, 2, 3, 1])

    def test_ticks_the_game_has_had(self):
        told = ask(*[frame(16), shows()] * 3, frame(0), shows(), frame(80), shows())
        self.assertEqual([answer[0] for answer in told[1::2]], [1, 2, 3, 3, 8])

    def test_ticks_of_the_game_not_of_clock_0(self):
        for hundredths in (0, 50, 200):
            self.assertEqual(last(speed(0, hundredths), frame(64), shows()), [4, 0, 0, 1, 0])

    def test_what_is_left_over(self):
        told = ask(*[frame(10), shows()] * 4)
        self.assertEqual([answer[1] for answer in told[1::2]], [10, 4, 14, 8])
        self.assertEqual(last(begins(1000, 5), frame(999), shows()), [0, 999, 0, 1, 0])


class Lost(Case):
    def test_in_one_frame(self):
        for parts, lost in ((80, 0), (95, 0), (96, 1), (111, 1), (112, 2), (1000, 57), (100000, 6245)):
            self.assertEqual(last(frame(parts), shows()), [5, parts % 16, lost, 1, 0], parts)

    def test_in_several_together(self):
        told = ask(*[frame(1000), shows()] * 3, frame(16), shows())
        self.assertEqual(told[1::2], [[5, 8, 57, 1, 0], [10, 0, 115, 1, 0], [15, 8, 172, 1, 0], [16, 8, 172, 1, 0]])

    def test_what_was_left_over_before_counts(self):
        self.assertEqual(ask(begins(10, 1), frame(9), shows(), frame(11), shows())[2::2],
                         [[0, 9, 0, 1, 0], [1, 0, 1, 1, 0]])

    def test_as_most_tells(self):
        for most in (1, 49, 50):
            self.assertEqual(last(begins(1, most), frame(50), shows()), [most, 0, 50 - most, 1, 0])

    def test_many_times(self):
        self.assertEqual(last(begins(1, 1), *[frame(100000)] * 38, shows()), [38, 0, 38 * 99999, 1, 0])

    def test_a_refused_frame_loses_none(self):
        self.assertEqual(last(frame(97), frame(100001), shows()), [5, 1, 1, 1, 0])


class Counts(Case):
    def test_clocks(self):
        told = ask(*[clock(0, 1), shows()] * 6)
        self.assertEqual([answer[3] for answer in told[1::2]], [2, 3, 4, 5, 6, 6])

    def test_timers(self):
        told = ask(*[timer(0, 1, 1), shows()] * 13)
        self.assertEqual([answer[4] for answer in told[1::2]], [*range(1, 13), 12])

    def test_what_rang_its_once_is_not_there(self):
        told = ask(timer(0, 1, 0), timer(0, 1, 1), timer(0, 2, 0), *[frame(16), shows()] * 3)
        self.assertEqual(told[4::2], [[1, 0, 0, 1, 2], [2, 0, 0, 1, 1], [3, 0, 0, 1, 1]])

    def test_what_was_stopped_is_not_there(self):
        self.assertEqual(last(timer(0, 1, 0), timer(0, 1, 1), stop(0), stop(0), shows()), [0, 0, 0, 1, 1])

    def test_refused_ones_are_not_there(self):
        self.assertEqual(last(clock(0, 201), clock(1, 1), timer(0, 0, 1), timer(1, 1, 1), shows()), [0, 0, 0, 1, 0])


class BehindBegins(Case):
    def test_all_is_put_back(self):
        before = [speed(0, 30), clock(0, 50), timer(1, 9, 9), timer(0, 3, 0), frame(1003)]
        self.assertEqual(last(*before, shows()), [5, 11, 57, 2, 2])
        self.assertEqual(ask(*before, begins(16, 5), shows(), now(0), now(1), left(0), ahead())[6:],
                         [[0, 0, 0, 1, 0], [0, 0, 100, 0], [-2], [-2], [0]])

    def test_it_goes_on_from_there(self):
        self.assertEqual(last(frame(1000), begins(10, 2), frame(39), shows()), [2, 9, 1, 1, 0])

    def test_refused_it_puts_nothing_back(self):
        self.assertEqual(last(clock(0, 1), timer(0, 9, 1), frame(1000), begins(0, 5), shows()), [5, 8, 57, 2, 1])


class Unchanged(Case):
    def test_all_is_as_it_was(self):
        self.assertNothingChanges(shows())


if __name__ == "__main__":
    unittest.main()
