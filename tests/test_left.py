import unittest

from tests.calls import HIGHEST, NEVER_THERE, Case, ask, begins, clock, frame, last, left, speed, stop, timer


class Answer(Case):
    def test_at_once(self):
        self.assertEqual(ask(clock(0, 50), timer(1, 7, 3), timer(0, 1000, 1000), timer(1, 1, 0), left(0), left(1),
                             left(2))[4:], [[1, 7, 3], [0, 1000, 1000], [1, 1, 0]])

    def test_goes_down_by_its_clocks_ticks(self):
        told = ask(timer(0, 4, 9), left(0), frame(16), left(0), frame(32), left(0))
        self.assertEqual(told[1::2], [[0, 4, 9], [0, 3, 9], [0, 1, 9]])

    def test_just_behind_a_ring(self):
        told = ask(timer(0, 2, 3), frame(32), left(0), frame(16), left(0), frame(32), left(0))
        self.assertEqual(told[1:], [[2, 0, 1, 2, 0, 2], [0, 3, 3], [1, 0, 0], [0, 2, 3], [2, 0, 1, 5, 0, 5], [0, 3, 3]])

    def test_again_behind_each_tick(self):
        self.assertEqual(last(timer(0, 1, 1), frame(80), left(0)), [0, 1, 1])

    def test_again_behind_a_thousand(self):
        self.assertEqual(last(timer(0, 1, 1000), frame(16), left(0)), [0, 1000, 1000])

    def test_is_counted_from_when_it_was_made(self):
        self.assertEqual(last(frame(80), frame(48), timer(0, 5, 2), frame(16), left(0)), [0, 4, 2])


class Speeds(Case):
    def test_on_a_slow_clock(self):
        told = ask(clock(0, 40), timer(1, 2, 4), *[frame(16), left(0)] * 5)
        self.assertEqual(told[3::2], [[1, 2, 4], [1, 2, 4], [1, 1, 4], [1, 1, 4], [1, 4, 4]])

    def test_on_a_fast_clock(self):
        told = ask(clock(0, 200), timer(1, 3, 5), *[frame(16), left(0)] * 4)
        self.assertEqual(told[3::2], [[1, 1, 5], [1, 4, 5], [1, 2, 5], [1, 5, 5]])

    def test_behind_several_rings_within_one_tick_of_the_game(self):
        self.assertEqual(ask(speed(0, 200), clock(0, 200), timer(1, 2, 3), frame(32), left(0))[3:],
                         [[2, 0, 3, 1, 0, 2, 2, 0, 5, 2, 0, 8], [1, 3, 3]])

    def test_on_a_held_clock(self):
        told = ask(clock(0, 0), timer(1, 6, 2), frame(80), left(0), speed(1, 100), frame(32), left(0), speed(1, 0),
                   frame(80), left(0))
        self.assertEqual([told[at] for at in (3, 6, 9)], [[1, 6, 2], [1, 4, 2], [1, 4, 2]])

    def test_on_a_clock_that_hangs_on_another(self):
        told = ask(clock(0, 50), clock(1, 200), timer(2, 5, 0), *[frame(16), left(0)] * 4)
        self.assertEqual(told[4::2], [[2, 5, 0], [2, 3, 0], [2, 3, 0], [2, 1, 0]])

    def test_speed_plays_no_part_till_the_clock_ticks(self):
        told = ask(timer(0, 9, 8), speed(0, 200), left(0), speed(0, 1), left(0))
        self.assertEqual(told[2::2], [[0, 9, 8], [0, 9, 8]])


class Refusals(Case):
    def test_no_timer_at_all(self):
        for number in (0, 1, 11, 12, *NEVER_THERE):
            self.assertEqual(ask(left(number)), [[-2]], number)

    def test_never_was(self):
        for number in (1, 12, *NEVER_THERE):
            self.assertEqual(ask(timer(0, 2, 1), left(number), left(0)), [[0], [-2], [0, 2, 1]], number)

    def test_rang_its_once(self):
        self.assertEqual(ask(timer(0, 2, 0), frame(16), left(0), frame(16), left(0))[2::2], [[0, 1, 0], [-2]])

    def test_stopped(self):
        self.assertEqual(ask(timer(0, 2, 1), timer(0, 3, 1), stop(0), left(0), left(1))[3:], [[-2], [0, 3, 1]])

    def test_gone_with_the_game(self):
        self.assertEqual(ask(timer(0, 2, 1), begins(16, 5), left(0), timer(0, 4, 0), left(0))[2:],
                         [[-2], [0], [0, 4, 0]])

    def test_a_number_of_a_clock_is_none_of_a_timer(self):
        self.assertEqual(last(clock(0, 50), timer(1, 1, 1), left(1)), [-2])


class Unchanged(Case):
    def test_all_is_as_it_was(self):
        for number in (0, 1, 2, 3, HIGHEST):
            self.assertNothingChanges(left(number))


if __name__ == "__main__":
    unittest.main()
