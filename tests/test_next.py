import unittest

from tests.calls import Case, ahead, ask, begins, clock, frame, last, rings, speed, stop, timer


class Answer(Case):
    def test_no_timer(self):
        self.assertEqual(ask(ahead()), [[0]])
        self.assertEqual(ask(clock(0, 200), frame(80), ahead())[2], [0])

    def test_within_300_ticks(self):
        for behind, answer in ((1, [1, 0, 1]), (299, [1, 0, 299]), (300, [1, 0, 300]), (301, [0]), (1000, [0])):
            self.assertEqual(last(timer(0, behind, 0), ahead()), answer, behind)
            self.assertEqual(last(timer(0, behind, 1), ahead()), answer, behind)

    def test_some_do_and_some_do_not(self):
        self.assertEqual(last(timer(0, 300, 0), timer(0, 301, 0), timer(0, 7, 1), timer(0, 1000, 1), timer(0, 1, 0),
                              ahead()), [3, 0, 300, 2, 7, 4, 1])

    def test_by_the_timers_numbers(self):
        self.assertEqual(last(clock(0, 200), timer(1, 9, 0), timer(0, 9, 0), timer(1, 1, 1), timer(0, 1, 1), ahead()),
                         [4, 0, 5, 1, 9, 2, 1, 3, 1])

    def test_numbers_above_nine(self):
        twelve = [timer(0, 20 - number, 0) for number in range(12)]
        old_ones = [told for number in range(12) if number != 4 for told in (number, 20 - number)]
        self.assertEqual(last(*twelve, stop(4), timer(0, 3, 0), ahead()), [12] + old_ones + [12, 3])

    def test_told_once_with_its_first_time(self):
        self.assertEqual(last(timer(0, 5, 1), speed(0, 200), ahead()), [1, 0, 3])
        self.assertEqual(last(speed(0, 200), clock(0, 200), timer(1, 1, 1), ahead()), [1, 0, 1])

    def test_stopped_and_rung_ones_are_not_told(self):
        self.assertEqual(last(timer(0, 1, 0), timer(0, 9, 0), timer(0, 9, 9), frame(16), stop(1), ahead()), [1, 2, 8])

    def test_behind_begins(self):
        self.assertEqual(last(timer(0, 1, 1), begins(16, 5), ahead()), [0])


class FromNowOn(Case):
    def test_is_counted_from_now(self):
        told = ask(timer(0, 303, 0), ahead(), frame(32), ahead(), frame(16), ahead(), frame(16), ahead())
        self.assertEqual(told[1::2], [[0], [0], [1, 0, 300], [1, 0, 299]])

    def test_just_behind_a_ring(self):
        self.assertEqual(last(timer(0, 2, 300), frame(32), ahead()), [1, 0, 300])
        self.assertEqual(last(timer(0, 2, 301), frame(32), ahead()), [0])

    def test_hundredths_left_over_play_a_part(self):
        told = ask(clock(0, 40), timer(1, 1, 0), ahead(), frame(16), ahead(), frame(16), ahead())
        self.assertEqual(told[2::2], [[1, 0, 3], [1, 0, 2], [1, 0, 1]])

    def test_the_speed_of_now_is_taken(self):
        told = ask(clock(0, 100), timer(1, 100, 0), ahead(), speed(1, 50), ahead(), speed(1, 33), ahead(),
                   speed(1, 34), ahead(), speed(1, 200), ahead())
        self.assertEqual(told[2::2], [[1, 0, 100], [1, 0, 200], [0], [1, 0, 295], [1, 0, 50]])


class Clocks(Case):
    def test_a_held_clock(self):
        self.assertEqual(last(clock(0, 0), timer(1, 1, 1), timer(0, 2, 0), ahead()), [1, 1, 2])

    def test_below_a_held_clock(self):
        self.assertEqual(last(clock(0, 0), clock(1, 200), timer(2, 1, 1), ahead()), [0])

    def test_a_slow_clock_at_the_edge(self):
        self.assertEqual(last(clock(0, 1), timer(1, 3, 0), timer(1, 4, 0), ahead()), [1, 0, 300])
        self.assertEqual(last(clock(0, 1), frame(16), timer(1, 3, 0), timer(1, 4, 0), ahead()), [1, 0, 299])

    def test_a_fast_clock_at_the_edge(self):
        self.assertEqual(last(clock(0, 200), timer(1, 600, 0), timer(1, 601, 0), timer(1, 599, 0), ahead()),
                         [2, 0, 300, 2, 300])

    def test_on_another_clock(self):
        told = ask(clock(0, 50), clock(1, 50), clock(2, 50), timer(3, 1, 1), timer(3, 37, 1), timer(3, 38, 1),
                   timer(2, 75, 0), timer(2, 76, 0), ahead())
        self.assertEqual(told[8], [3, 0, 8, 1, 296, 3, 300])

    def test_on_clock_0_at_another_speed(self):
        self.assertEqual(last(clock(0, 100), speed(0, 10), timer(1, 30, 0), timer(1, 31, 0), timer(0, 5, 0), ahead()),
                         [2, 0, 300, 2, 50])


class Foretold(Case):
    def test_it_comes_as_told(self):
        world = [begins(1, 50), speed(0, 90), clock(0, 150), clock(1, 33), clock(0, 1), frame(13),
                 timer(0, 300, 1), timer(1, 400, 3), timer(2, 5, 1), timer(2, 140, 0), timer(3, 3, 0), timer(0, 1, 2),
                 timer(3, 1, 1), timer(0, 270, 0), timer(0, 271, 0)]
        told = ask(*world, ahead(), *[frame(50)] * 6)
        firsts = {}
        for answer in told[len(world) + 1:]:
            for tick, number, _ in rings(answer):
                firsts.setdefault(number, tick - 13)
        flat = [number for pair in sorted(firsts.items()) for number in pair]
        self.assertEqual(told[len(world)], [len(firsts)] + flat)
        self.assertEqual(sorted(firsts), [1, 2, 5, 6, 7])

    def test_most_plays_no_part(self):
        for most in (1, 5, 50):
            self.assertEqual(last(begins(16, most), timer(0, 300, 0), timer(0, 301, 0), ahead()), [1, 0, 300])

    def test_step_plays_no_part(self):
        for step in (1, 16, 1000):
            self.assertEqual(last(begins(step, 5), timer(0, 300, 0), timer(0, 301, 0), ahead()), [1, 0, 300])

    def test_what_is_left_over_of_the_time_plays_no_part(self):
        for parts in (0, 1, 15):
            self.assertEqual(last(frame(parts), timer(0, 300, 0), timer(0, 301, 0), timer(0, 1, 0), ahead()),
                             [2, 0, 300, 2, 1])

    def test_lost_ticks_play_no_part(self):
        self.assertEqual(last(timer(0, 305, 0), timer(0, 306, 0), frame(100000), ahead()), [1, 0, 300])


class Unchanged(Case):
    def test_all_is_as_it_was(self):
        self.assertNothingChanges(ahead())

    def test_between_all_calls(self):
        plain = [clock(0, 70), timer(1, 1, 1), timer(0, 3, 0), frame(40), speed(1, 199), frame(40), stop(0), frame(80),
                 timer(1, 1, 0), frame(32)]
        told = ask(*[call for each in plain for call in (ahead(), each)])
        self.assertEqual(told[1::2], ask(*plain))


if __name__ == "__main__":
    unittest.main()
