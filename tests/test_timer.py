import unittest

from tests.calls import HIGHEST, Case, ask, begins, clock, frame, last, rings, speed, timer


class Refusals(Case):
    def test_behind(self):
        for behind, answer in ((0, -1), (1, 0), (2, 0), (1000, 0), (1001, -1), (HIGHEST, -1)):
            self.assertEqual(ask(timer(0, behind, 1)), [[answer]], behind)

    def test_again(self):
        for again, answer in ((0, 0), (1, 0), (1000, 0), (1001, -1), (HIGHEST, -1)):
            self.assertEqual(ask(timer(0, 1, again)), [[answer]], again)

    def test_no_such_clock(self):
        for on in (1, 5, HIGHEST):
            self.assertEqual(ask(timer(on, 1, 1)), [[-2]], on)
        self.assertEqual(ask(clock(0, 1), timer(1, 1, 1), timer(2, 1, 1)), [[1], [0], [-2]])

    def test_a_thirteenth_timer(self):
        self.assertEqual(ask(*[timer(0, 1, 1)] * 14), [[number] for number in range(12)] + [[-5], [-5]])

    def test_the_one_told_first(self):
        self.assertEqual(ask(timer(1, 0, 0)), [[-1]])
        self.assertEqual(ask(timer(1, 1, 1001)), [[-1]])
        self.assertEqual(ask(timer(1, 1001, 0)), [[-1]])
        twelve = [timer(0, 1, 1)] * 12
        self.assertEqual(last(*twelve, timer(0, 0, 1)), [-1])
        self.assertEqual(last(*twelve, timer(1, 0, 1)), [-1])
        self.assertEqual(last(*twelve, timer(1, 1, 1)), [-2])
        self.assertEqual(last(*twelve, timer(0, 1, 1)), [-5])

    def test_refused_all_is_as_it_was(self):
        before = [timer(0, 2, 3), frame(16)]
        behind = [timer(0, 1, 0), frame(80)]
        for refused in (timer(0, 0, 0), timer(0, 1001, 0), timer(0, 1, 1001), timer(1, 1, 1)):
            told = ask(*before, refused, *behind)
            self.assertLess(told[2][0], 0)
            self.assertEqual(told[:2] + told[3:], ask(*before, *behind))

    def test_a_refused_thirteenth_takes_no_number(self):
        told = ask(timer(0, 1, 0), *[timer(0, 9, 9)] * 11, timer(0, 1, 1), frame(16), timer(0, 5, 5))
        self.assertEqual(told[12:], [[-5], [1, 0, 1, 1, 0, 1], [12]])


class Once(Case):
    def test_rings_once_and_never_else(self):
        self.assertEqual(ask(timer(0, 2, 0), frame(16), frame(16), frame(80), frame(80)),
                         [[0], [1, 0, 0], [1, 0, 1, 2, 0, 2], [5, 0, 0], [5, 0, 0]])

    def test_its_number_is_not_given_again(self):
        self.assertEqual(ask(timer(0, 1, 0), frame(16), timer(0, 1, 0), frame(16), timer(0, 1, 0)),
                         [[0], [1, 0, 1, 1, 0, 1], [1], [1, 0, 1, 2, 1, 2], [2]])

    def test_it_makes_room(self):
        told = ask(*[timer(0, 1, 0)] * 2, *[timer(0, 50, 1)] * 10, timer(0, 1, 0), frame(16), *[timer(0, 1, 0)] * 3)
        self.assertEqual(told[12], [-5])
        self.assertEqual(told[13], [1, 0, 2, 1, 0, 1, 1, 1, 1])
        self.assertEqual(told[14:], [[12], [13], [-5]])

    def test_before_it_rings_it_makes_no_room(self):
        self.assertEqual(last(*[timer(0, 2, 0)] * 12, frame(16), timer(0, 1, 0)), [-5])

    def test_it_rings_for_one_tick_on_a_fast_clock(self):
        self.assertEqual(last(speed(0, 200), timer(0, 1, 0), frame(32)), [2, 0, 1, 1, 0, 1])
        self.assertEqual(last(speed(0, 200), timer(0, 2, 0), frame(32)), [2, 0, 1, 1, 0, 2])
        self.assertEqual(last(speed(0, 200), timer(0, 3, 0), frame(32)), [2, 0, 1, 2, 0, 3])


class Again(Case):
    def test_behind_and_again_differ(self):
        told = ask(begins(1, 50), timer(0, 3, 5), frame(20))
        self.assertEqual(rings(told[2]), [(3, 0, 3), (8, 0, 8), (13, 0, 13), (18, 0, 18)])

    def test_a_thousand(self):
        told = ask(begins(1, 50), clock(0, 200), clock(1, 200), timer(2, 1000, 1000), timer(2, 1000, 0),
                   *[frame(50)] * 15)
        rung = [ring for answer in told[5:] for ring in rings(answer)]
        self.assertEqual(rung, [(250, 0, 1000), (250, 1, 1000), (500, 0, 2000), (750, 0, 3000)])

    def test_is_counted_from_its_clocks_ticks(self):
        told = ask(clock(0, 50), frame(48), timer(1, 1, 2), timer(0, 1, 0), frame(80), frame(16))
        self.assertEqual(told[4], [5, 0, 3, 4, 1, 4, 4, 0, 2, 8, 0, 4])
        self.assertEqual(told[5], [1, 0, 0])

    def test_several_ticks_within_one_tick_of_the_game(self):
        told = ask(speed(0, 200), clock(0, 200), timer(1, 1, 1), frame(16), frame(16))
        self.assertEqual(rings(told[3]), [(1, 0, 1), (1, 0, 2), (1, 0, 3), (1, 0, 4)])
        self.assertEqual(rings(told[4]), [(2, 0, 5), (2, 0, 6), (2, 0, 7), (2, 0, 8)])

    def test_some_of_several_ticks(self):
        told = ask(speed(0, 200), clock(0, 200), timer(1, 2, 3), frame(48))
        self.assertEqual(rings(told[3]), [(1, 0, 2), (2, 0, 5), (2, 0, 8), (3, 0, 11)])

    def test_a_held_clock_does_not_ring_twice_at_one_tick(self):
        told = ask(timer(0, 1, 1), frame(16), speed(0, 0), frame(80), speed(0, 100), frame(16))
        self.assertEqual(told[1:], [[1, 0, 1, 1, 0, 1], [0], [5, 0, 0], [0], [1, 0, 1, 7, 0, 2]])

    def test_a_slow_clock_rings_only_when_it_ticks(self):
        told = ask(clock(0, 40), timer(1, 1, 1), frame(80))
        self.assertEqual(rings(told[2]), [(3, 0, 1), (5, 0, 2)])


class Order(Case):
    def test_ticks_of_the_game_come_first(self):
        told = ask(clock(0, 100), timer(1, 1, 1), timer(0, 2, 0), frame(48))
        self.assertEqual(rings(told[3]), [(1, 0, 1), (2, 1, 2), (2, 0, 2), (3, 0, 3)])

    def test_then_clocks_by_their_numbers(self):
        told = ask(clock(0, 200), clock(0, 100), timer(2, 1, 0), timer(1, 2, 0), timer(0, 1, 0), frame(16))
        self.assertEqual(rings(told[5]), [(1, 2, 1), (1, 1, 2), (1, 0, 1)])

    def test_then_by_the_tick_at_which_it_was_due(self):
        told = ask(speed(0, 200), timer(0, 2, 0), timer(0, 1, 0), frame(16))
        self.assertEqual(rings(told[3]), [(1, 1, 1), (1, 0, 2)])

    def test_then_by_the_timers_numbers(self):
        told = ask(timer(0, 2, 0), timer(0, 2, 1), timer(0, 1, 1), frame(32))
        self.assertEqual(rings(told[3]), [(1, 2, 1), (2, 0, 2), (2, 1, 2), (2, 2, 2)])

    def test_numbers_above_nine(self):
        told = ask(*[timer(0, 1, 0)] * 12, frame(16))
        self.assertEqual(rings(told[12]), [(1, number, 1) for number in range(12)])

    def test_all_at_once(self):
        told = ask(speed(0, 200), clock(0, 200), clock(0, 50),
                   timer(2, 1, 0), timer(1, 4, 0), timer(1, 1, 1), timer(0, 2, 2), timer(0, 1, 1), timer(1, 2, 2),
                   frame(16), frame(16))
        self.assertEqual(rings(told[9]), [(1, 4, 1), (1, 3, 2), (1, 4, 2),
                                          (1, 2, 1), (1, 2, 2), (1, 5, 2), (1, 2, 3), (1, 1, 4), (1, 2, 4), (1, 5, 4),
                                          (1, 0, 1)])
        self.assertEqual(rings(told[10]), [(2, 4, 3), (2, 3, 4), (2, 4, 4),
                                           (2, 2, 5), (2, 2, 6), (2, 5, 6), (2, 2, 7), (2, 2, 8), (2, 5, 8)])


class Many(Case):
    def test_twelve_timers_on_the_fastest_clock(self):
        clocks = [speed(0, 200)] + [clock(on, 200) for on in range(5)]
        told = last(begins(1, 50), *clocks, *[timer(5, 1, 1)] * 12, frame(50))
        wanted = [(1 + (due - 1) // 64, number, due) for due in range(1, 3201) for number in range(12)]
        self.assertEqual(told[:3], [50, 0, len(wanted)])
        self.assertEqual(rings(told), wanted)


if __name__ == "__main__":
    unittest.main()
