import unittest

from tests.calls import (HIGHEST, NEVER_THERE, Case, ahead, ask, begins, clock, frame, last, left, probes, rings,
                         shows, stop, timer)


class Answer(Case):
    def test_how_many_timers_there_are_then(self):
        self.assertEqual(ask(timer(0, 5, 0), timer(0, 2, 2), timer(0, 9, 1), stop(1), stop(0), stop(2))[3:],
                         [[2], [1], [0]])

    def test_of_twelve(self):
        told = ask(*[timer(0, 1, 1)] * 12, *[stop(number) for number in (11, 0, 5)], shows())
        self.assertEqual(told[12:], [[11], [10], [9], [0, 0, 0, 1, 9]])

    def test_what_rang_its_once_is_not_counted(self):
        self.assertEqual(last(timer(0, 1, 0), timer(0, 9, 0), timer(0, 9, 0), frame(16), stop(2)), [1])


class Refusals(Case):
    def test_no_timer_at_all(self):
        for number in (0, 1, 11, 12, *NEVER_THERE):
            self.assertEqual(ask(stop(number)), [[-2]], number)

    def test_never_was(self):
        for number in (1, 2, 12, *NEVER_THERE):
            self.assertEqual(ask(timer(0, 1, 1), stop(number), stop(0)), [[0], [-2], [0]], number)

    def test_stopped_before(self):
        self.assertEqual(ask(timer(0, 1, 1), timer(0, 1, 1), stop(0), stop(0), stop(1), stop(1), stop(0)),
                         [[0], [1], [1], [-2], [0], [-2], [-2]])

    def test_rang_its_once(self):
        self.assertEqual(ask(timer(0, 2, 0), frame(16), frame(16), stop(0))[2:], [[1, 0, 1, 2, 0, 2], [-2]])

    def test_once_before_it_rings(self):
        self.assertEqual(ask(timer(0, 2, 0), frame(16), stop(0), frame(16))[2:], [[0], [1, 0, 0]])

    def test_what_rings_again_is_there_behind_a_ring(self):
        self.assertEqual(last(timer(0, 1, 1), frame(80), stop(0)), [0])

    def test_a_refused_timer_is_not_there(self):
        self.assertEqual(ask(timer(0, 0, 1), stop(0), timer(1, 1, 1), stop(0)), [[-1], [-2], [-2], [-2]])
        self.assertEqual(last(*[timer(0, 1, 1)] * 13, stop(12)), [-2])

    def test_gone_with_the_game(self):
        self.assertEqual(last(timer(0, 1, 1), begins(16, 5), stop(0)), [-2])

    def test_a_number_of_a_clock_is_none_of_a_timer(self):
        self.assertEqual(last(clock(0, 50), clock(0, 50), timer(2, 1, 1), stop(1)), [-2])

    def test_refused_all_is_as_it_was(self):
        before = [clock(0, 70), timer(1, 2, 1), timer(0, 1, 0), timer(0, 9, 3), stop(2), frame(31)]
        behind = [*probes(2, 4), timer(0, 1, 0), frame(80), *probes(2, 4)]
        plain = ask(*before, *behind)
        for number in (1, 2, 3, HIGHEST):
            told = ask(*before, stop(number), *behind)
            self.assertEqual(told[6], [-2])
            self.assertEqual(told[:6] + told[7:], plain)


class Stopped(Case):
    def test_rings_no_more(self):
        self.assertEqual(ask(timer(0, 1, 1), frame(32), stop(0), frame(80), frame(80))[1:],
                         [[2, 0, 2, 1, 0, 1, 2, 0, 2], [0], [5, 0, 0], [5, 0, 0]])

    def test_the_others_ring_on_as_before(self):
        world = [clock(0, 150), timer(1, 1, 1), timer(0, 2, 3), timer(1, 4, 0), timer(0, 1, 2), frame(32)]
        plain = ask(*world, frame(80), frame(80))
        told = ask(*world, stop(1), frame(80), frame(80))
        self.assertEqual(told[:6], plain[:6])
        for at in (6, 7):
            self.assertEqual(rings(told[at + 1]), [ring for ring in rings(plain[at]) if ring[1] != 1])
        self.assertIn((5, 1, 5), rings(plain[6]))

    def test_each_of_several(self):
        world = [timer(0, behind, 1) for behind in (3, 1, 2, 1)]
        for number in range(4):
            told = last(*world, stop(number), frame(16), frame(16))
            self.assertEqual([ring[1] for ring in rings(told)], [other for other in (1, 2, 3) if other != number])

    def test_its_number_is_not_given_again(self):
        self.assertEqual(ask(timer(0, 1, 1), stop(0), timer(0, 1, 1), timer(0, 1, 1), stop(2), timer(0, 1, 1)),
                         [[0], [0], [1], [2], [1], [3]])

    def test_it_is_none_of_the_timers(self):
        self.assertEqual(ask(timer(0, 3, 3), timer(0, 2, 1), stop(0), left(0), left(1), ahead(), shows())[3:],
                         [[-2], [0, 2, 1], [1, 1, 2], [0, 0, 0, 1, 1]])

    def test_a_place_is_free_again(self):
        told = ask(*[timer(0, 7, 1)] * 12, timer(0, 1, 0), stop(3), timer(0, 1, 0), timer(0, 1, 0), stop(12),
                   stop(12), timer(0, 2, 0), timer(0, 2, 0))
        self.assertEqual(told[12:], [[-5], [11], [12], [-5], [11], [-2], [13], [-5]])

    def test_the_new_one_rings_behind_the_old_ones(self):
        told = ask(*[timer(0, 1, 0)] * 12, stop(0), timer(0, 1, 0), frame(16))
        self.assertEqual(rings(told[14]), [(1, number, 1) for number in range(1, 13)])


if __name__ == "__main__":
    unittest.main()
