import unittest

from tests.calls import HIGHEST, Case, ask, begins, clock, frame, last, probes, rings, shows, speed, timer


class Bounds(Case):
    def test_parts(self):
        self.assertEqual(ask(frame(0)), [[0, 0, 0]])
        self.assertEqual(ask(frame(1)), [[0, 1, 0]])
        self.assertEqual(ask(frame(99999)), [[5, 99999 % 16, 0]])
        self.assertEqual(ask(frame(100000)), [[5, 0, 0]])
        self.assertEqual(ask(frame(100001)), [[-1]])
        self.assertEqual(ask(frame(HIGHEST)), [[-1]])

    def test_what_is_left_over_does_not_count_for_the_bound(self):
        self.assertEqual(ask(frame(15), frame(100000)), [[0, 15, 0], [5, 15, 0]])

    def test_refused_all_is_as_it_was(self):
        before = [clock(0, 70), timer(1, 2, 1), frame(31)]
        behind = [frame(1), frame(80), timer(0, 1, 0), frame(16)]
        for parts in (100001, HIGHEST):
            told = ask(*before, frame(parts), *behind)
            self.assertEqual(told[3], [-1])
            self.assertEqual(told[:3] + told[4:], ask(*before, *behind))


class LeftOver(Case):
    def test_stays_for_the_next_frame(self):
        self.assertEqual(ask(frame(10), frame(10), frame(10), frame(2)),
                         [[0, 10, 0], [1, 4, 0], [0, 14, 0], [1, 0, 0]])

    def test_an_empty_frame_changes_nothing(self):
        self.assertEqual(ask(frame(10), frame(0), frame(6), frame(0)),
                         [[0, 10, 0], [0, 10, 0], [1, 0, 0], [0, 0, 0]])

    def test_stays_where_ticks_are_forgotten(self):
        self.assertEqual(ask(frame(16 * 9 + 7), frame(9)), [[5, 7, 0], [1, 0, 0]])

    def test_makes_a_tick_of_step_1_at_once(self):
        self.assertEqual(ask(begins(1, 50), frame(50), frame(1)), [[0], [50, 0, 0], [1, 0, 0]])

    def test_of_step_1000(self):
        self.assertEqual(ask(begins(1000, 50), frame(999), frame(1), frame(1001)),
                         [[0], [0, 999, 0], [1, 0, 0], [1, 1, 0]])


class Forgotten(Case):
    def test_just_most_are_not(self):
        self.assertEqual(ask(begins(10, 3), frame(30), frame(0)), [[0], [3, 0, 0], [0, 0, 0]])

    def test_more_than_most_do_not_come_later(self):
        self.assertEqual(ask(begins(10, 3), frame(40), frame(0), frame(10)),
                         [[0], [3, 0, 0], [0, 0, 0], [1, 0, 0]])

    def test_what_is_left_over_can_make_it_more_than_most(self):
        self.assertEqual(ask(begins(10, 1), frame(9), frame(11), frame(9)),
                         [[0], [0, 9, 0], [1, 0, 0], [0, 9, 0]])

    def test_forgotten_ticks_are_none_of_the_games(self):
        self.assertEqual(ask(timer(0, 1, 2), frame(16 * 100), frame(32)),
                         [[0], [5, 0, 3, 1, 0, 1, 3, 0, 3, 5, 0, 5], [2, 0, 1, 7, 0, 7]])

    def test_are_counted_as_lost(self):
        told = ask(frame(80), shows(), frame(96), shows(), frame(100001), shows(), frame(100000), shows())
        self.assertEqual([answer[2] for answer in told[1::2]], [0, 1, 1, 1 + 6250 - 5])


class Ticks(Case):
    def test_are_counted_over_frames(self):
        self.assertEqual(ask(timer(0, 1, 3), frame(32), frame(32), frame(48)),
                         [[0], [2, 0, 1, 1, 0, 1], [2, 0, 1, 4, 0, 4], [3, 0, 1, 7, 0, 7]])

    def test_refused_frames_have_none(self):
        self.assertEqual(last(timer(0, 3, 0), frame(32), frame(100001), frame(16)), [1, 0, 1, 3, 0, 3])


def world():
    """Clocks beside and below one another, and timers of each kind on them."""
    return [begins(7, 50), clock(0, 150), clock(1, 33), clock(0, 1), clock(2, 200), speed(0, 90),
            timer(0, 1, 1), timer(1, 2, 3), timer(4, 5, 1), timer(2, 4, 0), timer(3, 1, 0), timer(4, 1, 2)]


def rung(parts_by_frame):
    """All that rings, whatever the frame; what is left over behind the last frame; how many ticks there were."""
    told = ask(*world(), *[frame(parts) for parts in parts_by_frame])[len(world()):]
    return [ring for answer in told for ring in rings(answer)], told[-1][1], sum(answer[0] for answer in told)


def world_behind(parts_by_frame):
    """All that the calls that change nothing tell behind these frames."""
    return ask(*world(), *[frame(parts) for parts in parts_by_frame], *probes(5, 6))[-13:]


class Cut(Case):
    def test_the_same_time_in_other_frames_is_the_same(self):
        whole = rung([350])
        self.assertEqual(whole[1:], (0, 50))
        self.assertGreater(len(whole[0]), 100)
        for frames in ([175, 175], [1, 349], [349, 1], [0, 350, 0], [13] * 26 + [12], [70] * 5, [14] * 25,
                       [6, 1, 8, 20, 41, 99, 175], [343, 6, 1], [27] * 12 + [26]):
            self.assertEqual(sum(frames), 350)
            self.assertEqual(rung(frames), whole, frames)

    def test_the_world_is_the_same(self):
        whole = world_behind([300])
        self.assertEqual(whole[-1], [42, 6, 0, 5, 5])
        for frames in ([150, 150], [20] * 15, [299, 1], [5, 295], [6, 1, 8, 20, 41, 99, 125], [0, 300, 0]):
            self.assertEqual(sum(frames), 300)
            self.assertEqual(world_behind(frames), whole, frames)

    def test_with_something_left_over_at_the_end(self):
        whole = rung([300])
        self.assertEqual(whole[1:], (6, 42))
        for frames in ([150, 150], [11] * 27 + [3], [299, 1], [5, 295]):
            self.assertEqual(rung(frames), whole, frames)

    def test_speeds_changed_at_the_same_time(self):
        def changed(first, second):
            told = ask(clock(0, 130), timer(1, 1, 1), *first, speed(1, 45), *second)
            return [ring for answer in told if len(answer) >= 3 for ring in rings(answer)]

        whole = changed([frame(80)], [frame(80)])
        self.assertEqual(whole, changed([frame(40), frame(40)], [frame(15), frame(65)]))
        self.assertEqual(whole, changed([frame(16)] * 5, [frame(1), frame(30), frame(49)]))


if __name__ == "__main__":
    unittest.main()
