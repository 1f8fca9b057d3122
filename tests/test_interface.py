import unittest

from tickclocks.game import answers
from tests.calls import HIGHEST, Case


class Form(Case):
    def test_each_call_by_itself(self):
        self.assertEqual(answers([0, 16, 5]), [1, 0])
        self.assertEqual(answers([1, 35]), [3, 2, 3, 0])
        self.assertEqual(answers([2, 0, 50]), [1, 1])
        self.assertEqual(answers([3, 0, 50]), [1, 0])
        self.assertEqual(answers([4, 0, 1, 0]), [1, 0])
        self.assertEqual(answers([4, 0, 1, 0, 5, 0]), [1, 0, 1, 0])
        self.assertEqual(answers([4, 0, 1, 0, 6, 0]), [1, 0, 3, 0, 1, 0])
        self.assertEqual(answers([7, 0]), [4, 0, 0, 100, 0])
        self.assertEqual(answers([8]), [1, 0])
        self.assertEqual(answers([4, 0, 6, 0, 8]), [1, 0, 3, 1, 0, 6])
        self.assertEqual(answers([9]), [5, 0, 0, 0, 1, 0])

    def test_lists_of_all_kinds(self):
        for line, told in (
                ([4, 0, 300, 0, 4, 0, 301, 0, 4, 0, 7, 1, 8], [1, 0, 1, 1, 1, 2, 5, 2, 0, 300, 2, 7]),
                ([2, 0, 50, 4, 1, 2, 3, 8, 1, 64, 6, 0, 7, 1, 8, 9],
                 [1, 1, 1, 0, 3, 1, 0, 4, 6, 4, 0, 1, 4, 0, 2, 3, 1, 3, 3, 4, 2, 0, 50, 1, 3, 1, 0, 6,
                  5, 4, 0, 0, 2, 1]),
                ([1, 1000, 9, 1, 1000, 9, 0, 16, 5, 9],
                 [3, 5, 8, 0, 5, 5, 8, 57, 1, 0, 3, 5, 0, 0, 5, 10, 0, 115, 1, 0, 1, 0, 5, 0, 0, 0, 1, 0]),
                ([4, 0, 5, 0, 4, 0, 2, 2, 5, 0, 5, 0, 4, 0, 1, 0, 1, 80, 9, 6, 2],
                 [1, 0, 1, 1, 1, 1, 1, -2, 1, 2, 12, 5, 0, 3, 1, 2, 1, 2, 1, 2, 4, 1, 4, 5, 5, 0, 0, 1, 1, 1, -2])):
            self.assertEqual(answers(line), told, line)

    def test_a_refusal_is_its_number_alone(self):
        self.assertEqual(answers([0, 0, 5]), [1, -1])
        self.assertEqual(answers([1, 100001]), [1, -1])
        self.assertEqual(answers([2, 0, 201]), [1, -1])
        self.assertEqual(answers([2, 1, 200]), [1, -2])
        self.assertEqual(answers([3, 0, 201]), [1, -1])
        self.assertEqual(answers([3, 1, 200]), [1, -2])
        self.assertEqual(answers([4, 0, 0, 0]), [1, -1])
        self.assertEqual(answers([4, 1, 1, 0]), [1, -2])
        self.assertEqual(answers([5, 0]), [1, -2])
        self.assertEqual(answers([6, 0]), [1, -2])
        self.assertEqual(answers([7, 1]), [1, -2])

    def test_calls_one_behind_another(self):
        self.assertEqual(answers([0, 10, 4, 2, 0, 50, 4, 1, 1, 1, 1, 45, 3, 1, 200, 1, 6, 2, 7, 7]),
                         [1, 0, 1, 1, 1, 0, 9, 4, 5, 2, 2, 0, 1, 4, 0, 2, 1, 0, 9, 1, 1, 2, 5, 0, 3, 5, 0, 4, 1, -2])

    def test_the_highest_numbers(self):
        self.assertEqual(answers([0, HIGHEST, HIGHEST, 1, HIGHEST, 2, HIGHEST, HIGHEST, 3, HIGHEST, HIGHEST,
                                  4, HIGHEST, HIGHEST, HIGHEST]), [1, -1] * 5)
        self.assertEqual(answers([2, HIGHEST, 200, 3, HIGHEST, 200, 4, HIGHEST, 1000, 1000, 5, HIGHEST, 6, HIGHEST,
                                  7, HIGHEST]), [1, -2] * 6)

    def test_forty_calls(self):
        self.assertEqual(answers([4, 0, 1, 0] * 12 + [4, 0, 1, 1] * 28), [number for timer in range(12)
                                                                        for number in (1, timer)] + [1, -5] * 28)
        self.assertEqual(answers([1, 16] * 40), [3, 1, 0, 0] * 40)

    def test_whole_numbers_in_a_list(self):
        told = answers([4, 0, 1, 1, 2, 0, 200, 4, 1, 1, 1, 3, 0, 90, 1, 90, 1, 100001, 6, 0, 7, 1, 8, 9, 5, 0,
                        0, 16, 5])
        self.assertIs(type(told), list)
        for number in told:
            self.assertIs(type(number), int)


class Kept(Case):
    line = [0, 3, 9, 2, 0, 77, 4, 1, 2, 3, 4, 0, 1, 0, 1, 20, 3, 1, 200, 1, 100000, 1, 100001,
            6, 0, 7, 1, 8, 9, 5, 0, 5, 0, 9]

    def test_what_is_handed_in_is_unchanged(self):
        handed = list(self.line)
        answers(handed)
        self.assertEqual(handed, self.line)

    def test_it_is_not_changed_for_a_while_either(self):
        class Watched(list):
            def refuse(self, *ignored):
                raise AssertionError("changed")

            append = extend = insert = pop = remove = clear = reverse = sort = refuse
            __setitem__ = __delitem__ = __iadd__ = __imul__ = refuse

        self.assertEqual(answers(Watched(self.line)), answers(list(self.line)))

    def test_each_time_is_as_the_first(self):
        first = answers(list(self.line))
        self.assertEqual(answers(list(self.line)), first)
        for line, told in (([1, 35, 4, 0, 1, 0, 2, 0, 5], [3, 2, 3, 0, 1, 0, 1, 1]),
                           ([5, 0, 6, 0, 7, 0, 7, 1, 8, 9],
                            [1, -2, 1, -2, 4, 0, 0, 100, 0, 1, -2, 1, 0, 5, 0, 0, 0, 1, 0])):
            self.assertEqual(answers(list(line)), told)
            self.assertEqual(answers(list(line)), told)
        self.assertEqual(answers(list(self.line)), first)

    def test_what_was_given_back_is_the_callers_own(self):
        first = answers([1, 35])
        first.clear()
        self.assertEqual(answers([1, 35]), [3, 2, 3, 0])


if __name__ == "__main__":
    unittest.main()
