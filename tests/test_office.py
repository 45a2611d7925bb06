import unittest

from rightnames.office import answers
from tests.helper import BEST, FORBIDDEN, best, check, doubles, gone, marks, named, thing, things, undo

LINE = (
    thing([[1], [2, 3]], [([11], BEST), ([12], FORBIDDEN)])
    + thing([[1]], [([12, 13], BEST)])
    + marks([1, 2, 3])
    + check([1, 2, 3], [11, 12])
    + doubles()
    + thing([])
    + gone(0)
    + gone(0)
    + check([1], [12, 13])
    + doubles()
    + best(0)
    + best(1)
    + undo()
    + things()
    + named([12])
    + named([])
    + undo()
    + undo()
    + undo()
    + thing([[4]])
    + best(2)
)
ANSWERS = (
    [1, 0]
    + [1, 1]
    + [10, 2, 0, 1, 2, 0, 1, 1, 3, 1, 0]
    + [8, 2, 2, 1, 1, 0, 1, 1, 2]
    + [6, 1, 1, 1, 2, 0, 1]
    + [1, -1]
    + [1, 1]
    + [1, -2]
    + [5, 1, 1, 1, 1, 0]
    + [1, 0]
    + [1, -2]
    + [3, 2, 12, 13]
    + [1, 2]
    + [7, 2, 0, 2, 2, 1, 1, 1]
    + [4, 0, 0, 1, 0]
    + [1, -1]
    + [1, 1]
    + [1, 0]
    + [1, -7]
    + [1, 2]
    + [1, -6]
)


class Lines(unittest.TestCase):
    def test_the_numbers_as_they_stand(self):
        told = [2, 1, 5, 2, 6, 7, 1, 1, 8, 0]
        self.assertEqual(answers([0, 10] + told), [1, 0])
        self.assertEqual(answers([0, 2, 0, 0]), [1, -1])
        self.assertEqual(answers([1, 4294967295]), [1, -2])
        self.assertEqual(answers([2, 0]), [1, 0])
        self.assertEqual(answers([3, 0, 0]), [4, 0, 0, 0, 0])
        self.assertEqual(answers([4]), [1, 0])
        self.assertEqual(answers([5, 4294967295]), [1, -2])
        self.assertEqual(answers([6]), [1, 0])
        self.assertEqual(answers([7]), [1, -7])
        self.assertEqual(answers([8, 0]), [1, -1])
        self.assertEqual(answers([8, 2, 6, 7]), [3, 0, 0, 0])
        self.assertEqual(
            answers([0, 10] + told + [5, 0] + [6] + [8, 2, 6, 7] + [8, 1, 8] + [7]),
            [1, 0] + [2, 1, 8] + [4, 1, 0, 2, 1] + [4, 1, 0, 0, 0] + [4, 0, 1, 0, 0] + [1, 0],
        )
        self.assertEqual(
            answers([0, 10] + told + [2, 3, 5, 6, 7] + [3, 1, 5, 2, 9, 8]),
            [1, 0] + [9, 2, 0, 1, 1, 0, 1, 3, 1, 0] + [5, 1, 1, 1, 1, 0],
        )

    def test_several_calls(self):
        self.assertEqual(answers(LINE), ANSWERS)

    def test_forty_calls(self):
        self.assertEqual(answers((thing([[1]]) + gone(0)) + doubles() * 38), [1, 0, 1, 0] + [1, 0] * 38)

    def test_forty_changes_and_undos(self):
        self.assertEqual(answers(undo() * 40), [1, -7] * 40)
        same = thing([[1]])
        expected = [1, 0, 1, 0]
        for number in range(1, 18):
            expected += [1, number, 1, 0]
        expected += [1, 0] + [1, 1] + [1, 0] + [1, -7]
        self.assertEqual(answers(same + gone(0) + (same + undo()) * 17 + things() + undo() * 3), expected)

    def test_six_checks_of_the_largest_kind(self):
        line = thing([[1]], [([2], BEST)]) + check([1] * 7, [2] * 7) * 6
        self.assertEqual(answers(line), [1, 0] + [11, 7, 7, 7, 1, 2, 3, 4, 5, 6, 7, 0] * 6)


class HandedIn(unittest.TestCase):
    def test_the_list_is_as_it_was(self):
        line = list(LINE)
        answers(line)
        self.assertEqual(line, LINE)

    def test_not_changed_for_a_while_either(self):
        class Watched(list):
            def refuse(self, *arguments):
                raise AssertionError("the list handed in is changed")

            append = extend = insert = pop = remove = clear = sort = reverse = refuse
            __setitem__ = __delitem__ = __iadd__ = __imul__ = refuse

        self.assertEqual(answers(Watched(LINE)), ANSWERS)

    def test_a_second_time_is_like_the_first(self):
        first = answers(list(LINE))
        self.assertEqual(answers(list(LINE)), first)
        self.assertEqual(answers(doubles() + marks([1])), [1, 0, 1, 0])
        self.assertEqual(answers(undo() + things()), [1, -7, 1, 0])
        self.assertEqual(answers(thing([[1]])), [1, 0])

    def test_what_was_given_back_is_the_callers_own(self):
        first = answers(list(LINE))
        first.clear()
        self.assertEqual(answers(list(LINE)), ANSWERS)


class GivenBack(unittest.TestCase):
    def test_kinds(self):
        given = answers(list(LINE))
        self.assertIs(type(given), list)
        for number in given:
            self.assertIs(type(number), int)


class NoSuchCall(unittest.TestCase):
    def test_an_unknown_number_is_no_other_call(self):
        with self.assertRaises(ValueError):
            answers([9])


if __name__ == "__main__":
    unittest.main()
