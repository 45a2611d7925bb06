import unittest

from tests.helper import BEST, ask, doubles, gone, last, thing


class Doubles(unittest.TestCase):
    def test_no_thing_at_all(self):
        self.assertEqual(ask(doubles()), [[0]])

    def test_none_double(self):
        self.assertEqual(last(thing([[1], [2]]), thing([[3], [1, 2]]), doubles()), [0])

    def test_one_double(self):
        self.assertEqual(last(thing([[1, 2], [3]]), thing([[4], [1, 2]]), doubles()), [1, 2, 1, 2, 2, 0, 1])

    def test_a_long_form_with_words_at_the_edges(self):
        same = thing([[0, 999, 0, 999]])
        self.assertEqual(last(same, same, doubles()), [1, 4, 0, 999, 0, 999, 2, 0, 1])

    def test_in_the_order_told_first(self):
        self.assertEqual(
            last(thing([[9], [3]]), thing([[5], [9]]), thing([[3], [5]]), doubles()),
            [3, 1, 9, 2, 0, 1, 1, 3, 2, 0, 2, 1, 5, 2, 1, 2],
        )

    def test_order_is_of_the_first_telling_and_not_of_becoming_double(self):
        # 2 is double ahead of 1, but 1 was told first.
        self.assertEqual(
            last(thing([[1]]), thing([[2]]), thing([[2]]), thing([[1]]), doubles()),
            [2, 1, 1, 2, 0, 3, 1, 2, 2, 1, 2],
        )

    def test_order_is_by_the_things_that_there_are(self):
        calls = [thing([[1]]), thing([[2]]), thing([[2], [1]]), thing([[1]])]
        self.assertEqual(last(*calls, doubles()), [2, 1, 1, 3, 0, 2, 3, 1, 2, 2, 1, 2])
        self.assertEqual(last(*calls, gone(0), doubles()), [2, 1, 2, 2, 1, 2, 1, 1, 2, 2, 3])

    def test_no_longer_double_when_one_is_gone(self):
        same = thing([[1]])
        self.assertEqual(last(same, same, gone(0), doubles()), [0])
        self.assertEqual(last(same, same, gone(0), same, doubles()), [1, 1, 1, 2, 1, 2])

    def test_all_eight(self):
        same = thing([[1], [2], [3]])
        they = [8, 0, 1, 2, 3, 4, 5, 6, 7]
        self.assertEqual(last(*[same] * 8, doubles()), [3] + [1, 1] + they + [1, 2] + they + [1, 3] + they)

    def test_target_forms_do_not_count(self):
        self.assertEqual(
            last(thing([[1]], [([2], BEST), ([9], BEST)]), thing([[2]], [([1], BEST), ([9], BEST)]), doubles()), [0]
        )

    def test_a_refused_thing_does_not_count(self):
        self.assertEqual(last(thing([[1]]), thing([[1], [1]]), doubles()), [0])

    def test_changes_nothing(self):
        same = thing([[1]])
        self.assertEqual(ask(same, same, doubles(), doubles())[2:], [[1, 1, 1, 2, 0, 1]] * 2)


if __name__ == "__main__":
    unittest.main()
