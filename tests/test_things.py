import unittest

from tests.helper import ALLOWED, BEST, FORBIDDEN, ask, gone, last, thing, things, undo


class Things(unittest.TestCase):
    def test_none(self):
        self.assertEqual(ask(things()), [[0]])

    def test_none_left(self):
        self.assertEqual(last(thing([[1]]), gone(0), things()), [0])
        self.assertEqual(last(thing([[1]]), undo(), things()), [0])

    def test_how_many_forms(self):
        forms = [[1], [2], [3]]
        targets = [([5], BEST), ([6], ALLOWED), ([7], FORBIDDEN), ([8, 9], FORBIDDEN)]
        for sources in (1, 2, 3):
            for count in range(5):
                self.assertEqual(last(thing(forms[:sources], targets[:count]), things()), [1, 0, sources, count])

    def test_forms_count_and_not_words(self):
        self.assertEqual(last(thing([[1, 2, 3, 4]], [([5, 6, 7], BEST)]), things()), [1, 0, 1, 1])

    def test_several_in_the_order_told(self):
        calls = [thing([[9], [8]], [([1], BEST)]), thing([[1]]), thing([[1], [2], [3]], [([1], BEST), ([2], FORBIDDEN)])]
        self.assertEqual(last(*calls, things()), [3, 0, 2, 1, 1, 1, 0, 2, 3, 2])

    def test_eight(self):
        answer = [8]
        for number in range(8):
            answer += [number, 1, 0]
        self.assertEqual(last(*[thing([[1]])] * 8, things()), answer)
        self.assertEqual(last(*[thing([[1]])] * 9, things()), answer)

    def test_after_gone(self):
        calls = [thing([[1]]), thing([[1], [2]]), thing([[1], [2], [3]])]
        self.assertEqual(last(*calls, gone(0), things()), [2, 1, 2, 0, 2, 3, 0])
        self.assertEqual(last(*calls, gone(1), things()), [2, 0, 1, 0, 2, 3, 0])
        self.assertEqual(last(*calls, gone(1), gone(2), things()), [1, 0, 1, 0])

    def test_a_new_one_stands_last(self):
        self.assertEqual(last(thing([[1]]), thing([[2]]), gone(0), thing([[1], [3]]), things()), [2, 1, 1, 0, 2, 2, 0])

    def test_after_undo(self):
        calls = [thing([[1]]), thing([[1], [2]])]
        self.assertEqual(last(*calls, undo(), things()), [1, 0, 1, 0])
        self.assertEqual(last(*calls, gone(0), undo(), things()), [2, 0, 1, 0, 1, 2, 0])

    def test_refused_things_do_not_count(self):
        self.assertEqual(last(thing([]), thing([[1]]), thing([[1], [1]]), gone(4), things()), [1, 0, 1, 0])

    def test_changes_nothing(self):
        self.assertEqual(ask(thing([[1]]), things(), things(), undo(), undo())[1:], [[1, 0, 1, 0]] * 2 + [[0], [-7]])


if __name__ == "__main__":
    unittest.main()
