import unittest

from tests.helper import ALLOWED, BEST, FORBIDDEN, ask, best, check, doubles, gone, last, marks, named, thing, things, undo

HIGHEST = 4294967295


class Told(unittest.TestCase):
    def test_no_thing_at_all(self):
        self.assertEqual(ask(named([1])), [[0, 0, 0]])

    def test_a_form_that_nothing_has(self):
        self.assertEqual(last(thing([[1]], [([2], BEST), ([3], FORBIDDEN)]), named([4])), [0, 0, 0])

    def test_as_each(self):
        one = thing([[1]], [([2], BEST), ([3], ALLOWED), ([4], FORBIDDEN)])
        self.assertEqual(last(one, named([1])), [1, 0, 0, 0])
        self.assertEqual(last(one, named([2])), [0, 1, 0, 0])
        self.assertEqual(last(one, named([3])), [0, 1, 0, 0])
        self.assertEqual(last(one, named([4])), [0, 0, 1, 0])

    def test_a_source_form_of_several(self):
        calls = [thing([[2], [1]]), thing([[3]]), thing([[1]]), thing([[4], [5], [1]])]
        self.assertEqual(last(*calls, named([1])), [3, 0, 2, 3, 0, 0])

    def test_best_or_allowed_of_some_and_forbidden_of_others(self):
        standings = (FORBIDDEN, BEST, ALLOWED, FORBIDDEN, ALLOWED, BEST)
        calls = [thing([[word]], [([9], standing)]) for word, standing in enumerate(standings)]
        self.assertEqual(last(*calls, named([9])), [0, 4, 1, 2, 4, 5, 2, 0, 3])

    def test_all_three_at_once(self):
        calls = [
            thing([[1]], [([1], BEST)]),
            thing([[1]], [([2], BEST), ([1], FORBIDDEN)]),
            thing([[2]], [([3], FORBIDDEN), ([1], ALLOWED)]),
            thing([[2]], [([1], FORBIDDEN)]),
            thing([[3], [1]]),
        ]
        self.assertEqual(last(*calls, named([1])), [3, 0, 1, 4, 2, 0, 2, 2, 1, 3])

    def test_of_all_eight(self):
        they = [8, 0, 1, 2, 3, 4, 5, 6, 7]
        self.assertEqual(last(*[thing([[1]], [([1], BEST)])] * 8, named([1])), they + they + [0])

    def test_only_that_very_form(self):
        one = thing([[1, 2], [2, 1], [1, 2, 3]], [([1, 2], BEST), ([1, 2, 3], FORBIDDEN)])
        self.assertEqual(last(one, named([1])), [0, 0, 0])
        self.assertEqual(last(one, named([1, 2])), [1, 0, 1, 0, 0])
        self.assertEqual(last(one, named([2, 1])), [1, 0, 0, 0])
        self.assertEqual(last(one, named([1, 2, 3])), [1, 0, 0, 1, 0])
        self.assertEqual(last(one, named([1, 2, 3, 4])), [0, 0, 0])

    def test_not_of_things_that_are_gone(self):
        calls = [thing([[1]], [([2], standing)]) for standing in (BEST, FORBIDDEN, BEST, FORBIDDEN)]
        self.assertEqual(last(*calls, gone(0), gone(1), named([1])), [2, 2, 3, 0, 0])
        self.assertEqual(last(*calls, gone(0), gone(1), named([2])), [0, 1, 2, 1, 3])

    def test_changes_nothing(self):
        self.assertEqual(ask(thing([[1]]), named([1]), named([1]), undo(), undo())[1:], [[1, 0, 0, 0]] * 2 + [[0], [-7]])


class Edges(unittest.TestCase):
    def test_how_many_words(self):
        for length in (1, 2, 3, 4):
            form = list(range(length))
            self.assertEqual(ask(named(form)), [[0, 0, 0]])
            self.assertEqual(last(thing([form], [(form, ALLOWED)]), named(form)), [1, 0, 1, 0, 0])

    def test_no_words(self):
        self.assertEqual(ask(named([])), [[-1]])
        self.assertEqual(last(thing([[1]]), named([])), [-1])

    def test_more_than_four_words(self):
        for length in (5, 6, 16, 17, 20):
            self.assertEqual(ask(named([1] * length)), [[-1]])

    def test_words_at_the_edges(self):
        self.assertEqual(ask(named([0]), named([999])), [[0, 0, 0]] * 2)
        one = thing([[999], [0, 999, 0, 999]])
        self.assertEqual(ask(one, named([999]), named([0, 999, 0, 999]))[1:], [[1, 0, 0, 0]] * 2)

    def test_words_above_999(self):
        for word in (1000, HIGHEST):
            self.assertEqual(ask(named([word])), [[-1]])
            for place in range(4):
                form = [5, 5, 5, 5]
                form[place] = word
                self.assertEqual(ask(named(form)), [[-1]])

    def test_all_as_it_was_after_a_refusal(self):
        start = [thing([[1]], [([7], BEST)]), thing([[1]], [([7], FORBIDDEN)]), thing([[2]]), gone(2)]
        look = [things(), marks([1]), check([1], [7]), doubles(), best(0), named([7]), undo(), thing([[3]]), undo(), undo()]
        plain = ask(*start, *look)[4:]
        for form in ([], [1] * 5, [1000], [1, 1, 1, HIGHEST]):
            after = ask(*start, named(form), *look)[4:]
            self.assertEqual(after[0], [-1])
            self.assertEqual(after[1:], plain)


if __name__ == "__main__":
    unittest.main()
