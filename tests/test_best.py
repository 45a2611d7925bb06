import unittest

from tests.helper import ALLOWED, BEST, FORBIDDEN, ask, best, check, doubles, gone, last, marks, named, thing, things, undo

HIGHEST = 4294967295


def best_of(*targets):
    return last(thing([[1]], targets), best(0))


class Told(unittest.TestCase):
    def test_the_only_form(self):
        self.assertEqual(best_of(([7], BEST)), [1, 7])
        self.assertEqual(best_of(([7], ALLOWED)), [1, 7])

    def test_how_many_words_then_they(self):
        self.assertEqual(best_of(([7, 8], BEST)), [2, 7, 8])
        self.assertEqual(best_of(([9, 8, 7], BEST)), [3, 9, 8, 7])
        self.assertEqual(best_of(([0, 999, 0, 999], ALLOWED)), [4, 0, 999, 0, 999])

    def test_the_first_where_several_are_best(self):
        self.assertEqual(best_of(([7], BEST), ([6], BEST), ([8, 9], BEST)), [1, 7])
        self.assertEqual(best_of(([5], FORBIDDEN), ([8, 9], BEST), ([6], BEST)), [2, 8, 9])

    def test_an_allowed_one_told_ahead_of_a_best_one(self):
        self.assertEqual(best_of(([5], ALLOWED), ([6], BEST)), [1, 6])
        self.assertEqual(best_of(([5], ALLOWED), ([4], ALLOWED), ([3], FORBIDDEN), ([6], BEST)), [1, 6])

    def test_the_first_of_only_allowed_ones(self):
        self.assertEqual(best_of(([7], ALLOWED), ([6], ALLOWED)), [1, 7])

    def test_an_allowed_one_behind_forbidden_ones(self):
        self.assertEqual(best_of(([7], FORBIDDEN), ([6], FORBIDDEN), ([5], ALLOWED)), [1, 5])

    def test_of_the_thing_that_is_named(self):
        calls = [thing([[1]], [([7], BEST)]), thing([[1]], [([8], BEST)]), thing([[1]], [([9], ALLOWED)])]
        self.assertEqual(ask(*calls, best(1), best(2), best(0))[3:], [[1, 8], [1, 9], [1, 7]])

    def test_the_number_is_not_the_place(self):
        calls = [thing([[1]], [([word], BEST)]) for word in (7, 8, 9)]
        self.assertEqual(ask(*calls, gone(0), best(1), best(2))[4:], [[1, 8], [1, 9]])

    def test_a_form_that_is_forbidden_for_another_thing(self):
        calls = [thing([[1]], [([7], FORBIDDEN)]), thing([[1]], [([7], BEST)])]
        self.assertEqual(ask(*calls, best(0), best(1))[2:], [[-6], [1, 7]])

    def test_source_forms_are_not_told(self):
        self.assertEqual(last(thing([[7]], [([8], ALLOWED)]), best(0)), [1, 8])

    def test_changes_nothing(self):
        self.assertEqual(ask(thing([[1]], [([7], BEST)]), best(0), best(0), things())[1:], [[1, 7], [1, 7], [1, 0, 1, 1]])


class NoSuchThing(unittest.TestCase):
    def test_none_told(self):
        self.assertEqual(ask(best(0), best(HIGHEST)), [[-2], [-2]])

    def test_another_number(self):
        self.assertEqual(ask(thing([[1]], [([7], BEST)]), best(1), best(8), best(HIGHEST))[1:], [[-2]] * 3)

    def test_a_thing_that_is_gone(self):
        calls = [thing([[1]], [([7], BEST)]), thing([[1]], [([8], BEST)]), gone(0)]
        self.assertEqual(ask(*calls, best(0), best(1))[3:], [[-2], [1, 8]])

    def test_a_gone_thing_without_a_right_form(self):
        self.assertEqual(last(thing([[1]]), gone(0), best(0)), [-2])

    def test_a_thing_that_was_refused(self):
        self.assertEqual(ask(thing([], [([7], BEST)]), best(0)), [[-1], [-2]])


class NoRightForm(unittest.TestCase):
    def test_only_forbidden_ones(self):
        self.assertEqual(best_of(([7], FORBIDDEN)), [-6])
        self.assertEqual(best_of(*[([word], FORBIDDEN) for word in range(4)]), [-6])

    def test_no_target_form_at_all(self):
        self.assertEqual(best_of(), [-6])


class AllAsItWas(unittest.TestCase):
    def test_after_a_refusal(self):
        start = [thing([[1]], [([7], BEST)]), thing([[1]], [([7], FORBIDDEN)]), thing([[2]]), gone(2)]
        look = [things(), marks([1]), check([1], [7]), doubles(), best(0), named([7]), undo(), thing([[3]]), undo(), undo()]
        plain = ask(*start, *look)[4:]
        for number, answer in ((1, -6), (2, -2), (3, -2), (HIGHEST, -2)):
            after = ask(*start, best(number), *look)[4:]
            self.assertEqual(after[0], [answer])
            self.assertEqual(after[1:], plain)


if __name__ == "__main__":
    unittest.main()
