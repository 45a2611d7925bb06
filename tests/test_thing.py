import unittest

from tests.helper import ALLOWED, BEST, FORBIDDEN, ask, check, doubles, gone, last, marks, thing

HIGHEST = 4294967295


def eight_things():
    return [thing([[number]]) for number in range(8)]


class Numbers(unittest.TestCase):
    def test_from_zero_on(self):
        self.assertEqual(ask(thing([[1]]), thing([[2]]), thing([[1]])), [[0], [1], [2]])

    def test_a_refused_thing_takes_no_number(self):
        self.assertEqual(ask(thing([]), thing([[1]]), thing([[1], [1]]), thing([[2]])), [[-1], [0], [-1], [1]])

    def test_a_number_is_not_given_again(self):
        self.assertEqual(
            ask(thing([[1]]), thing([[2]]), gone(1), thing([[3]]), gone(0), gone(2), thing([[1]])),
            [[0], [1], [1], [2], [1], [0], [3]],
        )

    def test_a_refusal_for_want_of_room_takes_no_number(self):
        self.assertEqual(ask(*eight_things(), thing([[9]]), gone(3), thing([[9]]))[8:], [[-5], [7], [8]])


class HowManyForms(unittest.TestCase):
    def test_source_forms(self):
        forms = [[1], [2], [3], [4]]
        self.assertEqual(ask(thing(forms[:1])), [[0]])
        self.assertEqual(ask(thing(forms[:3])), [[0]])
        self.assertEqual(ask(thing(forms)), [[-1]])

    def test_no_source_form(self):
        self.assertEqual(ask(thing([])), [[-1]])
        self.assertEqual(ask(thing([], [([1], BEST)])), [[-1]])

    def test_target_forms(self):
        targets = [([word], BEST) for word in range(5)]
        self.assertEqual(ask(thing([[1]], targets[:0])), [[0]])
        self.assertEqual(ask(thing([[1]], targets[:4])), [[0]])
        self.assertEqual(ask(thing([[1]], targets)), [[-1]])

    def test_very_many_forms(self):
        self.assertEqual(ask(thing([[]] * 58)), [[-1]])
        self.assertEqual(ask(thing([[1]], [([], BEST)] * 28)), [[-1]])


class Words(unittest.TestCase):
    def both_ways(self, form):
        as_source = ask(thing([form]))
        as_target = ask(thing([[1]], [(form, ALLOWED)]))
        self.assertEqual(as_source, as_target)
        return as_source[0][0]

    def test_how_many(self):
        self.assertEqual(self.both_ways([]), -1)
        self.assertEqual(self.both_ways([1]), 0)
        self.assertEqual(self.both_ways([1, 2, 3, 4]), 0)
        self.assertEqual(self.both_ways([1, 2, 3, 4, 5]), -1)

    def test_how_high(self):
        self.assertEqual(self.both_ways([0]), 0)
        self.assertEqual(self.both_ways([999]), 0)
        self.assertEqual(self.both_ways([1000]), -1)
        self.assertEqual(self.both_ways([HIGHEST]), -1)

    def test_each_word_counts(self):
        for place in range(4):
            form = [5, 5, 5, 5]
            form[place] = 1000
            self.assertEqual(self.both_ways(form), -1)

    def test_each_form_counts(self):
        for bad in ([], [1000], [1, 2, 3, 4, 5]):
            for place in range(3):
                sources = [[1], [2], [3]]
                sources[place] = bad
                self.assertEqual(ask(thing(sources)), [[-1]])
            for place in range(4):
                targets = [([word], BEST) for word in range(4)]
                targets[place] = (bad, BEST)
                self.assertEqual(ask(thing([[1]], targets)), [[-1]])


class ToldTwice(unittest.TestCase):
    def test_source_form(self):
        self.assertEqual(ask(thing([[1, 2], [1, 2]])), [[-1]])
        self.assertEqual(ask(thing([[1, 2], [3], [1, 2]])), [[-1]])

    def test_target_form(self):
        self.assertEqual(ask(thing([[1]], [([2], BEST), ([2], BEST)])), [[-1]])

    def test_target_form_with_other_standing(self):
        self.assertEqual(ask(thing([[1]], [([2], BEST), ([3], BEST), ([2], FORBIDDEN)])), [[-1]])

    def test_forms_with_the_same_words_in_another_order_or_number(self):
        self.assertEqual(ask(thing([[1, 2], [2, 1], [1]], [([1, 1], BEST), ([1], BEST)])), [[0]])

    def test_once_as_each(self):
        self.assertEqual(ask(thing([[1], [2]], [([1], BEST), ([2], FORBIDDEN)])), [[0]])

    def test_by_several_things(self):
        same = thing([[1]], [([2], BEST)])
        self.assertEqual(ask(same, same), [[0], [1]])


class Standing(unittest.TestCase):
    def test_up_to_two(self):
        for standing in (0, 1, 2):
            self.assertEqual(ask(thing([[1]], [([2], standing)])), [[0]])

    def test_above_two(self):
        for standing in (3, 1000, HIGHEST):
            self.assertEqual(ask(thing([[1]], [([2], standing)])), [[-1]])
            self.assertEqual(ask(thing([[1]], [([2], BEST), ([3], standing)])), [[-1]])


class Eight(unittest.TestCase):
    def test_the_eighth_and_one_more(self):
        self.assertEqual(ask(*eight_things(), thing([[9]])), [[number] for number in range(8)] + [[-5]])

    def test_gone_makes_room_for_one(self):
        self.assertEqual(ask(*eight_things(), gone(0), thing([[9]]), thing([[9]]))[8:], [[7], [8], [-5]])

    def test_what_does_not_fit_is_told_ahead_of_no_room(self):
        wrong = (
            thing([]),
            thing([[1], [2], [3], [4]]),
            thing([[1]], [([word], BEST) for word in range(5)]),
            thing([[]]),
            thing([[1, 2, 3, 4, 5]]),
            thing([[1000]]),
            thing([[1], [1]]),
            thing([[1]], [([2], BEST), ([2], BEST)]),
            thing([[1]], [([2], 3)]),
        )
        for call in wrong:
            self.assertEqual(last(*eight_things(), call), [-1])


class AllAsItWas(unittest.TestCase):
    LOOK = [marks([1, 7, 2]), check([1, 7, 2], [3, 4]), doubles(), thing([[1]]), gone(0)]

    def assert_unchanged_by(self, start, refused, answer):
        plain = ask(*start, *self.LOOK)
        after = ask(*start, refused, *self.LOOK)
        self.assertEqual(after[len(start)], [answer])
        self.assertEqual(after[:len(start)] + after[len(start) + 1:], plain)

    def test_after_what_does_not_fit(self):
        start = [thing([[1], [2]], [([3], BEST)]), thing([[2]])]
        self.assert_unchanged_by(start, thing([[7], [7]], [([4], BEST)]), -1)
        self.assert_unchanged_by(start, thing([[7]], [([4], 3)]), -1)

    def test_after_no_room(self):
        start = [thing([[1], [2]], [([3], BEST)])] * 8
        self.assert_unchanged_by(start, thing([[7]], [([4], BEST)]), -5)

    def test_after_gone_without_such_a_thing(self):
        start = [thing([[1], [2]], [([3], BEST)]), thing([[2]])]
        self.assert_unchanged_by(start, gone(2), -2)


class Gone(unittest.TestCase):
    def test_how_many_are_left(self):
        self.assertEqual(
            ask(thing([[1]]), thing([[2]]), thing([[3]]), gone(1), gone(0), gone(2))[3:], [[2], [1], [0]]
        )

    def test_no_such_thing(self):
        self.assertEqual(ask(gone(0)), [[-2]])
        self.assertEqual(ask(thing([[1]]), gone(1), gone(HIGHEST)), [[0], [-2], [-2]])

    def test_gone_twice(self):
        self.assertEqual(ask(thing([[1]]), thing([[2]]), gone(0), gone(0), gone(1), gone(1))[2:], [[1], [-2], [0], [-2]])

    def test_a_refused_thing_is_none(self):
        self.assertEqual(ask(thing([]), gone(0)), [[-1], [-2]])

    def test_its_forms_are_gone_too(self):
        calls = [thing([[1]], [([2], BEST)]), thing([[1]], [([2], FORBIDDEN)]), gone(0)]
        self.assertEqual(last(*calls, marks([1])), [1, 0, 1, 1, 1])
        self.assertEqual(last(*calls, check([1], [2])), [1, 1, 0, 0, 1, 0, 1])
        self.assertEqual(last(*calls, doubles()), [0])
        self.assertEqual(last(*calls, gone(1), check([1], [2])), [0, 0, 0, 0])


if __name__ == "__main__":
    unittest.main()
