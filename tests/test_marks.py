import unittest

from tests.helper import BEST, ask, gone, last, marks, thing


class Found(unittest.TestCase):
    def test_no_thing_at_all(self):
        self.assertEqual(ask(marks([1, 2, 3])), [[0]])

    def test_empty_sentence(self):
        self.assertEqual(ask(marks([])), [[0]])
        self.assertEqual(last(thing([[1]]), marks([])), [0])

    def test_no_form_stands(self):
        self.assertEqual(last(thing([[1, 2]]), marks([2, 1, 1, 3, 2])), [0])

    def test_from_and_to(self):
        self.assertEqual(last(thing([[5, 6]]), marks([1, 5, 6, 2])), [1, 1, 3, 1, 0])

    def test_the_whole_sentence(self):
        self.assertEqual(last(thing([[1, 2, 3, 4]]), marks([1, 2, 3, 4])), [1, 0, 4, 1, 0])

    def test_several_marks(self):
        self.assertEqual(
            last(thing([[1], [2, 3]]), thing([[4]]), marks([4, 9, 2, 3, 1, 1])),
            [4, 0, 1, 1, 1, 2, 4, 1, 0, 4, 5, 1, 0, 5, 6, 1, 0],
        )

    def test_words_at_the_edges(self):
        self.assertEqual(last(thing([[0]]), thing([[999]]), marks([999, 0])), [2, 0, 1, 1, 1, 1, 2, 1, 0])

    def test_target_forms_are_not_marked(self):
        self.assertEqual(last(thing([[1]], [([2], BEST)]), marks([2, 1])), [1, 1, 2, 1, 0])

    def test_every_source_form_is_marked(self):
        self.assertEqual(
            last(thing([[1], [2], [3]]), marks([3, 2, 1])), [3, 0, 1, 1, 0, 1, 2, 1, 0, 2, 3, 1, 0]
        )


class Longest(unittest.TestCase):
    def test_of_one_thing(self):
        self.assertEqual(last(thing([[1], [1, 2], [1, 2, 3]]), marks([1, 2, 3])), [1, 0, 3, 1, 0])

    def test_whichever_was_told_first(self):
        short, middle, long = thing([[1]]), thing([[1, 2]]), thing([[1, 2, 3, 4]])
        self.assertEqual(last(short, middle, long, marks([1, 2, 3, 4])), [1, 0, 4, 1, 2])
        self.assertEqual(last(long, middle, short, marks([1, 2, 3, 4])), [1, 0, 4, 1, 0])

    def test_only_if_all_of_it_stands(self):
        things = [thing([[1]]), thing([[1, 2]]), thing([[1, 2, 3, 4]])]
        self.assertEqual(last(*things, marks([1, 2, 3, 5])), [1, 0, 2, 1, 1])
        self.assertEqual(last(*things, marks([1, 2, 3])), [1, 0, 2, 1, 1])
        self.assertEqual(last(*things, marks([1, 3])), [1, 0, 1, 1, 0])

    def test_one_goes_on_behind_a_mark(self):
        self.assertEqual(last(thing([[1, 2]]), thing([[2, 3, 4]]), marks([1, 2, 3, 4])), [1, 0, 2, 1, 0])

    def test_same_words_again_and_again(self):
        self.assertEqual(last(thing([[1, 1]]), marks([1, 1, 1, 1, 1])), [2, 0, 2, 1, 0, 2, 4, 1, 0])
        self.assertEqual(
            last(thing([[1, 1]]), thing([[1]]), marks([1, 1, 1])), [2, 0, 2, 1, 0, 2, 3, 1, 1]
        )

    def test_no_mark_is_kept_for_a_longer_one_further_on(self):
        self.assertEqual(
            last(thing([[1]]), thing([[1, 2]]), thing([[2, 3, 4, 5]]), marks([1, 2, 3, 4, 5])), [1, 0, 2, 1, 1]
        )

    def test_a_word_further_where_none_stands(self):
        self.assertEqual(last(thing([[2, 3]]), thing([[1, 2, 4]]), marks([1, 2, 3])), [1, 1, 3, 1, 0])


class Meant(unittest.TestCase):
    def test_several_things_in_the_order_told(self):
        self.assertEqual(
            last(thing([[2], [1]]), thing([[3]]), thing([[1]]), thing([[4], [5], [1]]), marks([1])),
            [1, 0, 1, 3, 0, 2, 3],
        )

    def test_only_those_with_that_very_form(self):
        self.assertEqual(last(thing([[1]]), thing([[1, 2]]), marks([1, 2])), [1, 0, 2, 1, 1])

    def test_not_those_that_are_gone(self):
        same = thing([[1]])
        self.assertEqual(last(same, same, same, gone(1), same, marks([1])), [1, 0, 1, 3, 0, 2, 3])

    def test_not_those_that_have_it_as_a_target_form(self):
        self.assertEqual(last(thing([[1]]), thing([[2]], [([1], BEST)]), marks([1])), [1, 0, 1, 1, 0])


class Sentences(unittest.TestCase):
    def test_sixteen_words(self):
        self.assertEqual(ask(marks([7] * 16)), [[0]])
        self.assertEqual(last(thing([[1]]), marks([7] * 15 + [1])), [1, 15, 16, 1, 0])

    def test_more_than_sixteen(self):
        for length in (17, 18, 20):
            self.assertEqual(ask(marks([7] * length)), [[-1]])

    def test_words_above_999(self):
        self.assertEqual(ask(marks([999])), [[0]])
        for word in (1000, 4294967295):
            self.assertEqual(ask(marks([word])), [[-1]])
            self.assertEqual(ask(marks([1, 2, word])), [[-1]])
            self.assertEqual(ask(marks([1] * 15 + [word])), [[-1]])

    def test_more_than_seven_marks_are_told(self):
        for count in (7, 8, 16):
            answer = [count]
            for place in range(count):
                answer += [place, place + 1, 1, 0]
            self.assertEqual(last(thing([[1]]), marks([1] * count)), answer)

    def test_eight_meant_by_each_of_sixteen(self):
        answer = [16]
        for place in range(16):
            answer += [place, place + 1, 8] + list(range(8))
        self.assertEqual(last(*[thing([[1]])] * 8, marks([1] * 16)), answer)

    def test_all_as_it_was_after_a_refusal(self):
        self.assertEqual(
            ask(thing([[1]]), marks([1000]), marks([1]), marks([1] * 17), thing([[1]]), marks([1])),
            [[0], [-1], [1, 0, 1, 1, 0], [-1], [1], [1, 0, 1, 2, 0, 1]],
        )


if __name__ == "__main__":
    unittest.main()
