import unittest

from tests.helper import ALLOWED, BEST, FORBIDDEN, ask, check, gone, last, marks, thing


def named(source, *targets):
    """A thing with one source word and target words, each best."""
    return thing([[source]], [([target], BEST) for target in targets])


class Ordinary(unittest.TestCase):
    def test_best_and_allowed_pair(self):
        for standing in (BEST, ALLOWED):
            self.assertEqual(last(thing([[1]], [([2], standing)]), check([1], [2])), [1, 1, 1, 1, 0])

    def test_forbidden_does_not_pair_and_is_wrong(self):
        self.assertEqual(last(thing([[1]], [([2], FORBIDDEN)]), check([1], [2])), [1, 1, 0, 0, 1, 0, 1])

    def test_missing(self):
        self.assertEqual(last(named(1, 2), check([1], [3])), [1, 0, 0, 0, 0])

    def test_other_things_do_not_pair(self):
        self.assertEqual(last(named(1, 11), named(2, 12), check([1], [12])), [1, 1, 0, 0, 0])

    def test_crosswise(self):
        self.assertEqual(last(named(1, 11), named(2, 12), check([1, 2], [12, 11])), [2, 2, 2, 2, 1, 0])

    def test_none_between(self):
        self.assertEqual(
            last(named(1, 11), named(2, 12), named(3, 13), check([1, 9, 2, 3], [9, 13, 9, 11])),
            [3, 2, 2, 2, 0, 1, 0],
        )

    def test_any_source_form_with_any_target_form(self):
        one = thing([[1], [2, 3], [4]], [([5], BEST), ([6, 7], ALLOWED)])
        self.assertEqual(last(one, check([2, 3, 4], [6, 7, 5])), [2, 2, 2, 1, 2, 0])

    def test_a_mark_that_means_several(self):
        self.assertEqual(last(named(1, 11), named(1, 12), check([1], [12])), [1, 1, 1, 1, 0])
        self.assertEqual(last(named(1, 11), named(1, 12), check([1], [12, 11])), [1, 2, 1, 1, 0])

    def test_a_mark_that_serves_several(self):
        self.assertEqual(last(named(1, 11), named(2, 11), check([1, 2], [11])), [2, 1, 1, 1, 0, 0])
        self.assertEqual(last(named(1, 11), named(2, 11), check([2], [11])), [1, 1, 1, 1, 0])

    def test_tongues_are_kept_apart(self):
        self.assertEqual(last(thing([[1]], [([1], BEST)]), thing([[2]]), check([1, 2], [2, 1])), [2, 1, 1, 1, 0, 0])

    def test_a_thing_that_is_gone_pairs_nothing(self):
        self.assertEqual(last(named(1, 11), named(1, 12), gone(0), check([1], [11, 12])), [1, 1, 1, 1, 0])


class Empty(unittest.TestCase):
    def test_no_thing_at_all(self):
        self.assertEqual(ask(check([1, 2], [3])), [[0, 0, 0, 0]])

    def test_empty_sentences(self):
        self.assertEqual(ask(check([], [])), [[0, 0, 0, 0]])
        both = thing([[1]], [([2], BEST), ([3], FORBIDDEN)])
        self.assertEqual(last(both, check([], [])), [0, 0, 0, 0])
        self.assertEqual(last(both, check([1], [])), [1, 0, 0, 0, 0])
        self.assertEqual(last(both, check([], [2, 3])), [0, 2, 0, 0])

    def test_things_without_target_forms(self):
        self.assertEqual(last(thing([[1]]), check([1, 1], [1])), [2, 0, 0, 0, 0, 0])


class TargetMarks(unittest.TestCase):
    def test_longest(self):
        self.assertEqual(last(named(1, 5), thing([[2]], [([5, 6], BEST)]), check([1], [5, 6])), [1, 1, 0, 0, 0])

    def test_forbidden_forms_are_marked_too(self):
        one = thing([[1]], [([5], BEST), ([5, 6], FORBIDDEN)])
        self.assertEqual(last(one, check([1], [9, 5, 6])), [1, 1, 0, 0, 1, 1, 3])

    def test_none_over_another(self):
        one = thing([[1]], [([5, 6], BEST), ([6, 7], BEST)])
        self.assertEqual(last(one, check([1, 1], [5, 6, 7])), [2, 1, 1, 1, 0, 0])

    def test_numbers_count_marks_that_serve_nothing_meant(self):
        self.assertEqual(last(named(1, 11), named(2, 12), check([2], [11, 11, 12])), [1, 3, 1, 3, 0])


class MostPairs(unittest.TestCase):
    def test_the_first_gives_way_to_the_second(self):
        things = [named(1, 11, 12), named(2, 11)]
        self.assertEqual(last(*things, check([1, 2], [11, 12])), [2, 2, 2, 2, 1, 0])

    def test_a_chain_that_gives_way(self):
        things = [named(1, 11, 12), named(2, 12, 13), named(3, 13, 14), named(4, 11)]
        self.assertEqual(
            last(*things, check([1, 2, 3, 4], [11, 12, 13, 14])), [4, 4, 4, 2, 3, 4, 1, 0]
        )

    def test_not_if_nothing_is_won(self):
        things = [named(1, 11), named(2, 11)]
        self.assertEqual(last(*things, check([2, 1], [11])), [2, 1, 1, 1, 0, 0])

    def test_more_pairs_than_the_first_fit_finds(self):
        things = [named(1, 11, 12, 13), named(2, 11, 12), named(3, 11)]
        self.assertEqual(last(*things, check([1, 2, 3], [11, 12, 13])), [3, 3, 3, 3, 2, 1, 0])


class FirstPairing(unittest.TestCase):
    def test_the_lesser_target_mark(self):
        self.assertEqual(last(named(1, 11), check([1], [11, 11, 11])), [1, 3, 1, 1, 0])
        self.assertEqual(last(named(1, 11, 12), check([1, 1], [12, 11])), [2, 2, 2, 1, 2, 0])

    def test_one_at_all_ahead_of_none(self):
        self.assertEqual(last(named(1, 11), check([1, 1, 1], [11])), [3, 1, 1, 1, 0, 0, 0])

    def test_one_at_all_with_a_later_target_mark(self):
        things = [named(1, 12), named(2, 12), named(3, 11)]
        self.assertEqual(last(*things, check([1, 2], [11, 12])), [2, 2, 1, 2, 0, 0])

    def test_the_first_mark_counts_most(self):
        things = [named(1, 11, 12), named(2, 11, 12)]
        self.assertEqual(last(*things, check([2, 1], [12, 11])), [2, 2, 2, 1, 2, 0])

    def test_the_lesser_one_that_loses_no_pair(self):
        things = [named(1, 11, 12, 13), named(2, 11)]
        self.assertEqual(last(*things, check([1, 2], [11, 12, 13])), [2, 3, 2, 2, 1, 0])

    def test_the_second_mark_when_the_first_is_settled(self):
        things = [named(1, 11), named(2, 12, 13), named(3, 12)]
        self.assertEqual(last(*things, check([1, 2, 3], [11, 12, 13])), [3, 3, 3, 1, 3, 2, 0])
        self.assertEqual(last(*things, check([1, 2, 2], [11, 12, 13])), [3, 3, 3, 1, 2, 3, 0])

    def test_more_pairs_count_ahead_of_being_first(self):
        things = [named(1, 11, 12), named(2, 11)]
        self.assertEqual(last(*things, check([1, 2, 1], [11, 12])), [3, 2, 2, 1, 0, 2, 0])
        self.assertEqual(last(*things, check([1, 2], [12, 11])), [2, 2, 2, 1, 2, 0])

    def test_seven_with_seven(self):
        one = named(1, 11)
        self.assertEqual(last(one, check([1] * 7, [11] * 7)), [7, 7, 7, 1, 2, 3, 4, 5, 6, 7, 0])

    def test_seven_backwards(self):
        things = [named(word, 10 + word) for word in range(7)]
        self.assertEqual(
            last(*things, check(list(range(7)), [16, 15, 14, 13, 12, 11, 10])), [7, 7, 7, 7, 6, 5, 4, 3, 2, 1, 0]
        )


class Wrong(unittest.TestCase):
    def test_each_from_and_to_in_order(self):
        one = thing([[1]], [([5, 6], FORBIDDEN), ([7], FORBIDDEN), ([8], BEST)])
        self.assertEqual(
            last(one, check([1], [7, 9, 5, 6, 8, 7])), [1, 4, 1, 3, 3, 0, 1, 2, 4, 5, 6]
        )

    def test_not_if_nothing_meant_forbids_it(self):
        things = [named(1, 11), thing([[2]], [([12], FORBIDDEN)])]
        self.assertEqual(last(*things, check([1], [11, 12])), [1, 2, 1, 1, 0])
        self.assertEqual(last(*things, check([1, 2], [11, 12])), [2, 2, 1, 1, 0, 1, 1, 2])

    def test_not_if_it_serves_something_meant(self):
        for standing in (BEST, ALLOWED):
            things = [thing([[1]], [([11], FORBIDDEN)]), thing([[2]], [([11], standing)])]
            self.assertEqual(last(*things, check([1, 2], [11])), [2, 1, 1, 0, 1, 0])

    def test_not_if_it_serves_something_meant_without_a_pair(self):
        things = [thing([[1]], [([11], FORBIDDEN)]), thing([[2]], [([11], BEST)])]
        self.assertEqual(last(*things, check([1, 2], [11, 11])), [2, 2, 1, 0, 1, 0])

    def test_wrong_if_it_serves_only_what_is_not_meant(self):
        things = [thing([[1]], [([11], FORBIDDEN)]), thing([[2]], [([11], BEST)])]
        self.assertEqual(last(*things, check([1], [11])), [1, 1, 0, 0, 1, 0, 1])

    def test_one_mark_that_means_both(self):
        things = [thing([[1]], [([11], FORBIDDEN)]), thing([[1]], [([11], ALLOWED)])]
        self.assertEqual(last(*things, check([1], [11])), [1, 1, 1, 1, 0])

    def test_whichever_source_mark_means_what_forbids_it(self):
        things = [thing([[1]], [([11], FORBIDDEN)]), named(2, 12), named(3, 13)]
        for sentence in ([1, 2, 3], [2, 1, 3], [2, 3, 1]):
            self.assertEqual(last(*things, check(sentence, [11])), [3, 1, 0, 0, 0, 0, 1, 0, 1])

    def test_told_once_though_several_forbid_it(self):
        same = thing([[1], [2]], [([11], FORBIDDEN)])
        self.assertEqual(last(same, same, check([1, 2], [11])), [2, 1, 0, 0, 0, 1, 0, 1])

    def test_a_pairless_right_mark_is_not_wrong(self):
        self.assertEqual(last(named(1, 11), check([1], [11, 11])), [1, 2, 1, 1, 0])

    def test_seven_wrong(self):
        one = thing([[1]], [([11], FORBIDDEN)])
        answer = [1, 7, 0, 0, 7]
        for place in range(7):
            answer += [place, place + 1]
        self.assertEqual(last(one, check([1], [11] * 7)), answer)

    def test_a_form_that_is_hidden_in_a_longer_one_is_not_wrong(self):
        things = [thing([[1]], [([11], FORBIDDEN)]), thing([[2]], [([11, 12], BEST)])]
        self.assertEqual(last(*things, check([1], [11, 12])), [1, 1, 0, 0, 0])


class Refused(unittest.TestCase):
    def test_sixteen_words_and_more(self):
        fine = [7] * 16
        self.assertEqual(ask(check(fine, fine)), [[0, 0, 0, 0]])
        for length in (17, 20):
            self.assertEqual(ask(check([7] * length, fine)), [[-1]])
            self.assertEqual(ask(check(fine, [7] * length)), [[-1]])

    def test_words_above_999(self):
        self.assertEqual(ask(check([999, 0], [0, 999])), [[0, 0, 0, 0]])
        for word in (1000, 4294967295):
            self.assertEqual(ask(check([1, word], [1])), [[-1]])
            self.assertEqual(ask(check([1], [word, 1])), [[-1]])

    def test_more_than_seven_marks(self):
        one = named(1, 11)
        for count in (8, 16):
            self.assertEqual(last(one, check([1] * count, [11])), [-1])
            self.assertEqual(last(one, check([1], [11] * count)), [-1])
            self.assertEqual(last(one, check([1] * count, [11] * count)), [-1])

    def test_marks_count_and_not_words(self):
        one = thing([[1, 1]], [([11, 11], BEST)])
        self.assertEqual(last(one, check([1] * 14, [11] * 15)), [7, 7, 7, 1, 2, 3, 4, 5, 6, 7, 0])
        self.assertEqual(last(one, check([1] * 16, [11] * 2)), [-1])

    def test_forbidden_marks_count_too(self):
        one = thing([[1]], [([11], BEST), ([12], FORBIDDEN)])
        self.assertEqual(last(one, check([1], [11] * 6 + [12] * 2)), [-1])

    def test_all_as_it_was(self):
        one = named(1, 11)
        self.assertEqual(
            ask(one, check([1] * 8, [11]), check([1000], []), check([1], [11]), one, marks([1])),
            [[0], [-1], [-1], [1, 1, 1, 1, 0], [1], [1, 0, 1, 2, 0, 1]],
        )


if __name__ == "__main__":
    unittest.main()
