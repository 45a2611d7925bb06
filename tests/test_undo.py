import unittest

from tests.helper import ALLOWED, BEST, FORBIDDEN, ask, best, check, doubles, gone, last, marks, named, thing, things, undo

ONE = thing([[1], [2]], [([11], BEST), ([12], FORBIDDEN)])
TWO = thing([[1]], [([12], ALLOWED)])
THREE = thing([[3], [2]], [([11], FORBIDDEN), ([13], BEST)])

# What the list is, seen through every call that only looks at it.
LOOK = [
    things(),
    marks([1, 2, 3]),
    check([1, 2, 3], [11, 12, 13]),
    doubles(),
    best(0),
    best(1),
    best(2),
    named([1]),
    named([2]),
    named([11]),
    named([12]),
]


def seen_after(*calls):
    return ask(*calls, *LOOK)[len(calls):]


def answered_behind(start, *calls):
    return ask(*start, *calls)[len(start):]


class OfAThing(unittest.TestCase):
    def test_how_many_there_are(self):
        self.assertEqual(ask(ONE, undo()), [[0], [0]])
        self.assertEqual(ask(ONE, TWO, THREE, undo()), [[0], [1], [2], [2]])

    def test_it_is_there_no_longer(self):
        self.assertEqual(answered_behind([ONE, TWO, undo()], best(1), gone(1), best(0)), [[-2], [-2], [1, 11]])

    def test_the_list_is_as_it_was(self):
        self.assertEqual(seen_after(ONE, undo()), seen_after())
        self.assertEqual(seen_after(ONE, TWO, undo()), seen_after(ONE))
        self.assertEqual(seen_after(ONE, TWO, THREE, undo()), seen_after(ONE, TWO))


class OfAGone(unittest.TestCase):
    def test_how_many_there_are(self):
        self.assertEqual(answered_behind([ONE, TWO, THREE], gone(1), undo()), [[2], [3]])
        self.assertEqual(answered_behind([ONE], gone(0), undo()), [[0], [1]])

    def test_the_thing_stands_again_at_its_place_with_its_number(self):
        for number in range(3):
            calls = [thing([[1]]), thing([[1], [2]]), thing([[1], [2], [3]]), gone(number), undo()]
            self.assertEqual(last(*calls, things()), [3, 0, 1, 0, 1, 2, 0, 2, 3, 0])

    def test_the_list_is_as_it_was(self):
        for number in range(3):
            self.assertEqual(seen_after(ONE, TWO, THREE, gone(number), undo()), seen_after(ONE, TWO, THREE))

    def test_it_can_go_again(self):
        self.assertEqual(answered_behind([ONE, TWO], gone(0), undo(), gone(0), gone(0)), [[1], [2], [1], [-2]])


class OneBehindAnother(unittest.TestCase):
    def test_down_to_the_beginning_and_one_more(self):
        self.assertEqual(
            answered_behind([ONE, TWO, gone(0), THREE, gone(2)], *[undo()] * 7),
            [[2], [1], [2], [1], [0], [-7], [-7]],
        )

    def test_the_list_at_each_step(self):
        changes = [ONE, TWO, gone(0), THREE, gone(2), gone(1)]
        for left in range(len(changes) + 1):
            undone = [undo()] * (len(changes) - left)
            self.assertEqual(seen_after(*changes, *undone), seen_after(*changes[:left]))

    def test_an_undo_is_not_undone(self):
        self.assertEqual(answered_behind([ONE, TWO], undo(), undo(), undo()), [[1], [0], [-7]])

    def test_of_a_thing_that_was_gone_already(self):
        self.assertEqual(answered_behind([ONE, gone(0)], undo(), undo(), undo(), things()), [[1], [0], [-7], [0]])


class Nothing(unittest.TestCase):
    def test_at_the_beginning(self):
        self.assertEqual(ask(undo()), [[-7]])
        self.assertEqual(ask(undo(), undo()), [[-7], [-7]])

    def test_after_calls_that_only_look(self):
        looks = [marks([1]), check([1], [2]), doubles(), best(0), things(), named([1])]
        self.assertEqual(last(*looks, undo()), [-7])
        self.assertEqual(answered_behind([ONE, *looks], undo(), undo()), [[0], [-7]])

    def test_all_as_it_was(self):
        self.assertEqual(ask(undo(), ONE, undo(), undo(), TWO, things()), [[-7], [0], [0], [-7], [1], [1, 1, 1, 1]])
        self.assertEqual(seen_after(undo(), ONE, TWO), seen_after(ONE, TWO))
        self.assertEqual(answered_behind([undo(), undo(), ONE], undo(), undo()), [[0], [-7]])


class AfterRefusals(unittest.TestCase):
    def test_a_refused_thing_is_nothing_to_undo(self):
        for refused in (thing([]), thing([[1], [1]]), thing([[1000]]), thing([[1]], [([2], 3)])):
            self.assertEqual(ask(refused, undo()), [[-1], [-7]])
            self.assertEqual(ask(ONE, TWO, refused, undo(), things())[2:], [[-1], [1], [1, 0, 2, 2]])

    def test_a_thing_without_room_is_nothing_to_undo(self):
        self.assertEqual(answered_behind([ONE] * 8, TWO, TWO, undo(), undo()), [[-5], [-5], [7], [6]])

    def test_a_refused_gone_is_nothing_to_undo(self):
        self.assertEqual(ask(gone(0), undo()), [[-2], [-7]])
        self.assertEqual(ask(ONE, TWO, gone(2), undo(), things())[2:], [[-2], [1], [1, 0, 2, 2]])
        self.assertEqual(answered_behind([ONE, TWO, gone(0)], gone(0), undo(), undo()), [[-2], [2], [1]])

    def test_a_refused_undo_is_nothing_to_undo(self):
        self.assertEqual(ask(undo(), ONE, undo(), undo(), undo()), [[-7], [0], [0], [-7], [-7]])

    def test_other_refused_calls_are_nothing_to_undo(self):
        refused = [marks([1000]), check([1] * 17, []), best(5), named([])]
        self.assertEqual(answered_behind([ONE, TWO], *refused, undo()), [[-1], [-1], [-2], [-1], [1]])


class ToldBetween(unittest.TestCase):
    def test_the_last_one_that_is_not_undone(self):
        self.assertEqual(
            ask(ONE, TWO, undo(), THREE, things(), undo(), things(), undo(), undo()),
            [[0], [1], [1], [2], [2, 0, 2, 2, 2, 2, 2], [1], [1, 0, 2, 2], [0], [-7]],
        )

    def test_a_gone_between(self):
        self.assertEqual(
            ask(ONE, TWO, undo(), gone(0), THREE, undo(), undo(), things(), undo(), undo()),
            [[0], [1], [1], [0], [2], [0], [1], [1, 0, 2, 2], [0], [-7]],
        )

    def test_an_undone_gone_is_not_undone_again(self):
        self.assertEqual(
            ask(ONE, TWO, gone(0), undo(), THREE, undo(), undo(), undo(), undo())[3:],
            [[2], [2], [2], [1], [0], [-7]],
        )


class Numbers(unittest.TestCase):
    def test_none_is_given_again(self):
        self.assertEqual(ask(ONE, undo(), ONE, undo(), ONE), [[0], [0], [1], [0], [2]])

    def test_none_is_given_again_after_several(self):
        self.assertEqual(ask(ONE, TWO, THREE, undo(), undo(), undo(), ONE, TWO)[6:], [[3], [4]])

    def test_none_is_given_again_after_gone_and_undo(self):
        self.assertEqual(
            answered_behind([ONE, TWO, gone(1)], undo(), undo(), THREE, things()),
            [[2], [1], [2], [2, 0, 2, 2, 2, 2, 2]],
        )

    def test_the_undone_number_names_nothing(self):
        self.assertEqual(answered_behind([ONE, undo(), TWO], best(0), gone(0), best(1)), [[-2], [-2], [1, 12]])


class TheEighth(unittest.TestCase):
    def test_undo_of_the_eighth_makes_room_for_one(self):
        self.assertEqual(answered_behind([ONE] * 8, undo(), TWO, THREE), [[7], [8], [-5]])

    def test_undo_of_a_gone_takes_the_room_again(self):
        self.assertEqual(answered_behind([ONE] * 8, gone(3), undo(), TWO), [[7], [8], [-5]])

    def test_undo_of_what_came_for_one_that_is_gone(self):
        self.assertEqual(
            answered_behind([ONE] * 8, gone(0), TWO, undo(), undo(), THREE, undo(), THREE),
            [[7], [8], [7], [8], [-5], [7], [9]],
        )


class SeenByTheOtherCalls(unittest.TestCase):
    def test_marks(self):
        calls = [thing([[1]]), thing([[1, 2]])]
        self.assertEqual(last(*calls, undo(), marks([1, 2])), [1, 0, 1, 1, 0])
        self.assertEqual(last(*calls, gone(1), undo(), marks([1, 2])), [1, 0, 2, 1, 1])

    def test_marks_in_the_order_told(self):
        same = thing([[1]])
        self.assertEqual(last(same, same, same, gone(0), undo(), marks([1])), [1, 0, 1, 3, 0, 1, 2])

    def test_check(self):
        calls = [thing([[1]], [([11], FORBIDDEN)]), thing([[1]], [([11], BEST)])]
        self.assertEqual(last(*calls, check([1], [11])), [1, 1, 1, 1, 0])
        self.assertEqual(last(*calls, undo(), check([1], [11])), [1, 1, 0, 0, 1, 0, 1])
        self.assertEqual(last(*calls, gone(1), undo(), check([1], [11])), [1, 1, 1, 1, 0])
        self.assertEqual(last(*calls, undo(), undo(), check([1], [11])), [0, 0, 0, 0])

    def test_doubles(self):
        calls = [thing([[1]]), thing([[2]]), thing([[2], [1]])]
        self.assertEqual(last(*calls, undo(), doubles()), [0])
        self.assertEqual(last(*calls, gone(0), undo(), doubles()), [2, 1, 1, 2, 0, 2, 1, 2, 2, 1, 2])

    def test_best(self):
        self.assertEqual(last(ONE, undo(), best(0)), [-2])
        self.assertEqual(last(ONE, gone(0), undo(), best(0)), [1, 11])

    def test_named(self):
        self.assertEqual(last(ONE, TWO, undo(), named([12])), [0, 0, 1, 0])
        self.assertEqual(last(ONE, TWO, gone(0), undo(), named([12])), [0, 1, 1, 1, 0])
        self.assertEqual(last(ONE, TWO, gone(0), undo(), named([1])), [2, 0, 1, 0, 0])


if __name__ == "__main__":
    unittest.main()
