"""Players in a line."""

import itertools
import unittest

from hatguess.errors import BadColours, BadHats
from hatguess.line import call, calls
from tests.helper import VAST, RefusalCase, all_hats, no_colours, no_hats, strewn

# Counts of colours, each with the greatest count of players all of whose hats are tried.
SMALL = [(2, 8), (3, 6), (4, 4), (5, 4), (6, 3), (7, 3)]


def small_lines():
    for colours, most in SMALL:
        for players in range(most + 1):
            for hats in all_hats(colours, players):
                yield colours, hats


def vast_lines():
    for colours in VAST:
        yield colours, [colours - 1]
        yield colours, [0, colours - 1]
        yield colours, [colours - 1] * 9
        yield colours, [0] * 9
        yield colours, strewn(colours, 40)


def spoken(colours, hats):
    """What all call, each asked for alone, hearing what was called indeed."""
    heard = []
    for player in range(len(hats)):
        heard.append(call(colours, hats[player + 1:], list(heard)))
    return heard


class Line(unittest.TestCase):
    def assert_colour(self, colours, told):
        self.assertIs(type(told), int)
        self.assertTrue(0 <= told < colours)

    def assert_right(self, colours, hats):
        told = calls(colours, hats)
        self.assertIs(type(told), list)
        self.assertEqual(len(told), len(hats))
        for colour in told:
            self.assert_colour(colours, colour)
        self.assertEqual(told[1:], hats[1:])

    def test_all_but_the_first_call_their_own_at_all_small_hats(self):
        for colours, hats in small_lines():
            self.assert_right(colours, hats)

    def test_each_asked_alone_calls_the_same_at_all_small_hats(self):
        for colours, hats in small_lines():
            self.assertEqual(spoken(colours, hats), calls(colours, hats))

    def test_very_many_colours(self):
        for colours, hats in vast_lines():
            self.assert_right(colours, hats)
            self.assertEqual(spoken(colours, hats), calls(colours, hats))

    def test_many_players(self):
        for colours in [2, 3, 10, 10 ** 30]:
            hats = strewn(colours, 600)
            self.assert_right(colours, hats)
            self.assertEqual(spoken(colours, hats), calls(colours, hats))

    def test_very_many_players(self):
        for colours in [2, 5, 10 ** 30]:
            hats = strewn(colours, 100000)
            self.assert_right(colours, hats)
            told = calls(colours, hats)
            for player in [0, 1, 2, 50000, 99998, 99999]:
                self.assertEqual(call(colours, hats[player + 1:], told[:player]), told[player])

    def test_the_arguments_have_their_names(self):
        self.assertEqual(call(colours=3, ahead=[1, 2], heard=[0, 2]), call(3, [1, 2], [0, 2]))
        self.assertEqual(calls(colours=3, hats=[1, 2, 0]), calls(3, [1, 2, 0]))

    def test_no_hats(self):
        for colours in [2, 3, 10 ** 30]:
            self.assertEqual(calls(colours, []), [])

    def test_one_player(self):
        for colours in [2, 3, 10 ** 30]:
            for hat in [0, 1, colours - 1]:
                told = calls(colours, [hat])
                self.assertEqual(len(told), 1)
                self.assert_colour(colours, told[0])
                self.assertEqual(told, [call(colours, [], [])])

    def test_the_first_does_not_call_by_its_own_hat(self):
        for colours, hats in small_lines():
            if hats:
                other = [(hats[0] + 1) % colours] + hats[1:]
                self.assertEqual(calls(colours, hats)[0], calls(colours, other)[0])


class AnyCalls(unittest.TestCase):
    """Calls at what no such line would have called are colours all the same."""

    def questions(self):
        for colours in [2, 3, 4]:
            for seen in range(4):
                for heard in range(4):
                    for hats in all_hats(colours, seen + heard):
                        yield colours, hats[:seen], hats[seen:]
        for colours in VAST:
            top = colours - 1
            for ahead in [[], [0], [top], [top] * 7, strewn(colours, 9)]:
                for heard in [[], [0], [top], [0] + [top] * 7, [top] * 7, strewn(colours, 9)]:
                    yield colours, ahead, heard

    def test_a_colour_is_called(self):
        for colours, ahead, heard in self.questions():
            told = call(colours, ahead, heard)
            self.assertIs(type(told), int)
            self.assertTrue(0 <= told < colours)

    def test_asked_again_in_another_order_the_same_is_called(self):
        asked = list(self.questions())
        first = [call(*question) for question in asked]
        again = [call(colours, list(ahead), list(heard)) for colours, ahead, heard in reversed(asked)]
        self.assertEqual(first, again[::-1])

    def test_all_calls_asked_again_are_the_same(self):
        asked = list(small_lines())
        first = [calls(*question) for question in asked]
        again = [calls(colours, list(hats)) for colours, hats in reversed(asked)]
        self.assertEqual(first, again[::-1])


class Kept(unittest.TestCase):
    def test_what_is_handed_in_stays_as_it_was(self):
        for colours, hats in itertools.chain(small_lines(), vast_lines()):
            was = list(hats)
            calls(colours, hats)
            self.assertEqual(hats, was)
            for at in range(len(hats) + 1):
                ahead, heard = hats[:at], hats[at:]
                call(colours, ahead, heard)
                self.assertEqual((ahead, heard), (was[:at], was[at:]))

    def test_one_list_may_be_both_ahead_and_heard(self):
        hats = [1, 2, 0, 2]
        self.assertEqual(call(3, hats, hats), call(3, [1, 2, 0, 2], [1, 2, 0, 2]))
        self.assertEqual(hats, [1, 2, 0, 2])

    def test_what_is_told_is_the_askers_own(self):
        for hats in [[], [1], [0, 2], [2, 1, 0, 1], [0, 0, 0]]:
            was = list(hats)
            told = calls(3, hats)
            once = list(told)
            self.assertIsNot(told, hats)
            told.append(7)
            told[0] = "no colour"
            self.assertEqual(hats, was)
            self.assertEqual(calls(3, hats), once)

    def test_two_answers_are_two_lists(self):
        for hats in [[], [1], [0, 2, 1]]:
            self.assertIsNot(calls(3, hats), calls(3, hats))

    def test_hats_changed_later_change_no_answer(self):
        hats = [2, 1, 0]
        told = calls(3, hats)
        once = list(told)
        hats[:] = [0, 0, 0, 0]
        self.assertEqual(told, once)
        self.assertEqual(calls(3, hats)[1:], [0, 0, 0])
        self.assertEqual(calls(3, [2, 1, 0]), once)

    def test_what_is_refused_stays_as_it_was(self):
        for wrong in [[0, 1, 3], [True], [None, 0], [[0], "1"]]:
            was = list(wrong)
            for ask in [lambda: calls(3, wrong), lambda: call(3, wrong, []), lambda: call(3, [], wrong)]:
                self.assertRaises(BadHats, ask)
                self.assertEqual(wrong, was)


class Refusals(RefusalCase):
    def test_no_colours(self):
        for number, wrong in enumerate(no_colours()):
            with self.subTest(number=number):
                self.refused(BadColours, calls, wrong, [])
                self.refused(BadColours, calls, wrong, [0])
                self.refused(BadColours, call, wrong, [], [])
                self.refused(BadColours, call, wrong, [0], [0])

    def test_no_hats(self):
        for colours in [2, 3, 10 ** 30]:
            for number, wrong in enumerate(no_hats(colours)):
                with self.subTest(colours=colours, number=number):
                    self.refused(BadHats, calls, colours, wrong)

    def test_no_hats_ahead(self):
        for colours in [2, 3, 10 ** 30]:
            for number, wrong in enumerate(no_hats(colours)):
                with self.subTest(colours=colours, number=number):
                    self.refused(BadHats, call, colours, wrong, [])
                    self.refused(BadHats, call, colours, wrong, [0, 1])

    def test_no_calls_heard(self):
        for colours in [2, 3, 10 ** 30]:
            for number, wrong in enumerate(no_hats(colours)):
                with self.subTest(colours=colours, number=number):
                    self.refused(BadHats, call, colours, [], wrong)
                    self.refused(BadHats, call, colours, [0, 1], wrong)

    def test_neither_ahead_nor_heard(self):
        for number, wrong in enumerate(no_hats(3)):
            with self.subTest(number=number):
                self.refused(BadHats, call, 3, wrong, wrong)

    def test_colours_go_ahead_of_hats(self):
        hats = no_hats(2)
        for number, wrong in enumerate(no_colours()):
            for place, other in enumerate(hats):
                with self.subTest(number=number, place=place):
                    self.refused(BadColours, calls, wrong, other)
                    self.refused(BadColours, call, wrong, other, [])
                    self.refused(BadColours, call, wrong, [], other)
                    self.refused(BadColours, call, wrong, other, other)

    def test_the_greatest_colour_is_one_less_than_their_count(self):
        for colours in [2, 3, 10 ** 30]:
            top = colours - 1
            self.assertEqual(calls(colours, [0, top])[1], top)
            self.refused(BadHats, calls, colours, [0, top + 1])
            self.refused(BadHats, call, colours, [top + 1], [top])
            self.refused(BadHats, call, colours, [top], [top + 1])

    def test_two_colours_are_the_fewest(self):
        self.assertEqual(calls(2, [1, 1])[1], 1)
        self.refused(BadColours, calls, 1, [0, 0])
        self.refused(BadColours, call, 1, [0], [0])


if __name__ == "__main__":
    unittest.main()
