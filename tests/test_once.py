"""Players who guess all at once."""

import itertools
import unittest

from hatguess.errors import BadColours, BadHats, BadPlayer
from hatguess.once import guess, guesses
from tests.helper import VAST, RefusalCase, all_hats, no_colours, no_hats, no_players, strewn

# Counts of colours, each with the greatest count of players all of whose hats are tried.
SMALL = [(2, 9), (3, 7), (4, 5), (5, 5), (6, 4), (7, 3), (9, 2), (30, 1)]


def small_hats():
    for colours, most in SMALL:
        for players in range(most + 1):
            for hats in all_hats(colours, players):
                yield colours, hats


def vast_hats():
    for colours in VAST:
        yield colours, []
        yield colours, [colours - 1]
        yield colours, [0, colours - 1]
        yield colours, [colours - 1] * 9
        yield colours, [0] * 9
        yield colours, strewn(colours, 40)


def alone(colours, hats):
    """What all guess, each asked for alone of the others' hats."""
    return [guess(colours, which, hats[:which] + hats[which + 1:]) for which in range(len(hats))]


def right(hats, told):
    return sum(1 for hat, colour in zip(hats, told) if hat == colour)


class Once(unittest.TestCase):
    def assert_enough(self, colours, hats):
        told = guesses(colours, hats)
        self.assertIs(type(told), list)
        self.assertEqual(len(told), len(hats))
        for colour in told:
            self.assertIs(type(colour), int)
            self.assertTrue(0 <= colour < colours)
        self.assertGreaterEqual(right(hats, told), len(hats) // colours)

    def assert_same_alone(self, colours, hats):
        told = alone(colours, hats)
        for colour in told:
            self.assertIs(type(colour), int)
        self.assertEqual(told, guesses(colours, hats))

    def test_enough_are_right_at_all_small_hats(self):
        for colours, hats in small_hats():
            self.assert_enough(colours, hats)

    def test_each_asked_alone_guesses_the_same_at_all_small_hats(self):
        for colours, hats in small_hats():
            self.assert_same_alone(colours, hats)

    def test_more_players_than_colours_as_many_and_fewer(self):
        for colours in [2, 3, 10, 25]:
            for players in [colours - 1, colours, colours + 1, 2 * colours - 1, 2 * colours, 7 * colours + 1]:
                for hats in [[0] * players, [colours - 1] * players, strewn(colours, players)]:
                    self.assert_enough(colours, hats)
                    self.assert_same_alone(colours, hats)

    def test_each_sum_of_hats(self):
        for colours in [2, 3, 10, 25]:
            for players in [colours, 3 * colours, 3 * colours + 1, 4 * colours - 1]:
                for hat in range(colours):
                    self.assert_enough(colours, [0] * (players - 1) + [hat])
                    self.assert_enough(colours, [hat] + [0] * (players - 1))

    def test_very_many_colours(self):
        for colours, hats in vast_hats():
            self.assert_enough(colours, hats)
            self.assert_same_alone(colours, hats)

    def test_very_many_players(self):
        for colours in [2, 5, 99999, 100000, 10 ** 30]:
            hats = strewn(colours, 100000)
            self.assert_enough(colours, hats)
            told = guesses(colours, hats)
            for which in [0, 1, 50000, 99999]:
                self.assertEqual(guess(colours, which, hats[:which] + hats[which + 1:]), told[which])

    def test_no_players(self):
        for colours in [2, 3, 10 ** 30]:
            self.assertEqual(guesses(colours, []), [])

    def test_one_player_sees_nothing(self):
        for colours in [2, 3, 10 ** 30]:
            for hat in [0, 1, colours - 1]:
                self.assertEqual(guesses(colours, [hat]), [guess(colours, 0, [])])

    def test_the_arguments_have_their_names(self):
        self.assertEqual(guess(colours=3, which=1, others=[2, 0]), guess(3, 1, [2, 0]))
        self.assertEqual(guesses(colours=3, hats=[1, 2, 0]), guesses(3, [1, 2, 0]))

    def test_asked_again_in_another_order_the_same_is_guessed(self):
        asked = list(small_hats()) + list(vast_hats())
        first = [(guesses(*question), alone(*question)) for question in asked]
        again = [(guesses(*question), alone(*question)) for question in reversed(asked)]
        self.assertEqual(first, again[::-1])


class Kept(unittest.TestCase):
    def test_what_is_handed_in_stays_as_it_was(self):
        for colours, hats in itertools.chain(small_hats(), vast_hats()):
            was = list(hats)
            guesses(colours, hats)
            self.assertEqual(hats, was)
            for which in range(len(hats) + 1):
                guess(colours, which, hats)
                self.assertEqual(hats, was)

    def test_what_is_told_is_the_askers_own(self):
        for hats in [[], [1], [0, 2], [2, 1, 0, 1], [0, 0, 0]]:
            was = list(hats)
            told = guesses(3, hats)
            once = list(told)
            self.assertIsNot(told, hats)
            self.assertIsNot(told, guesses(3, hats))
            told.append(7)
            told[0] = "no colour"
            self.assertEqual(hats, was)
            self.assertEqual(guesses(3, hats), once)

    def test_hats_changed_later_change_no_answer(self):
        hats = [2, 1, 0]
        told = guesses(3, hats)
        once = list(told)
        hats[:] = [0, 0, 0, 0]
        self.assertEqual(told, once)
        self.assertEqual(guesses(3, [2, 1, 0]), once)


class Refusals(RefusalCase):
    def test_no_colours(self):
        for number, wrong in enumerate(no_colours()):
            with self.subTest(number=number):
                self.refused(BadColours, guesses, wrong, [])
                self.refused(BadColours, guesses, wrong, [0])
                self.refused(BadColours, guess, wrong, 0, [])
                self.refused(BadColours, guess, wrong, 1, [0])

    def test_no_hats(self):
        for colours in [2, 3, 10 ** 30]:
            for number, wrong in enumerate(no_hats(colours)):
                with self.subTest(colours=colours, number=number):
                    self.refused(BadHats, guesses, colours, wrong)
                    self.refused(BadHats, guess, colours, 0, wrong)

    def test_no_player(self):
        for others in [[], [0], [1, 0], [0, 1, 1, 0, 1]]:
            for number, wrong in enumerate(no_players(len(others) + 1)):
                with self.subTest(others=others, number=number):
                    self.refused(BadPlayer, guess, 2, wrong, others)
                    self.refused(BadPlayer, guess, 10 ** 30, wrong, others)

    def test_the_greatest_player_is_as_many_as_the_others(self):
        for players in [0, 1, 2, 9]:
            self.assertIn(guess(2, players, [0] * players), [0, 1])
            self.refused(BadPlayer, guess, 2, players + 1, [0] * players)

    def test_colours_go_ahead_of_hats_and_player(self):
        hats = no_hats(2)
        for number, wrong in enumerate(no_colours()):
            for place, other in enumerate(hats):
                with self.subTest(number=number, place=place):
                    self.refused(BadColours, guesses, wrong, other)
                    self.refused(BadColours, guess, wrong, 0, other)
                    self.refused(BadColours, guess, wrong, -1, other)
            for place, other in enumerate(no_players(2)):
                with self.subTest(number=number, place=place):
                    self.refused(BadColours, guess, wrong, other, [0])

    def test_hats_go_ahead_of_player(self):
        players = no_players(2)
        for number, wrong in enumerate(no_hats(2)):
            for place, other in enumerate(players):
                with self.subTest(number=number, place=place):
                    self.refused(BadHats, guess, 2, other, wrong)

    def test_the_greatest_colour_is_one_less_than_their_count(self):
        for colours in [2, 3, 10 ** 30]:
            top = colours - 1
            self.assertEqual(len(guesses(colours, [0, top])), 2)
            self.refused(BadHats, guesses, colours, [0, top + 1])
            self.refused(BadHats, guess, colours, 0, [top + 1])

    def test_what_is_refused_stays_as_it_was(self):
        for wrong in [[0, 1, 3], [True], [None, 0], [[0], "1"]]:
            was = list(wrong)
            self.refused(BadHats, guesses, 3, wrong)
            self.refused(BadHats, guess, 3, 0, wrong)
            self.assertEqual(wrong, was)


if __name__ == "__main__":
    unittest.main()
