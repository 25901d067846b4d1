"""Players who guess or pass."""

import unittest

from hatguess.errors import BadHats, BadNumber, BadPlayer, BadPower, Won
from hatguess.passing import lost_by, number_of, said, says, won
from tests.helper import RefusalCase, all_hats, no_hats, no_numbers, no_players, strewn

COUNTS = [1, 3, 7, 15, 31, 63]


def few_hats():
    """All hats of 1, 3 and 7 players."""
    return [hats for players in [1, 3, 7] for hats in all_hats(2, players)]


def many_hats():
    """Some hats of 15, 31 and 63 players, lost ones and won ones next to them among these."""
    hats = []
    for players in [15, 31, 63]:
        hats += [[0] * players, [1] * players, [at % 2 for at in range(players)]]
        hats += [strewn(2, players, first) for first in range(1, 21)]
        power = players.bit_length()
        hats += [lost_by(power, number) for number in some_numbers(power)]
        hats += [changed(lost_by(power, number), number % players) for number in some_numbers(power)]
    return hats


def some_numbers(power):
    """The first, the last and some numbers of lost hats between."""
    many = lost_count(power)
    return [0, 1, 2, 3, many // 7, many // 3, many // 2 - 1, many // 2, many // 2 + 1, many - 2, many - 1]


def lost_count(power):
    return 2 ** (2 ** power - 1 - power)


def changed(hats, at):
    return hats[:at] + [1 - hats[at]] + hats[at + 1:]


def near(hats):
    """These hats, and all that are unlike them at just one player."""
    return [hats] + [changed(hats, at) for at in range(len(hats))]


def alone(hats):
    """What all say, each asked for alone of the others' hats."""
    return [says(which, hats[:which] + hats[which + 1:]) for which in range(len(hats))]


def wins(hats, told):
    """Whether they win who say this, by the words of the document."""
    guessed = [(hat, word) for hat, word in zip(hats, told) if word is not None]
    return bool(guessed) and all(hat == word for hat, word in guessed)


def wrong_lengths():
    return [players for players in range(130) if players not in COUNTS] + [255, 511, 1023]


class Passing(unittest.TestCase):
    def test_each_guesses_a_colour_or_passes(self):
        for hats in few_hats() + many_hats():
            told = said(hats)
            self.assertIs(type(told), list)
            self.assertEqual(len(told), len(hats))
            for word in told + alone(hats):
                self.assertTrue(word is None or (type(word) is int and word in (0, 1)))

    def test_each_asked_alone_says_the_same(self):
        for hats in few_hats() + many_hats():
            self.assertEqual(alone(hats), said(hats))

    def test_won_is_told_as_it_is(self):
        for hats in few_hats() + many_hats():
            self.assertIs(won(hats), wins(hats, alone(hats)))

    def test_of_hats_and_those_near_they_lose_at_just_one(self):
        for hats in few_hats() + many_hats():
            self.assertEqual([won(other) for other in near(hats)].count(False), 1)

    def test_asked_again_in_another_order_the_same_is_said(self):
        asked = few_hats() + many_hats()
        first = [(said(hats), alone(hats), won(hats)) for hats in asked]
        again = [(said(hats), alone(hats), won(hats)) for hats in reversed(asked)]
        self.assertEqual(first, again[::-1])

    def test_one_player_sees_nothing_and_guesses(self):
        self.assertIn(says(0, []), [0, 1])
        self.assertEqual([won([0]), won([1])].count(True), 1)

    def test_the_arguments_have_their_names(self):
        self.assertEqual(says(which=1, others=[0, 1]), says(1, [0, 1]))
        self.assertEqual(said(hats=[0, 1, 1]), said([0, 1, 1]))
        self.assertEqual(won(hats=[0, 1, 1]), won([0, 1, 1]))
        hats = lost_by(power=3, number=5)
        self.assertEqual(number_of(hats=hats), 5)


class Lost(unittest.TestCase):
    def assert_lost(self, power, number):
        hats = lost_by(power, number)
        self.assertIs(type(hats), list)
        self.assertEqual(len(hats), 2 ** power - 1)
        for hat in hats:
            self.assertIs(type(hat), int)
            self.assertIn(hat, (0, 1))
        self.assertIs(won(hats), False)
        self.assertFalse(wins(hats, alone(hats)))
        back = number_of(hats)
        self.assertIs(type(back), int)
        self.assertEqual(back, number)
        self.assertEqual(lost_by(power, number), hats)

    def test_all_numbers_of_small_powers(self):
        for power in [1, 2, 3]:
            numbers = range(lost_count(power))
            for number in numbers:
                self.assert_lost(power, number)
            self.assertEqual(len({tuple(lost_by(power, number)) for number in numbers}), lost_count(power))

    def test_some_numbers_of_great_powers(self):
        for power in [4, 5, 6]:
            numbers = some_numbers(power)
            for number in numbers:
                self.assert_lost(power, number)
            self.assertEqual(len({tuple(lost_by(power, number)) for number in numbers}), len(numbers))

    def test_all_numbers_of_fifteen_players(self):
        told = {tuple(lost_by(4, number)) for number in range(2048)}
        self.assertEqual(len(told), 2048)
        self.assertEqual({number_of(list(hats)) for hats in told}, set(range(2048)))

    def test_all_lost_hats_have_a_number(self):
        for power, players in [(1, 1), (2, 3), (3, 7)]:
            lost = [hats for hats in all_hats(2, players) if not won(hats)]
            self.assertEqual(len(lost), lost_count(power))
            self.assertEqual(sorted(number_of(hats) for hats in lost), list(range(lost_count(power))))
            for hats in lost:
                self.assertEqual(lost_by(power, number_of(hats)), hats)

    def test_lost_hats_of_many_players_have_a_number(self):
        for hats in many_hats():
            lost = [other for other in near(hats) if not won(other)][0]
            self.assertEqual(lost_by(len(hats).bit_length(), number_of(lost)), lost)

    def test_how_many_there_are(self):
        self.assertEqual([lost_count(power) for power in [1, 2, 3, 4]], [1, 2, 16, 2048])
        for power in [1, 2, 3, 4, 5, 6]:
            self.assertEqual(number_of(lost_by(power, lost_count(power) - 1)), lost_count(power) - 1)
            self.assertRaises(BadNumber, lost_by, power, lost_count(power))


class Kept(unittest.TestCase):
    def test_what_is_handed_in_stays_as_it_was(self):
        for hats in few_hats() + many_hats():
            was = list(hats)
            said(hats)
            if not won(hats):
                number_of(hats)
            self.assertEqual(hats, was)
            for which in range(len(hats)):
                others = hats[:which] + hats[which + 1:]
                before = list(others)
                says(which, others)
                self.assertEqual(others, before)

    def test_what_is_told_is_the_askers_own(self):
        for hats in [[0], [1], [0, 1, 1], [1, 1, 1], lost_by(6, 12345)]:
            was = list(hats)
            told = said(hats)
            once = list(told)
            self.assertIsNot(told, hats)
            told[0] = "no colour"
            told.append(7)
            self.assertEqual(hats, was)
            self.assertEqual(said(hats), once)

    def test_lost_hats_are_the_askers_own(self):
        for power in [1, 2, 3, 4, 5, 6]:
            for number in [0, lost_count(power) - 1]:
                hats = lost_by(power, number)
                was = list(hats)
                hats[0] = "no hat"
                hats.append(7)
                self.assertEqual(lost_by(power, number), was)

    def test_what_is_refused_stays_as_it_was(self):
        for wrong in [[], [0, 1], [2], [True], [0, None, 0], [0, 1, 2]]:
            was = list(wrong)
            for ask in [said, won, number_of, lambda hats: says(0, hats[1:] + hats[:1] + [5])]:
                self.assertRaises(BadHats, ask, wrong)
                self.assertEqual(wrong, was)


class Refusals(RefusalCase):
    def test_no_hats(self):
        for number, wrong in enumerate(no_hats(2)):
            with self.subTest(number=number):
                self.refused(BadHats, said, wrong)
                self.refused(BadHats, won, wrong)
                self.refused(BadHats, number_of, wrong)
                self.refused(BadHats, says, 0, wrong)

    def test_one_hat_that_is_none(self):
        for players in COUNTS:
            for at in {0, players // 2, players - 1}:
                for number, wrong in enumerate([2, -1, 10 ** 5000] + no_numbers()):
                    hats = [0] * players
                    hats[at] = wrong
                    with self.subTest(players=players, at=at, number=number):
                        self.refused(BadHats, said, hats)
                        self.refused(BadHats, won, hats)
                        self.refused(BadHats, number_of, hats)
                        if players > 1:
                            others = hats[1:] if at > 0 else hats[:-1]
                            self.refused(BadHats, says, 0, others)

    def test_other_counts_of_players(self):
        for players in wrong_lengths():
            for hats in [[0] * players, [1] * players, strewn(2, players)]:
                with self.subTest(players=players):
                    self.refused(BadHats, said, hats)
                    self.refused(BadHats, won, hats)
                    self.refused(BadHats, number_of, hats)
                    if players > 0:
                        self.refused(BadHats, says, 0, hats[1:])

    def test_others_as_many_as_all(self):
        for players in COUNTS:
            self.assertEqual(len(said([0] * players)), players)
            self.refused(BadHats, says, 0, [0] * players)

    def test_no_player(self):
        for players in COUNTS:
            for number, wrong in enumerate(no_players(players)):
                with self.subTest(players=players, number=number):
                    self.refused(BadPlayer, says, wrong, [0] * (players - 1))

    def test_hats_go_ahead_of_player(self):
        players = no_players(3)
        for number, wrong in enumerate(no_hats(2) + [[0], [0, 1, 0], [1] * 63]):
            for place, other in enumerate(players):
                with self.subTest(number=number, place=place):
                    self.refused(BadHats, says, other, wrong)

    def test_no_power(self):
        for number, wrong in enumerate([0, -1, 7, 8, 10 ** 30, -10 ** 30, 10 ** 5000, -10 ** 5000] + no_numbers()):
            with self.subTest(number=number):
                self.refused(BadPower, lost_by, wrong, 0)
                for place, other in enumerate([-1, 10 ** 30, 10 ** 5000] + no_numbers()):
                    with self.subTest(place=place):
                        self.refused(BadPower, lost_by, wrong, other)

    def test_no_number(self):
        for power in [1, 2, 3, 4, 5, 6]:
            many = lost_count(power)
            for number, wrong in enumerate([-1, -many, many, many + 1, 10 ** 5000, -10 ** 5000] + no_numbers()):
                with self.subTest(power=power, number=number):
                    self.refused(BadNumber, lost_by, power, wrong)

    def test_won_hats_have_no_number(self):
        for hats in few_hats() + many_hats():
            if wins(hats, alone(hats)):
                self.refused(Won, number_of, hats)

    def test_hats_go_ahead_of_won(self):
        for hats in [[1, 0, 0, 0], [1, 0, 2], [1, 0, True], [1, 0]]:
            self.refused(BadHats, number_of, hats)


if __name__ == "__main__":
    unittest.main()
