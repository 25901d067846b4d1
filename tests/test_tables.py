"""Guesses told by tables: how many are right at the least, and whether an answer is so."""

import itertools
import unittest

from hatguess.answers import Answer, Least
from hatguess.errors import BadColours, BadTables
from hatguess.once import guess, guesses, least
from tests.helper import RefusalCase, all_hats, no_colours, no_hats, no_lists, no_numbers, strewn

# Counts of colours and players of whom all tables are tried.
TINY = [(2, 1), (2, 2), (2, 3), (3, 1), (3, 2), (7, 1)]
# Counts of colours and players of whom some tables are tried.
SOME = [
    (2, 4), (2, 5), (2, 6), (2, 7), (2, 8), (3, 3), (3, 4), (3, 5), (4, 2), (4, 3), (4, 4), (5, 3), (6, 3), (15, 2),
    (16, 2), (255, 1), (256, 1),
]
# Counts of colours and players whose hats can be in more than 256 ways.
OVER = [(257, 1), (300, 1), (17, 2), (7, 3), (5, 4), (4, 5), (3, 6), (2, 9), (2, 10)]


def due(colours, players):
    return colours ** (players - 1)


def every_table(colours, players):
    rows = [list(row) for row in itertools.product(range(colours), repeat=due(colours, players))]
    for tables in itertools.product(rows, repeat=players):
        yield [list(table) for table in tables]


def strewn_tables(colours, players, first=1):
    length = due(colours, players)
    hats = strewn(colours, players * length, first)
    return [hats[at:at + length] for at in range(0, players * length, length)]


def good_tables(colours, players):
    """The tables of the guesses that players make of their own."""
    ways = all_hats(colours, players - 1)
    return [[guess(colours, which, others) for others in ways] for which in range(players)]


def some_tables(colours, players):
    yield [[0] * due(colours, players) for player in range(players)]
    yield [[colours - 1] * due(colours, players) for player in range(players)]
    yield good_tables(colours, players)
    for first in range(1, 6):
        yield strewn_tables(colours, players, first)


def small_questions():
    for colours, players in TINY:
        for tables in every_table(colours, players):
            yield colours, tables
    for colours, players in SOME:
        for tables in some_tables(colours, players):
            yield colours, tables


def looked(colours, tables):
    """All hats with how many are right at them, by a look at each of the hats."""
    places = {tuple(others): place for place, others in enumerate(all_hats(colours, len(tables) - 1))}
    rows = []
    for hats in all_hats(colours, len(tables)):
        told = [table[places[tuple(hats[:at] + hats[at + 1:])]] for at, table in enumerate(tables)]
        rows.append((hats, sum(1 for hat, colour in zip(hats, told) if hat == colour)))
    return rows


def copied(tables):
    return [list(table) for table in tables]


class LeastRight(unittest.TestCase):
    def assert_least(self, colours, tables):
        answer = least(colours, tables)
        rows = looked(colours, tables)
        self.assertIs(type(answer), Least)
        self.assertIs(type(answer.right), int)
        self.assertIs(type(answer.hats), list)
        for hat in answer.hats:
            self.assertIs(type(hat), int)
        self.assertEqual(answer.right, min(many for hats, many in rows))
        self.assertIn((answer.hats, answer.right), rows)
        self.assertLessEqual(answer.right, len(tables) // colours)
        self.assertIs(answer.shows(colours, tables), True)

    def test_against_a_look_at_all_hats(self):
        for colours, tables in small_questions():
            self.assert_least(colours, tables)

    def test_the_first_hat_is_the_highest_figure(self):
        # Player 1 sees the hats of players 0 and 2. At hats [2, 1, 0] these are 2 and 0, place 6, and player 1 is
        # right; at hats [0, 1, 2] they are 0 and 2, place 2, and nobody is.
        tables = [[1] * 9, [0] * 9, [1] * 9]
        tables[1][6] = 1
        self.assertIs(Least(0, [2, 1, 0]).shows(3, tables), False)
        self.assertIs(Least(0, [0, 1, 2]).shows(3, tables), True)
        self.assert_least(3, tables)

    def test_two_players_by_hand(self):
        # One guesses the other's hat, the other guesses the other colour: just one is right, always.
        self.assertEqual(least(2, [[0, 1], [1, 0]]).right, 1)
        both = least(2, [[0, 1], [0, 1]])
        self.assertEqual(both.right, 0)
        self.assertIn(both.hats, [[0, 1], [1, 0]])
        alike = least(2, [[0, 0], [0, 0]])
        self.assertEqual((alike.right, alike.hats), (0, [1, 1]))

    def test_their_own_guesses_are_as_many_right_as_there_can_be(self):
        for colours, players in TINY + SOME:
            tables = good_tables(colours, players)
            answer = least(colours, tables)
            self.assertEqual(answer.right, players // colours)
            told = guesses(colours, answer.hats)
            self.assertEqual(sum(1 for hat, colour in zip(answer.hats, told) if hat == colour), answer.right)

    def test_one_colour_of_a_table_changed(self):
        for colours, players in [(2, 2), (2, 3), (2, 4), (3, 2), (3, 3), (4, 4), (2, 8)]:
            good = good_tables(colours, players)
            for which in range(players):
                for at in range(0, due(colours, players), 1 + due(colours, players) // 9):
                    tables = copied(good)
                    tables[which][at] = (tables[which][at] + 1) % colours
                    self.assert_least(colours, tables)

    def test_one_player(self):
        for colours in [2, 3, 100, 256]:
            for colour in [0, 1, colours - 1]:
                answer = least(colours, [[colour]])
                self.assertEqual(answer.right, 0)
                self.assertEqual(len(answer.hats), 1)
                self.assertIn(answer.hats[0], set(range(colours)) - {colour})

    def test_one_list_may_be_the_table_of_several(self):
        table = [0, 1]
        self.assert_least(2, [table, table])
        self.assertEqual(table, [0, 1])

    def test_the_arguments_have_their_names(self):
        answer = least(colours=2, tables=[[0, 1], [1, 0]])
        self.assertIs(answer.shows(colours=2, tables=[[0, 1], [1, 0]]), True)
        answer = Least(right=3, hats=[1, 2])
        self.assertEqual((answer.right, answer.hats), (3, [1, 2]))


class Kept(unittest.TestCase):
    def test_tables_stay_as_they_were(self):
        for colours, players in TINY + SOME:
            tables = strewn_tables(colours, players)
            rows = list(tables)
            was = copied(tables)
            least(colours, tables).shows(colours, tables)
            self.assertEqual(tables, was)
            for table, row in zip(tables, rows):
                self.assertIs(table, row)

    def test_what_is_told_is_the_askers_own(self):
        for colours, players in TINY + SOME:
            tables = strewn_tables(colours, players)
            was = copied(tables)
            answer = least(colours, tables)
            right, hats = answer.right, list(answer.hats)
            answer.right = "no number"
            answer.hats[0] = "no hat"
            answer.hats.append(7)
            self.assertEqual(tables, was)
            again = least(colours, tables)
            self.assertIsNot(again, answer)
            self.assertEqual((again.right, again.hats), (right, hats))

    def test_tables_changed_later_change_no_answer(self):
        tables = [[0, 1], [1, 0]]
        answer = least(2, tables)
        was = (answer.right, list(answer.hats))
        tables[0][0] = 1
        tables.append([0, 0])
        self.assertEqual((answer.right, answer.hats), was)
        self.assertIs(answer.shows(2, [[0, 1], [1, 0]]), True)


class Answers(unittest.TestCase):
    def test_the_classes(self):
        self.assertEqual(Answer.__bases__, (object,))
        self.assertEqual(Least.__bases__, (Answer,))
        self.assertIn("shows", vars(Least))

    def test_the_fields(self):
        for right, hats in [(0, []), (3, [1, 2]), (-1, [0]), (10 ** 30, [-1, 10 ** 30])]:
            answer = Least(right, hats)
            self.assertEqual(vars(answer), {"right": right, "hats": hats})
            self.assertIs(type(answer.hats), list)

    def test_the_list_handed_in_and_the_field_are_two(self):
        hats = [1, 0]
        answer = Least(0, hats)
        self.assertIsNot(answer.hats, hats)
        hats.append(2)
        self.assertEqual(answer.hats, [1, 0])
        answer.hats[0] = 9
        self.assertEqual(hats, [1, 0, 2])
        self.assertEqual(Least(0, hats).hats, [1, 0, 2])

    def assert_shows(self, truth, right, hats, colours, tables):
        answer = Least(right, hats)
        was = (colours, copied(tables))
        self.assertIs(answer.shows(colours, tables), truth)
        self.assertEqual((answer.right, answer.hats), (right, hats))
        self.assertEqual((colours, tables), was)

    def test_all_fields_by_small_tables(self):
        for colours, players in [(2, 1), (2, 2), (3, 1), (3, 2)]:
            for tables in every_table(colours, players):
                rows = looked(colours, tables)
                few = min(many for hats, many in rows)
                for right in range(-2, players + 3):
                    for hats, many in rows:
                        self.assert_shows(right == few == many, right, hats, colours, tables)

    def test_one_more_one_less_and_other_hats(self):
        for colours, players in SOME:
            for tables in some_tables(colours, players):
                rows = looked(colours, tables)
                few = min(many for hats, many in rows)
                for hats, many in rows[::1 + len(rows) // 20] + [rows[-1]]:
                    self.assert_shows(many == few, few, hats, colours, tables)
                    for right in {few + 1, few - 1, -few - 1, many + 1, players + 1, 10 ** 30, -10 ** 30}:
                        self.assert_shows(False, right, hats, colours, tables)

    def test_no_hats_of_so_many_players_or_colours(self):
        for colours, players in TINY + SOME:
            tables = strewn_tables(colours, players)
            answer = least(colours, tables)
            right, hats = answer.right, answer.hats
            self.assert_shows(True, right, hats, colours, tables)
            for wrong in [[], hats[1:], hats[:-1], hats + [0], [0] + hats, hats + hats, [0] * 500]:
                self.assert_shows(False, right, wrong, colours, tables)
            for at in range(players):
                for hat in [-1, colours, hats[at] - colours, hats[at] + colours, 10 ** 30, -10 ** 30, 10 ** 5000]:
                    self.assert_shows(False, right, hats[:at] + [hat] + hats[at + 1:], colours, tables)

    def test_hats_that_read_as_the_same_number_but_are_none(self):
        # Hats [1, 1] and [0, 3] would both be the number 3.
        self.assert_shows(True, 0, [1, 1], 2, [[0, 0], [0, 0]])
        for hats in [[0, 3], [2, -1], [3], [0, 1, 1]]:
            self.assert_shows(False, 0, hats, 2, [[0, 0], [0, 0]])

    def test_by_the_fields_as_they_stand(self):
        tables = [[0, 0], [0, 0]]
        answer = least(2, tables)
        self.assertIs(answer.shows(2, tables), True)
        answer.right += 1
        self.assertIs(answer.shows(2, tables), False)
        answer.right = 0
        self.assertIs(answer.shows(2, tables), True)
        answer.hats[0] = 0
        self.assertIs(answer.shows(2, tables), False)
        answer.hats = [1, 1]
        self.assertIs(answer.shows(2, tables), True)
        answer.hats.append(0)
        self.assertIs(answer.shows(2, tables), False)
        answer.hats.pop()
        self.assertIs(answer.shows(2, tables), True)

    def test_by_the_tables_as_they_stand(self):
        tables = [[0, 1], [1, 0]]
        answer = least(2, tables)
        tables[0][0] = 1
        self.assertIs(answer.shows(2, tables), False)
        tables[0][0] = 0
        self.assertIs(answer.shows(2, tables), True)
        self.assertIs(answer.shows(2, [[0, 1], [0, 1]]), False)

    def test_true_and_false_are_no_numbers(self):
        self.assert_shows(True, 1, [0, 0], 2, [[0, 1], [1, 0]])
        self.assert_shows(False, True, [0, 0], 2, [[0, 1], [1, 0]])
        self.assert_shows(True, 0, [1], 2, [[0]])
        self.assert_shows(False, False, [1], 2, [[0]])
        self.assert_shows(False, 0, [True], 2, [[0]])

    def test_more_hats_than_least_looks_at(self):
        for colours, players in OVER:
            for tables in some_tables(colours, players):
                rows = looked(colours, tables)
                few = min(many for hats, many in rows)
                for hats, many in rows[::1 + len(rows) // 9]:
                    self.assert_shows(many == few, few, hats, colours, tables)
                    self.assert_shows(False, few + 1, hats, colours, tables)

    def test_one_player_with_very_many_colours(self):
        for colours in [10 ** 30, 10 ** 5000]:
            self.assert_shows(True, 0, [colours - 1], colours, [[0]])
            self.assert_shows(False, 0, [0], colours, [[0]])
            self.assert_shows(False, 1, [0], colours, [[0]])

    def test_what_are_no_tables_is_no_error(self):
        for wrong in [1, 0, -1]:
            self.assertIs(Least(0, [1]).shows(wrong, [[0]]), False)
            self.assertIs(Least(1, [0]).shows(wrong, [[0]]), False)
        for wrong in [[], [[]], [[2]], [[-1]], [[0, 0]], [[0], [0]], [[0, 0], [0]]]:
            self.assertIs(Least(0, [1]).shows(2, wrong), False)


class Refusals(RefusalCase):
    def test_no_colours(self):
        for number, wrong in enumerate(no_colours()):
            with self.subTest(number=number):
                self.refused(BadColours, least, wrong, [[0]])
                self.refused(BadColours, least, wrong, [[0, 1], [1, 0]])

    def test_colours_go_ahead_of_tables(self):
        for number, wrong in enumerate(no_colours()):
            for place, other in enumerate(no_lists() + [[], [[]], [[5]], [0], [[0], [0]], [[0] * 256] * 9]):
                with self.subTest(number=number, place=place):
                    self.refused(BadColours, least, wrong, other)

    def test_no_list(self):
        for number, wrong in enumerate(no_lists()):
            with self.subTest(number=number):
                self.refused(BadTables, least, 2, wrong)
        self.refused(BadTables, least, 2, ([0, 1], [1, 0]))
        self.refused(BadTables, least, 2, {0: [0, 1], 1: [1, 0]})

    def test_no_table(self):
        for colours in [2, 3, 256, 257, 10 ** 30]:
            self.refused(BadTables, least, colours, [])

    def test_a_table_that_is_no_list_of_colours(self):
        for colours, players in [(2, 1), (2, 2), (3, 1), (3, 2), (2, 3)]:
            good = good_tables(colours, players)
            for which in range(players):
                for number, wrong in enumerate(no_hats(colours)):
                    with self.subTest(colours=colours, players=players, which=which, number=number):
                        self.refused(BadTables, least, colours, good[:which] + [wrong] + good[which + 1:])

    def test_one_colour_that_is_none(self):
        for colours, players in [(2, 1), (2, 2), (3, 2), (2, 3), (4, 4)]:
            wrongs = [-1, -colours, colours, colours + 1, 10 ** 5000] + no_numbers()
            for which in range(players):
                for at in range(0, due(colours, players), 1 + due(colours, players) // 9):
                    for number, wrong in enumerate(wrongs):
                        tables = strewn_tables(colours, players)
                        tables[which][at] = wrong
                        with self.subTest(colours=colours, which=which, at=at, number=number):
                            self.refused(BadTables, least, colours, tables)

    def test_a_table_of_another_length(self):
        for colours, players in TINY + SOME:
            good = strewn_tables(colours, players)
            for which in range(players):
                for table in [[], good[which][:-1], good[which] + [0], good[which] * 2, good[which] * colours]:
                    tables = good[:which] + [table] + good[which + 1:]
                    with self.subTest(colours=colours, players=players, which=which, length=len(table)):
                        self.refused(BadTables, least, colours, tables)

    def test_all_tables_of_another_length(self):
        for colours, players in TINY + SOME:
            length = due(colours, players)
            for wrong in [0, length - 1, length + 1, length * colours, length // colours]:
                with self.subTest(colours=colours, players=players, wrong=wrong):
                    self.refused(BadTables, least, colours, [[0] * wrong for player in range(players)])

    def test_a_table_too_few_or_too_many(self):
        for colours, players in TINY + SOME:
            good = strewn_tables(colours, players)
            self.refused(BadTables, least, colours, good[1:])
            self.refused(BadTables, least, colours, good + [list(good[0])])

    def test_256_ways_and_no_more(self):
        for colours, players in [(2, 8), (4, 4), (16, 2), (256, 1)]:
            self.assertEqual(colours ** players, 256)
            self.assertEqual(least(colours, good_tables(colours, players)).right, players // colours)
        for colours, players in OVER:
            self.assertGreater(colours ** players, 256)
            with self.subTest(colours=colours, players=players):
                self.refused(BadTables, least, colours, strewn_tables(colours, players))

    def test_very_many_ways(self):
        for colours in [10 ** 30, 10 ** 5000]:
            self.refused(BadTables, least, colours, [[0]])
            self.refused(BadTables, least, colours, [[0], [0]])
            self.refused(BadTables, least, colours, [[0]] * 100000)
        self.refused(BadTables, least, 2, [[0]] * 100000)
        self.refused(BadTables, least, 2, [[]] * 100000)

    def test_what_is_refused_stays_as_it_was(self):
        for wrong in [[], [[0, 1], [0, 2]], [[0, 1]], [[0], [True]], [None, 0]]:
            was = [list(table) if isinstance(table, list) else table for table in wrong]
            self.refused(BadTables, least, 2, wrong)
            self.assertEqual(wrong, was)


if __name__ == "__main__":
    unittest.main()
