"""What is promised of a whole line of calls."""

import contextlib
import io
import random
import unittest

from rehearsalday.day import answers
from tests.calls import (LARGE, PlainDay, ahead, asked, begins, best, check, joined, last, parted, piece, pieces,
                         player, players, some_day, work)

ORDINARY = [0, 1, 20, 0, 3600, 1, 15, 30, 200, 2, 45, 2, 0, 1, 2, 600, 0, 2, 1, 1, 1, 3, 1, 0, 3, 0, 2, 1, 1, 0, 9,
            3, 0, 2, 0]
ORDINARY_ANSWERS = [1, 0, 1, 0, 1, 1, 1, 0, 1, 1, 1, 2, 1, 1, 1, 2, 1, -4, 1, -3, 1, 0]
# Two players, three pieces, two pairs; best, check of four orders, work.
ASKING = [1, 10, 0, 3600, 1, 1, 0, 100, 2, 30, 1, 0, 2, 60, 1, 1, 2, 20, 2, 0, 1, 3, 1, 0, 3, 1, 2,
          4, 5, 3, 1, 0, 2, 5, 3, 1, 2, 0, 5, 3, 0, 1, 2, 5, 2, 1, 0, 6]
ASKING_ANSWERS = [1, 0, 1, 1, 1, 0, 1, 1, 1, 2, 1, 1, 1, 2, 15, 580, 1, 1, 3, 1, 2, 0, 3, 60, 110, 0, 3, 0, 80, 0,
                  4, 0, 2, 3, 1, 11, 1, 1, 580, 3, 60, 110, 0, 3, 0, 80, 0, 4, 0, 2, 1, 0, 1, -1, 3, 580, 1, 110]

REFUSED = {
    "player": (player(1001), player(1, 9, 8), player(1, 0, 3601), player(LARGE, LARGE, LARGE)),
    "piece": (piece(0), piece(601), piece(10, [6]), piece(10, [0, 0]), piece(10, [1, 0]), piece(10, [0, LARGE])),
    "ahead": (ahead(0, 6), ahead(6, 0), ahead(6, 6), ahead(0, 0), ahead(LARGE, LARGE)),
    "check": (check([0]), check([0, 0]), check([6]), check([LARGE] * 20)),
}
TOLD = {
    "nothing": [],
    "players": players(3),
    "all players": players(6),
    "pieces": players(3) + [piece(5, [0, 2]), piece(7)],
    "pairs": players(3) + [piece(5, [0, 2]), piece(7), piece(9, [1]), ahead(0, 1), ahead(2, 1)],
    "all pieces": players(6) + pieces(6) + [ahead(0, 1)],
    "hours and costs": [player(3, 5, 50), player(7, 0, 12), piece(5, [1]), piece(7, [0, 1]), ahead(0, 1)],
    "none is right": [player(3, 1, 50), piece(5, [0]), piece(7, [0]), ahead(1, 0)],
}
# What can be seen of a day: how many players, pieces and pairs there are, which pairs, and what follows from all.
PROBES = (
    [player()] * 7,
    [piece(10, [number]) for number in range(6)],
    pieces(7),
    [ahead(i, j) for i in range(3) for j in range(4)] + [ahead(0, 1)],
    pieces(3) + [ahead(i, j) for i in range(3) for j in range(3)],
    [best(), work(), check([]), check([0, 1]), check([1, 0]), check([0, 1, 2]), check([2, 1, 0]), check(range(6))],
)


class Untouched(list):
    """A list that tells when somebody changes it, even for a while."""

    def refuse(self, *args, **kwargs):
        raise AssertionError("the list that was handed in is changed")

    append = clear = extend = insert = pop = remove = reverse = sort = refuse
    __setitem__ = __delitem__ = __iadd__ = __imul__ = refuse


class Line(unittest.TestCase):
    def test_each_answer_behind_how_many_numbers_it_has(self):
        self.assertEqual(answers(ORDINARY), ORDINARY_ANSWERS)

    def test_a_refusal_is_its_number_alone(self):
        self.assertEqual(answers([1, 1001, 0, 0, 2, 0, 0, 3, 0, 1, 2, 1, 0, 1, 0, 0, 0, 3, 0, 0]),
                         [1, -1, 1, -1, 1, -2, 1, 0, 1, -4, 1, -3])

    def test_forty_calls(self):
        self.assertEqual(asked([begins()] * 40), [[0]] * 40)
        self.assertEqual(asked(players(40)), [[0], [1], [2], [3], [4], [5]] + [[-5]] * 34)
        long = [piece(LARGE, [LARGE] * 20)] * 39 + [piece()]
        self.assertEqual(asked(long), [[-1]] * 39 + [[0]])

    def test_what_a_list_holds_is_not_read_as_calls(self):
        calls = players(4) + [piece(10, [0, 1, 2, 3]), piece(10, [3, 0, 1] * 6), piece(10, [0, 3])]
        self.assertEqual(asked(calls)[4:], [[0], [-1], [1]])

    def test_large_numbers(self):
        calls = [player(LARGE, LARGE, LARGE), piece(LARGE, [LARGE] * 20), ahead(LARGE, LARGE), player()]
        self.assertEqual(asked(calls), [[-1], [-1], [-2], [0]])

    def test_answers_are_a_list_of_whole_numbers(self):
        for calls in (ORDINARY, ASKING):
            given = answers(calls)
            self.assertIs(type(given), list)
            for number in given:
                self.assertIs(type(number), int)

    def test_each_list_behind_how_many_it_has(self):
        self.assertEqual(answers(ASKING), ASKING_ANSWERS)


class Asking(unittest.TestCase):
    """best, check and work among the other calls."""

    def test_while_the_day_is_told(self):
        first, second = PlainDay([(2, 0, 3600)]), PlainDay([(2, 0, 3600), (5, 10, 3600)])
        calls = [best(), player(2), work(), check([]), player(5, 10), best()]
        found = [parted(answer) for answer in asked(calls)]
        self.assertEqual(found, [PlainDay().best(), (0, []), first.work(), first.check([]), (1, []), second.best()])

    def test_behind_each_call(self):
        chance = random.Random(9)
        for turn in range(30):
            whole = some_day(chance, chance.randint(1, 3), chance.randint(1, 3))
            so_far = PlainDay()
            calls, expected = [], []
            for kept, more in ((so_far.players, whole.players), (so_far.pieces, whole.pieces),
                               (so_far.pairs, whole.pairs)):
                for told in more:
                    kept.append(told)
                    order = list(range(len(so_far.pieces)))[::-1]
                    calls += [so_far.told()[-1], best(), check(order), work()]
                    expected += [so_far.best(), so_far.check(order), so_far.work()]
            found = [parted(answer) for answer in asked(calls)]
            with self.subTest(calls=calls):
                self.assertEqual([answer for at, answer in enumerate(found) if at % 4], expected)

    def test_a_pair_told_in_between(self):
        told = [player(1), piece(1, [0]), piece(2), piece(4, [0])]
        calls = told + [best(), ahead(1, 2), best(), ahead(0, 1), best(), ahead(2, 0), best(), work()]
        found = [parted(answer) for answer in asked(calls)[4:]]
        self.assertEqual(found, [(5, [[4], [0, 2, 1], [0, 5, 0]]), (1, []), (5, [[2], [1, 0, 2], [2, 7, 0]]),
                                 (2, []), (7, [[1], [0, 1, 2], [0, 7, 2]]), (3, []), (-6, []), (5, [[7]])])

    def test_a_player_is_refused_behind_best_only_by_a_piece(self):
        self.assertEqual(asked([best(), work(), check([]), player()])[-1], [0])
        self.assertEqual(asked([piece(), best(), player()])[-1], [-4])

    def test_behind_begins_in_the_middle(self):
        chance = random.Random(10)
        for turn in range(30):
            days = [some_day(chance, chance.randint(0, 4), chance.randint(0, 4)) for day in range(2)]
            order = list(range(len(days[1].pieces)))
            calls = days[0].told() + [best(), begins()] + days[1].told() + [best(), check(order), work()]
            with self.subTest(calls=calls):
                found = [parted(answer) for answer in asked(calls)[-3:]]
                self.assertEqual(found, [days[1].best(), days[1].check(order), days[1].work()])

    def test_begins_leaves_nothing(self):
        told = [player(3, 5, 5), piece(9, [0]), ahead(0, 0), piece(9), ahead(0, 1), ahead(1, 0)]
        self.assertEqual(asked(told + [begins(), best(), check([]), check([0]), work()])[len(told):],
                         [[0], [0, 1, 1, 0], [1, 1, 0], [-1], [0, 1, 0]])
        found = asked(told + [begins(), piece(4), piece(5), best(), work()])[-2:]
        self.assertEqual(found, [[0, 1, 2, 2, 0, 1], [0, 1, 9]])

    def test_twice_in_a_row(self):
        for name, told in TOLD.items():
            for call in (best(), work(), check([]), check([0, 1]), check([1, 0]), check(range(6))):
                with self.subTest(told=name, call=call):
                    found = asked(told + [call] * 3)[len(told):]
                    self.assertEqual(found, found[:1] * 3)

    def test_they_change_nothing(self):
        for name, told in TOLD.items():
            for call in (best(), work(), check([]), check([0, 1]), check([1, 0]), check(range(6))):
                for probe in PROBES:
                    with self.subTest(told=name, call=call, probe=probe):
                        found = asked(told + [call] + probe)
                        del found[len(told)]
                        self.assertEqual(found, asked(told + probe))

    def test_forty_calls_mostly_best(self):
        chance = random.Random(11)
        wide = PlainDay([(who, 0, 3600) for who in range(6)], [(60, [a, b]) for a, b in
                                                                 ((0, 3), (1, 4), (2, 5), (0, 1), (2, 3), (4, 5))])
        for day in [wide] + [some_day(chance, 6, 6) for turn in range(3)]:
            told = day.told()
            found = asked(told + [best()] * (40 - len(told)))[len(told):]
            with self.subTest(day=told):
                self.assertEqual([parted(answer) for answer in found], [day.best()] * (40 - len(told)))

    def test_forty_calls_of_best(self):
        self.assertEqual(asked([best()] * 40), [[0, 1, 1, 0]] * 40)

    def test_forty_long_calls_of_check(self):
        self.assertEqual(asked(pieces(1) + [check([LARGE] * 20)] * 38 + [check([0])]),
                         [[0]] + [[-1]] * 38 + [[1, 1, 0]])


class Refusals(unittest.TestCase):
    def test_all_is_as_it_was(self):
        refused_calls = [call for calls in REFUSED.values() for call in calls]
        for name, told in TOLD.items():
            for refused in refused_calls:
                self.assertLess(last(told + [refused]), 0)
                for probe in PROBES:
                    with self.subTest(told=name, refused=refused, probe=probe):
                        found = asked(told + [refused] + probe)
                        del found[len(told)]
                        self.assertEqual(found, asked(told + probe))

    def test_one_too_many_changes_nothing(self):
        full = players(6) + pieces(6) + [ahead(0, 1)]
        for refused in (player(), piece(), ahead(0, 1)):
            with self.subTest(refused=refused):
                found = asked(full + [refused, ahead(0, 1), ahead(1, 0), ahead(6, 0), piece(), player()])
                self.assertEqual(found[len(full) + 1:], [[-3], [2], [-2], [-5], [-4]])

    def test_best_check_and_work_behind_one_too_many(self):
        crew = [player(who, 0, 3600 - who) for who in range(6)]
        full = crew + [piece(10 + number, [number, 5]) for number in range(5)] + [piece(9, [0, 1])] + [ahead(4, 0)]
        asking = [best(), check([4, 3, 2, 1, 0, 5]), check(range(6)), work()]
        for refused in (player(), piece(600, range(6)), ahead(4, 0), ahead(3, 3), check(range(7))):
            with self.subTest(refused=refused):
                self.assertEqual(asked(full + [refused] + asking)[-4:], asked(full + asking)[-4:])

    def test_a_seventh_player_is_not_there(self):
        self.assertEqual(asked(players(7) + [piece(10, [6]), piece(10, [5])])[6:], [[-5], [-1], [0]])

    def test_a_player_behind_a_piece_is_not_there(self):
        self.assertEqual(asked([piece(), player(), piece(10, [0])]), [[0], [-4], [-1]])


class WholeFunction(unittest.TestCase):
    def test_what_is_handed_in_stays_as_it_was(self):
        for calls in (ORDINARY, ASKING, joined(players(2) + [piece(LARGE, [LARGE] * 20), piece(10, [0, 1])])):
            handed = Untouched(calls)
            answers(handed)
            self.assertEqual(list(handed), calls)

    def test_what_is_given_back_is_new_each_time(self):
        for calls, expected in ((ORDINARY, ORDINARY_ANSWERS), (ASKING, ASKING_ANSWERS)):
            first = answers(calls)
            first.clear()
            self.assertEqual(answers(calls), expected)

    def test_nothing_is_kept(self):
        for told in TOLD.values():
            for probe in PROBES:
                before = asked(probe)
                asked(told + probe)
                asked([player(), piece(10, [0]), piece(), ahead(0, 1)])
                self.assertEqual(asked(probe), before)
        for calls in (ORDINARY, ASKING):
            self.assertEqual(answers(calls), answers(calls))

    def test_nothing_is_printed(self):
        out, err = io.StringIO(), io.StringIO()
        with contextlib.redirect_stdout(out), contextlib.redirect_stderr(err):
            answers(ORDINARY)
            answers(ASKING)
        self.assertEqual((out.getvalue(), err.getvalue()), ("", ""))


if __name__ == "__main__":
    unittest.main()
