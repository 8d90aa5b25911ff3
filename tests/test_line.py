"""What is promised of a whole line of calls."""

import contextlib
import io
import unittest

from rehearsalday.day import answers
from tests.calls import LARGE, ahead, asked, begins, joined, last, piece, pieces, player, players

ORDINARY = [0, 1, 20, 0, 3600, 1, 15, 30, 200, 2, 45, 2, 0, 1, 2, 600, 0, 2, 1, 1, 1, 3, 1, 0, 3, 0, 2, 1, 1, 0, 9,
            3, 0, 2, 0]
ORDINARY_ANSWERS = [1, 0, 1, 0, 1, 1, 1, 0, 1, 1, 1, 2, 1, 1, 1, 2, 1, -4, 1, -3, 1, 0]

REFUSED = {
    "player": (player(1001), player(1, 9, 8), player(1, 0, 3601), player(LARGE, LARGE, LARGE)),
    "piece": (piece(0), piece(601), piece(10, [6]), piece(10, [0, 0]), piece(10, [1, 0]), piece(10, [0, LARGE])),
    "ahead": (ahead(0, 6), ahead(6, 0), ahead(6, 6), ahead(0, 0), ahead(LARGE, LARGE)),
}
TOLD = {
    "nothing": [],
    "players": players(3),
    "all players": players(6),
    "pieces": players(3) + [piece(5, [0, 2]), piece(7)],
    "pairs": players(3) + [piece(5, [0, 2]), piece(7), piece(9, [1]), ahead(0, 1), ahead(2, 1)],
    "all pieces": players(6) + pieces(6) + [ahead(0, 1)],
}
# What can be seen of a day: how many players, pieces and pairs there are, and which pairs.
PROBES = (
    [player()] * 7,
    [piece(10, [number]) for number in range(6)],
    pieces(7),
    [ahead(i, j) for i in range(3) for j in range(4)] + [ahead(0, 1)],
    pieces(3) + [ahead(i, j) for i in range(3) for j in range(3)],
)


class Untouched(list):
    """A list that tells when somebody changes it, even for a while."""

    def refuse(self, *args, **kwargs):
        raise AssertionError("the list that was handed in is changed")

    append = clear = extend = insert = pop = remove = reverse = sort = refuse
    __setitem__ = __delitem__ = __iadd__ = __imul__ = refuse


class Line(unittest.TestCase):
    def test_each_answer_behind_how_many_numbers_it_has(self):
        self.assertEqual(answers(ORDINARY), ORDINARY_ANSWERS)

    def test_a_refusal_is_its_number_alone(self):
        self.assertEqual(answers([1, 1001, 0, 0, 2, 0, 0, 3, 0, 1, 2, 1, 0, 1, 0, 0, 0, 3, 0, 0]),
                         [1, -1, 1, -1, 1, -2, 1, 0, 1, -4, 1, -3])

    def test_forty_calls(self):
        self.assertEqual(asked([begins()] * 40), [[0]] * 40)
        self.assertEqual(asked(players(40)), [[0], [1], [2], [3], [4], [5]] + [[-5]] * 34)
        long = [piece(LARGE, [LARGE] * 20)] * 39 + [piece()]
        self.assertEqual(asked(long), [[-1]] * 39 + [[0]])

    def test_what_a_list_holds_is_not_read_as_calls(self):
        calls = players(4) + [piece(10, [0, 1, 2, 3]), piece(10, [3, 0, 1] * 6), piece(10, [0, 3])]
        self.assertEqual(asked(calls)[4:], [[0], [-1], [1]])

    def test_large_numbers(self):
        calls = [player(LARGE, LARGE, LARGE), piece(LARGE, [LARGE] * 20), ahead(LARGE, LARGE), player()]
        self.assertEqual(asked(calls), [[-1], [-1], [-2], [0]])

    def test_answers_are_a_list_of_whole_numbers(self):
        given = answers(ORDINARY)
        self.assertIs(type(given), list)
        for number in given:
            self.assertIs(type(number), int)


class Refusals(unittest.TestCase):
    def test_all_is_as_it_was(self):
        refused_calls = [call for calls in REFUSED.values() for call in calls]
        for name, told in TOLD.items():
            for refused in refused_calls:
                self.assertLess(last(told + [refused]), 0)
                for probe in PROBES:
                    with self.subTest(told=name, refused=refused, probe=probe):
                        found = asked(told + [refused] + probe)
                        del found[len(told)]
                        self.assertEqual(found, asked(told + probe))

    def test_one_too_many_changes_nothing(self):
        full = players(6) + pieces(6) + [ahead(0, 1)]
        for refused in (player(), piece(), ahead(0, 1)):
            with self.subTest(refused=refused):
                found = asked(full + [refused, ahead(0, 1), ahead(1, 0), ahead(6, 0), piece(), player()])
                self.assertEqual(found[len(full) + 1:], [[-3], [2], [-2], [-5], [-4]])

    def test_a_seventh_player_is_not_there(self):
        self.assertEqual(asked(players(7) + [piece(10, [6]), piece(10, [5])])[6:], [[-5], [-1], [0]])

    def test_a_player_behind_a_piece_is_not_there(self):
        self.assertEqual(asked([piece(), player(), piece(10, [0])]), [[0], [-4], [-1]])


class WholeFunction(unittest.TestCase):
    def test_what_is_handed_in_stays_as_it_was(self):
        for calls in (ORDINARY, joined(players(2) + [piece(LARGE, [LARGE] * 20), piece(10, [0, 1])])):
            handed = Untouched(calls)
            answers(handed)
            self.assertEqual(list(handed), calls)

    def test_what_is_given_back_is_new_each_time(self):
        first = answers(ORDINARY)
        first.clear()
        self.assertEqual(answers(ORDINARY), ORDINARY_ANSWERS)

    def test_nothing_is_kept(self):
        for told in TOLD.values():
            for probe in PROBES:
                before = asked(probe)
                asked(told + probe)
                asked([player(), piece(10, [0]), piece(), ahead(0, 1)])
                self.assertEqual(asked(probe), before)
        self.assertEqual(answers(ORDINARY), answers(ORDINARY))

    def test_nothing_is_printed(self):
        out, err = io.StringIO(), io.StringIO()
        with contextlib.redirect_stdout(out), contextlib.redirect_stderr(err):
            answers(ORDINARY)
        self.assertEqual((out.getvalue(), err.getvalue()), ("", ""))


if __name__ == "__main__":
    unittest.main()
