import itertools
import unittest

from rehearsalday.day import answers
from tests.calls import LARGE, asked, last, piece, pieces, player, players


class Piece(unittest.TestCase):
    def test_numbers_from_0(self):
        calls = players(3) + [piece(10, [0, 2]), piece(600, [1]), piece(1, [0, 1, 2])]
        self.assertEqual(asked(calls)[3:], [[0], [1], [2]])

    def test_the_same_piece_may_be_told_twice(self):
        self.assertEqual(asked([player(), piece(10, [0]), piece(10, [0])]), [[0], [0], [1]])

    def test_minutes(self):
        for minutes, answer in ((0, -1), (1, 0), (2, 0), (599, 0), (600, 0), (601, -1), (LARGE, -1)):
            with self.subTest(minutes=minutes):
                self.assertEqual(last([piece(minutes)]), answer)
                self.assertEqual(last([player(), piece(minutes, [0])]), answer)

    def test_without_players(self):
        self.assertEqual(answers([2, 10, 0]), [1, 0])
        self.assertEqual(last(players(2) + [piece(10, [])]), 0)

    def test_players_that_there_are_not(self):
        for told in range(7):
            with self.subTest(told=told):
                self.assertEqual(last(players(told) + [piece(10, list(range(told)))]), 0)
                self.assertEqual(last(players(told) + [piece(10, [told])]), -1)
                self.assertEqual(last(players(told) + [piece(10, list(range(told + 1)))]), -1)
                self.assertEqual(last(players(told) + [piece(10, [LARGE])]), -1)

    def test_players_rise(self):
        for some in ([0], [2], [0, 1], [0, 2], [1, 2], [0, 1, 2]):
            with self.subTest(players=some):
                self.assertEqual(last(players(3) + [piece(10, some)]), 0)

    def test_players_that_do_not_rise(self):
        for some in ([1, 0], [2, 0], [2, 1, 0], [0, 2, 1], [1, 2, 0], [1, 0, 2]):
            with self.subTest(players=some):
                self.assertEqual(last(players(3) + [piece(10, some)]), -1)

    def test_players_that_stand_twice(self):
        for some in ([0, 0], [2, 2], [0, 1, 1], [0, 0, 1], [0, 1, 0]):
            with self.subTest(players=some):
                self.assertEqual(last(players(3) + [piece(10, some)]), -1)

    def test_each_list_of_up_to_three_players(self):
        for length in range(4):
            for some in itertools.product(range(5), repeat=length):
                with self.subTest(players=some):
                    right = list(some) == sorted(set(some)) and 4 not in some
                    self.assertEqual(last(players(4) + [piece(10, some)]), 0 if right else -1)

    def test_twenty_members(self):
        for some in (list(range(20)), [0] * 20, [LARGE] * 20, list(range(LARGE - 19, LARGE + 1)),
                     list(range(6)) + [LARGE] * 14):
            with self.subTest(players=some):
                calls = players(6) + [piece(10, some), piece(10, [0, 5])]
                self.assertEqual(asked(calls)[6:], [[-1], [0]])

    def test_the_sixth_and_the_seventh(self):
        self.assertEqual(asked(pieces(8)), [[0], [1], [2], [3], [4], [5], [-5], [-5]])

    def test_refused_pieces_do_not_count_among_the_6(self):
        calls = [piece(0), piece(601), piece(10, [0])] + pieces(7)
        self.assertEqual(asked(calls), [[-1], [-1], [-1], [0], [1], [2], [3], [4], [5], [-5]])

    def test_of_several_refusals_the_first(self):
        told = players(2) + pieces(6)
        for wrong in (piece(0), piece(601), piece(LARGE, [LARGE] * 20), piece(10, [2]), piece(10, [1, 0]),
                      piece(10, [0, 0]), piece(0, [0])):
            with self.subTest(piece=wrong):
                self.assertEqual(last(told + [wrong]), -1)
        self.assertEqual(last(told + [piece(10, [0, 1])]), -5)


if __name__ == "__main__":
    unittest.main()
