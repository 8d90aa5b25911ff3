import itertools
import unittest

from tests.calls import LARGE, ahead, asked, last, piece, pieces


class Ahead(unittest.TestCase):
    def test_how_many_pairs_are_told(self):
        calls = pieces(3) + [ahead(0, 1), ahead(1, 2), ahead(0, 2)]
        self.assertEqual(asked(calls)[3:], [[1], [2], [3]])

    def test_no_such_piece(self):
        for i, j in ((0, 2), (2, 0), (2, 2), (2, 3), (LARGE, 0), (0, LARGE), (LARGE, LARGE)):
            with self.subTest(i=i, j=j):
                self.assertEqual(last(pieces(2) + [ahead(i, j)]), -2)
        self.assertEqual(last([ahead(0, 1)]), -2)
        self.assertEqual(last([ahead(0, 0)]), -2)

    def test_the_last_piece_is_one(self):
        self.assertEqual(last(pieces(2) + [ahead(0, 1)]), 1)
        self.assertEqual(last(pieces(2) + [ahead(1, 0)]), 1)
        self.assertEqual(last(pieces(6) + [ahead(5, 0)]), 1)
        self.assertEqual(last(pieces(6) + [ahead(6, 0)]), -2)

    def test_a_piece_is_not_ahead_of_itself(self):
        self.assertEqual(asked(pieces(2) + [ahead(0, 0), ahead(1, 1)])[2:], [[-3], [-3]])

    def test_a_pair_told_already(self):
        calls = pieces(3) + [ahead(0, 1), ahead(0, 1), ahead(1, 2), ahead(0, 1), ahead(1, 2)]
        self.assertEqual(asked(calls)[3:], [[1], [-3], [2], [-3], [-3]])

    def test_the_same_pair_the_other_way_round(self):
        calls = pieces(2) + [ahead(0, 1), ahead(1, 0), ahead(1, 0), ahead(0, 1)]
        self.assertEqual(asked(calls)[2:], [[1], [2], [-3], [-3]])

    def test_round_in_a_ring(self):
        calls = pieces(3) + [ahead(0, 1), ahead(1, 2), ahead(2, 0)]
        self.assertEqual(asked(calls)[3:], [[1], [2], [3]])

    def test_a_piece_told_later(self):
        calls = [piece(), ahead(0, 1), piece(), ahead(0, 1), piece(), ahead(2, 1)]
        self.assertEqual(asked(calls), [[0], [-2], [1], [1], [2], [2]])

    def test_all_pairs_of_six_pieces(self):
        pairs = list(itertools.permutations(range(6), 2))
        calls = pieces(6) + [ahead(i, j) for i, j in pairs] + [ahead(5, 4), ahead(4, 4), ahead(6, 6), ahead(0, 1)]
        self.assertEqual(len(calls), 40)
        self.assertEqual(asked(calls)[6:36], [[count] for count in range(1, 31)])
        self.assertEqual(asked(calls)[36:], [[-3], [-3], [-2], [-3]])

    def test_of_several_refusals_the_first(self):
        self.assertEqual(last(pieces(2) + [ahead(2, 2)]), -2)
        self.assertEqual(last(pieces(2) + [ahead(LARGE, LARGE)]), -2)


if __name__ == "__main__":
    unittest.main()
