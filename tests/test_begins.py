import unittest

from rehearsalday.day import answers
from tests.calls import ahead, asked, begins, piece, pieces, player, players


class Begins(unittest.TestCase):
    def test_it_answers_0(self):
        self.assertEqual(answers([0]), [1, 0])
        self.assertEqual(answers([0, 0, 0]), [1, 0, 1, 0, 1, 0])

    def test_a_day_has_nothing_at_its_beginning(self):
        self.assertEqual(asked([piece(10, [0]), ahead(0, 0)]), [[-1], [-2]])
        self.assertEqual(asked([player()]), [[0]])
        self.assertEqual(asked([piece()]), [[0]])

    def test_players_are_gone(self):
        calls = players(6) + [begins(), piece(10, [0]), player(), piece(10, [0])]
        self.assertEqual(asked(calls)[6:], [[0], [-1], [0], [0]])

    def test_a_player_may_be_told_again(self):
        self.assertEqual(asked([piece(), player(), begins(), player()]), [[0], [-4], [0], [0]])

    def test_pieces_are_gone(self):
        calls = pieces(6) + [begins(), ahead(0, 1), piece(), piece(), ahead(0, 1)]
        self.assertEqual(asked(calls)[6:], [[0], [-2], [0], [1], [1]])

    def test_pairs_are_gone(self):
        calls = pieces(2) + [ahead(0, 1), ahead(1, 0), begins()] + pieces(2) + [ahead(0, 1)]
        self.assertEqual(asked(calls)[2:], [[1], [2], [0], [0], [1], [1]])


if __name__ == "__main__":
    unittest.main()
