import itertools
import unittest

from tests.calls import LARGE, asked, last, piece, player, players


class Player(unittest.TestCase):
    def test_numbers_from_0(self):
        calls = [player(5, 0, 100), player(0, 30, 30), player(1000, 0, 3600)]
        self.assertEqual(asked(calls), [[0], [1], [2]])

    def test_the_same_player_may_be_told_twice(self):
        self.assertEqual(asked([player(5, 0, 9), player(5, 0, 9)]), [[0], [1]])

    def test_cost(self):
        for cost, answer in ((0, 0), (1, 0), (999, 0), (1000, 0), (1001, -1), (LARGE, -1)):
            with self.subTest(cost=cost):
                self.assertEqual(last([player(cost, 0, 100)]), answer)

    def test_till_beside_since(self):
        for since, till, answer in ((0, 0, 0), (0, 1, 0), (1, 0, -1), (50, 51, 0), (50, 50, 0), (50, 49, -1),
                                    (3600, 3600, 0), (3600, 3599, -1), (LARGE, 0, -1)):
            with self.subTest(since=since, till=till):
                self.assertEqual(last([player(1, since, till)]), answer)

    def test_till_at_most_3600(self):
        for since, till, answer in ((0, 3599, 0), (0, 3600, 0), (0, 3601, -1), (3601, 3601, -1), (0, LARGE, -1),
                                    (LARGE, LARGE, -1), (3601, 3600, -1)):
            with self.subTest(since=since, till=till):
                self.assertEqual(last([player(1, since, till)]), answer)

    def test_none_behind_a_piece(self):
        self.assertEqual(asked([player(), piece(10, [0]), player()]), [[0], [0], [-4]])
        self.assertEqual(asked([piece(), player()]), [[0], [-4]])

    def test_a_refused_piece_is_no_piece(self):
        self.assertEqual(asked([piece(0), player()]), [[-1], [0]])

    def test_the_sixth_and_the_seventh(self):
        self.assertEqual(asked(players(8)), [[0], [1], [2], [3], [4], [5], [-5], [-5]])

    def test_refused_players_do_not_count_among_the_6(self):
        calls = [player(1001), player(1, 5, 4)] + players(7)
        self.assertEqual(asked(calls), [[-1], [-1], [0], [1], [2], [3], [4], [5], [-5]])

    def test_of_several_refusals_the_first(self):
        for cost, since, till in ((1001, 0, 9), (1, 9, 8), (1, 0, 3601), (LARGE, LARGE, LARGE)):
            with self.subTest(cost=cost, since=since, till=till):
                wrong = player(cost, since, till)
                self.assertEqual(last([piece(), wrong]), -1)
                self.assertEqual(last(players(6) + [wrong]), -1)
                self.assertEqual(last(players(6) + [piece(), wrong]), -1)
        self.assertEqual(last(players(6) + [piece(), player()]), -4)

    def test_all_edges_together(self):
        states = (([], 0), (players(5), 5), (players(6), -5), ([piece()], -4), (players(6) + [piece()], -4))
        costs = (0, 1000, 1001, LARGE)
        minutes = (0, 1, 3599, 3600, 3601, LARGE)
        for (told, fitting), cost, since, till in itertools.product(states, costs, minutes, minutes):
            with self.subTest(told=told, cost=cost, since=since, till=till):
                fits = cost in range(0, 1001) and till in range(since, 3601)
                self.assertEqual(last(told + [player(cost, since, till)]), fitting if fits else -1)


if __name__ == "__main__":
    unittest.main()
