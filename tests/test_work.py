import itertools
import random
import unittest

from rehearsalday.day import answers
from tests.calls import (PlainDay, ahead, asked, check, last_parted, parted, piece, player, players, some_day,
                         work)


class Work(unittest.TestCase):
    def test_as_it_stands(self):
        self.assertEqual(answers([1, 5, 0, 60, 2, 10, 1, 0, 6]), [1, 0, 1, 0, 3, 50, 1, 10])

    def test_nothing_is_told(self):
        self.assertEqual(answers([6]), [3, 0, 1, 0])

    def test_players_and_no_piece(self):
        self.assertEqual(last_parted(players(6) + [work()]), (0, [[0]]))

    def test_pieces_and_no_player(self):
        self.assertEqual(last_parted([piece(10), piece(1), piece(600), work()]), (0, [[611]]))

    def test_a_player_in_nothing(self):
        calls = [player(1000), player(2), player(1000), piece(10, [1]), work()]
        self.assertEqual(last_parted(calls), (20, [[10]]))

    def test_a_piece_nobody_is_in(self):
        self.assertEqual(last_parted([player(3), piece(10, [0]), piece(50), work()]), (30, [[60]]))

    def test_one_piece(self):
        self.assertEqual(last_parted([player(3), piece(10, [0]), work()]), (30, [[10]]))

    def test_a_player_in_several_pieces(self):
        calls = [player(3), piece(10, [0]), piece(100), piece(7, [0]), piece(1, [0]), work()]
        self.assertEqual(last_parted(calls), (54, [[118]]))

    def test_a_piece_with_several_players(self):
        calls = [player(3), player(50), player(100), player(1000), piece(10, [0, 1, 3]), work()]
        self.assertEqual(last_parted(calls), (10530, [[10]]))

    def test_several_of_both(self):
        calls = [player(3), player(50), player(7), piece(10, [0, 1]), piece(20, [1, 2]), piece(40, [0, 2]), work()]
        self.assertEqual(last_parted(calls), (3 * 50 + 50 * 30 + 7 * 60, [[70]]))

    def test_a_cost_of_0(self):
        self.assertEqual(last_parted([player(0), piece(10, [0]), work()]), (0, [[10]]))
        self.assertEqual(last_parted([player(0), player(2), piece(10, [0, 1]), piece(5, [0]), work()]), (20, [[15]]))

    def test_the_most_a_day_can_cost(self):
        calls = [player(1000)] * 6 + [piece(600, range(6))] * 6 + [work()]
        self.assertEqual(last_parted(calls), (21600000, [[3600]]))

    def test_it_asks_nothing_of_the_order(self):
        told = [player(1, 3600), player(2, 0, 0), piece(10, [0, 1]), piece(20, [1])]
        self.assertEqual(last_parted(told + [ahead(0, 1), ahead(1, 0), work()]), (70, [[30]]))

    def test_it_is_what_an_order_without_waiting_costs(self):
        parts = [(30, [0]), (20, [0, 1]), (60, [1])]
        told = PlainDay([(10, 0, 3600), (1, 0, 3600)], parts).told()
        worked, right = asked(told + [work(), check([0, 1, 2])])[-2:]
        self.assertEqual((worked[0], right[2]), (580, 580))

    def test_it_grows_with_each_piece(self):
        told = [player(2), player(3)]
        calls = list(itertools.chain(told, *[[piece(10, [0]), work(), piece(1, [0, 1]), work()]] * 3))
        found = [parted(answer) for answer in asked(calls)[3::2]]
        self.assertEqual(found, [(20, [[10]]), (25, [[11]]), (45, [[21]]), (50, [[22]]), (70, [[32]]), (75, [[33]])])

    def test_days_by_chance(self):
        chance = random.Random(8)
        for turn in range(200):
            day = some_day(chance, chance.randint(0, 6), chance.randint(0, 6))
            with self.subTest(day=day.told()):
                self.assertEqual(last_parted(day.told() + [work()]), day.work())


if __name__ == "__main__":
    unittest.main()
