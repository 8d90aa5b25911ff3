import random
import unittest

from rehearsalday.day import answers
from tests.calls import (PlainDay, ahead, asked, best, last, last_parted, parted, piece, pieces, player, players,
                         some_day, work)

# Two who share a piece: two orders keep both of them from waiting.
SHARED = PlainDay([(10, 0, 3600), (1, 0, 3600)], [(30, [0]), (60, [1]), (20, [0, 1])])


def in_turn(count, turns):
    """A day of pieces of 10 minutes, each with a player of its own, whose turn is at one time alone."""
    crew = [(3, 10 * turn, 10 * turn + 10) for turn in turns]
    return PlainDay(crew, [(10, [who]) for who in range(count)])


class Edges(unittest.TestCase):
    def test_nothing_is_told(self):
        self.assertEqual(answers([4]), [4, 0, 1, 1, 0])
        self.assertEqual(answers([0, 4]), [1, 0, 4, 0, 1, 1, 0])

    def test_players_and_no_piece(self):
        self.assertEqual(asked(players(1) + [best()])[-1], [0, 1, 1, 0, 0])
        self.assertEqual(asked(players(6) + [best()])[-1], [0, 1, 1, 0] + [0] * 6)
        self.assertEqual(asked([player(1000, 0, 0), player(1000, 3600, 3600), best()])[-1], [0, 1, 1, 0, 0, 0])

    def test_pieces_and_no_player(self):
        for count, orders in ((1, 1), (2, 2), (3, 6), (4, 24), (5, 120), (6, 720)):
            with self.subTest(count=count):
                self.assertEqual(last_parted(pieces(count) + [best()]), (0, [[orders], list(range(count))]))

    def test_pairs_and_no_player(self):
        self.assertEqual(last_parted(pieces(3) + [ahead(2, 0), best()]), (0, [[3], [1, 2, 0]]))

    def test_a_player_in_nothing(self):
        calls = [player(5), player(1000, 3600, 3600), player(7), player(1000, 0, 0)]
        calls += [piece(10, [0, 2]), piece(20, [2]), best()]
        self.assertEqual(asked(calls)[-1], [260, 1, 2, 2, 0, 1, 3, 0, 10, 0, 0, 3, 0, 30, 0, 0])

    def test_a_piece_nobody_is_in(self):
        calls = [player(4), piece(10, [0]), piece(600), piece(20, [0]), best()]
        self.assertEqual(last_parted(calls), (120, [[4], [0, 2, 1], [0, 30, 0]]))

    def test_a_piece_nobody_is_in_makes_others_later(self):
        calls = [player(4, 600), piece(10, [0]), piece(600), best()]
        self.assertEqual(last_parted(calls), (40, [[1], [1, 0], [600, 610, 0]]))

    def test_one_piece(self):
        self.assertEqual(last_parted([piece(7), best()]), (0, [[1], [0]]))
        self.assertEqual(last_parted([player(3), piece(7, [0]), best()]), (21, [[1], [0], [0, 7, 0]]))
        self.assertEqual(answers([1, 3, 0, 7, 2, 7, 1, 0, 4]), [1, 0, 1, 0, 9, 21, 1, 1, 1, 0, 3, 0, 7, 0])

    def test_the_most_a_day_can_cost(self):
        crew = range(6)
        calls = [player(1000) for who in crew] + [piece(600, crew) for number in crew] + [best()]
        self.assertEqual(last_parted(calls), (21600000, [[720], list(crew)] + [[0, 3600, 0]] * 6))


class Cheapest(unittest.TestCase):
    def test_nobody_waits(self):
        self.assertEqual(last_parted(SHARED.told() + [best()]), (580, [[2], [0, 2, 1], [0, 50, 0], [30, 110, 0]]))

    def test_the_pairs_leave_one(self):
        calls = SHARED.told() + [ahead(1, 0), best()]
        self.assertEqual(last_parted(calls), (580, [[1], [1, 2, 0], [60, 110, 0], [0, 80, 0]]))

    def test_somebody_has_to_wait(self):
        calls = SHARED.told() + [ahead(0, 1), ahead(1, 2), best()]
        self.assertEqual(last_parted(calls), (1180, [[1], [0, 1, 2], [0, 110, 60], [30, 110, 0]]))

    def test_who_costs_less_waits(self):
        ring = [(10, [0, 1]), (10, [1, 2]), (10, [0, 2])]
        for costs, order in (((5, 9, 9), [0, 1, 2]), ((9, 5, 9), [0, 2, 1]), ((9, 9, 5), [1, 0, 2])):
            with self.subTest(costs=costs):
                day = PlainDay([(cost, 0, 3600) for cost in costs], ring)
                number, lists = last_parted(day.told() + [best()])
                self.assertEqual((number, lists[:2]), (9 * 20 * 2 + 5 * 30, [[2], order]))
                self.assertEqual([stay[2] for stay in lists[2:]], [10 * (cost == 5) for cost in costs])

    def test_what_costs_least_is_not_right(self):
        # Without the second player's hours the first one would not have to wait.
        calls = [player(10), player(1, 10, 20), piece(10, [0]), piece(10, [0]), piece(10, [1])]
        self.assertEqual(last_parted(calls + [best()]), (310, [[2], [0, 2, 1], [0, 30, 10], [10, 20, 0]]))

    def test_a_cost_of_0(self):
        calls = [player(0), player(0, 10), piece(10, [0]), piece(10, [1]), piece(10, [0]), best()]
        self.assertEqual(last_parted(calls), (0, [[4], [0, 1, 2], [0, 30, 10], [10, 20, 0]]))

    def test_waiting_twice(self):
        calls = [player(1), player(0, 10, 70)] + [piece(10, [0]), piece(20, [1]), piece(10, [0]), piece(30, [1])]
        calls += [piece(10, [0]), ahead(0, 1), ahead(1, 2), ahead(2, 3), ahead(3, 4), best()]
        self.assertEqual(last_parted(calls), (80, [[1], [0, 1, 2, 3, 4], [0, 80, 50], [10, 70, 10]]))

    def test_several_cost_as_little(self):
        crew = [(1, 0, 3600)] * 2
        for count, orders in ((2, 2), (3, 4), (4, 12), (5, 48), (6, 240)):
            # Two pieces of one player beside each other; the others are nobody's.
            parts = [(10, [0])] * 2 + [(10, [])] * (count - 2)
            with self.subTest(count=count):
                expected = (20, [[orders], list(range(count)), [0, 20, 0], []])
                self.assertEqual(last_parted(PlainDay(crew, parts).told() + [best()]), expected)

    def test_the_earliest_is_not_the_first_told(self):
        calls = [player(1), piece(10, [0]), piece(10), piece(10), piece(10, [0]), best()]
        self.assertEqual(last_parted(calls), (20, [[12], [0, 3, 1, 2], [0, 20, 0]]))


class OneRightOrder(unittest.TestCase):
    def test_the_last_by_pairs(self):
        for count in range(2, 7):
            calls = [player(2), piece(10, [0])] + pieces(count - 1)
            calls += [ahead(number + 1, number) for number in range(count - 1)] + [best()]
            with self.subTest(count=count):
                down = list(range(count))[::-1]
                self.assertEqual(last_parted(calls), (20, [[1], down, [10 * count - 10, 10 * count, 0]]))

    def test_the_last_by_players(self):
        for count in range(2, 7):
            down = list(range(count))[::-1]
            with self.subTest(count=count):
                stays = [[10 * turn, 10 * turn + 10, 0] for turn in down]
                self.assertEqual(last_parted(in_turn(count, down).told() + [best()]), (30 * count, [[1], down] + stays))

    def test_each_of_four(self):
        for order in PlainDay([], [()] * 4).orders():
            turns = [order.index(number) for number in range(4)]
            with self.subTest(order=order):
                number, lists = last_parted(in_turn(4, turns).told() + [best()])
                self.assertEqual((number, lists[:2]), (120, [[1], order]))


class NoneIsRight(unittest.TestCase):
    def test_it_is_the_number_alone(self):
        self.assertEqual(answers([1, 1, 1, 9, 2, 5, 1, 0, 4]), [1, 0, 1, 0, 1, -6])

    def test_pairs_in_a_ring(self):
        for count in range(2, 7):
            around = [ahead(number, (number + 1) % count) for number in range(count)]
            for told in (pieces(count), pieces(6)):
                with self.subTest(count=count, pieces=len(told)):
                    self.assertEqual(last(told + around + [best()]), -6)
                    self.assertGreaterEqual(last_parted(told + around[:-1] + [best()])[0], 0)

    def test_somebody_cannot_be_there_early_enough(self):
        # At the latest, the piece is the last one.
        for since, number in ((30, 10), (31, -6), (3600, -6)):
            with self.subTest(since=since):
                calls = [player(1, since), piece(10, [0]), piece(20), piece(10), best()]
                self.assertEqual(last_parted(calls)[0], number)
        self.assertEqual(last([player(1, 1), piece(10, [0]), best()]), -6)
        self.assertEqual(last([player(1, 1)] + [piece(10, [0])] * 6 + [best()]), -6)

    def test_somebody_must_be_gone_too_early(self):
        for till, number in ((30, 30), (29, -6), (0, -6)):
            with self.subTest(till=till):
                calls = [player(1, 0, till), piece(10, [0]), piece(600), piece(20, [0]), best()]
                self.assertEqual(last_parted(calls)[0], number)
        self.assertEqual(last([player(0, 0, 0), piece(1, [0]), best()]), -6)
        self.assertEqual(last([player(0, 0, 3599)] + [piece(600, [0])] * 6 + [best()]), -6)
        self.assertEqual(last_parted([player(0, 0, 3600)] + [piece(600, [0])] * 6 + [best()])[0], 0)

    def test_two_want_the_same_hour(self):
        calls = [player(1, 0, 10), player(1, 0, 10), piece(10, [0]), piece(10, [1]), best()]
        self.assertEqual(last(calls), -6)

    def test_a_pair_against_a_player(self):
        calls = [player(1, 0, 10), piece(10, [0]), piece(10)]
        self.assertEqual(last_parted(calls + [best()])[0], 10)
        self.assertEqual(last(calls + [ahead(1, 0), best()]), -6)


class PlainSearch(unittest.TestCase):
    def test_days_by_chance(self):
        chance = random.Random(4)
        numbers, counts, firsts = [], [], []
        for count in range(2, 7):
            for turn in range(40 if count < 6 else 20):
                day = some_day(chance, chance.randint(0, 6), count)
                with self.subTest(day=day.told()):
                    found = last_parted(day.told() + [best()])
                    self.assertEqual(found, day.best())
                numbers.append(found[0])
                counts += found[1][:1]
                firsts += found[1][1:2]
        # The days have to be of all sorts, or else they would show little.
        self.assertGreater(numbers.count(-6), 5)
        self.assertGreater(len([number for number in numbers if number > 0]), 50)
        self.assertGreater(counts.count([1]), 20)
        self.assertGreater(len([count for count in counts if count[0] > 2]), 20)
        self.assertGreater(len([order for order in firsts if order != sorted(order)]), 50)

    def test_paid_is_what_is_worked_and_what_is_waited(self):
        chance = random.Random(5)
        for turn in range(100):
            day = some_day(chance, chance.randint(1, 6), chance.randint(1, 5))
            with self.subTest(day=day.told()):
                found, worked = [parted(answer) for answer in asked(day.told() + [best(), work()])[-2:]]
                if found[0] != -6:
                    waited = sum(told[0] * stay[2] for told, stay in zip(day.players, found[1][2:]) if stay)
                    self.assertEqual(found[0], worked[0] + waited)


if __name__ == "__main__":
    unittest.main()
