import itertools
import random
import unittest

from rehearsalday.day import answers
from tests.calls import (LARGE, PlainDay, ahead, asked, check, last, last_parted, parted, piece, pieces, player,
                         players, some_day)

TWO = [player(5), player(3), piece(10, [0, 1]), piece(20), piece(30, [0])]


def minute_by_minute(day, order):
    """The players' lists, found by looking who plays in each minute of the day."""
    playing = [day.pieces[number][1] for number in order for minute in range(day.pieces[number][0])]
    stays = []
    for who in range(len(day.players)):
        minutes = [minute for minute, whom in enumerate(playing) if who in whom]
        there = range(minutes[0], minutes[-1] + 1) if minutes else []
        waiting = [minute for minute in there if minute not in minutes]
        stays.append([there[0], there[-1] + 1, len(waiting)] if minutes else [])
    return stays


class Right(unittest.TestCase):
    def test_the_cost_and_the_players(self):
        self.assertEqual(last_parted(TWO + [check([0, 1, 2])]), (1, [[330], [0, 60, 20], [0, 10, 0]]))
        self.assertEqual(last_parted(TWO + [check([1, 0, 2])]), (1, [[230], [20, 60, 0], [20, 30, 0]]))
        self.assertEqual(last_parted(TWO + [check([2, 1, 0])]), (1, [[330], [0, 60, 20], [50, 60, 0]]))

    def test_as_it_stands(self):
        self.assertEqual(answers([1, 5, 0, 60, 2, 10, 1, 0, 5, 1, 0]), [1, 0, 1, 0, 7, 1, 1, 50, 3, 0, 10, 0])

    def test_nothing_is_told(self):
        self.assertEqual(answers([5, 0]), [3, 1, 1, 0])

    def test_players_and_no_piece(self):
        self.assertEqual(asked([player(9, 5, 5), player(9, 0, 0), check([])])[-1], [1, 1, 0, 0, 0])

    def test_pieces_and_no_player(self):
        for order in itertools.permutations(range(4)):
            self.assertEqual(last_parted(pieces(4) + [check(order)]), (1, [[0]]))

    def test_a_player_in_nothing(self):
        calls = [player(1000, 3600, 3600), player(2), player(1000, 0, 0), piece(10, [1]), check([0])]
        self.assertEqual(asked(calls)[-1], [1, 1, 20, 0, 3, 0, 10, 0, 0])

    def test_a_piece_nobody_is_in(self):
        calls = [player(2), piece(10, [0]), piece(600), piece(10, [0])]
        self.assertEqual(last_parted(calls + [check([0, 1, 2])]), (1, [[1240], [0, 620, 600]]))
        self.assertEqual(last_parted(calls + [check([1, 0, 2])]), (1, [[40], [600, 620, 0]]))

    def test_one_piece(self):
        self.assertEqual(last_parted([piece(), check([0])]), (1, [[0]]))
        self.assertEqual(last_parted([player(7), piece(9, [0]), check([0])]), (1, [[63], [0, 9, 0]]))

    def test_it_need_not_be_the_cheapest(self):
        calls = [player(1), piece(1, [0]), piece(600), piece(1, [0]), check([0, 1, 2])]
        self.assertEqual(last_parted(calls), (1, [[602], [0, 602, 600]]))

    def test_who_waits_several_times(self):
        calls = [player(1), player(0), piece(1, [0]), piece(2, [1]), piece(4, [0]), piece(8), piece(16, [0, 1])]
        self.assertEqual(last_parted(calls + [check([0, 1, 2, 3, 4])]), (1, [[31], [0, 31, 10], [1, 31, 12]]))
        self.assertEqual(last_parted(calls + [check([3, 4, 1, 0, 2])]), (1, [[23], [8, 31, 2], [8, 26, 0]]))

    def test_minute_by_minute(self):
        chance = random.Random(6)
        for turn in range(60):
            count = chance.randint(1, 6)
            parts = [(chance.randint(1, 9), sorted(chance.sample(range(4), chance.randint(0, 4))))
                     for number in range(count)]
            day = PlainDay([(chance.randint(0, 9), 0, 3600) for who in range(4)], parts)
            order = chance.sample(range(count), count)
            stays = minute_by_minute(day, order)
            cost = sum(told[0] * (stay[1] - stay[0]) for told, stay in zip(day.players, stays) if stay)
            with self.subTest(day=day.told(), order=order):
                self.assertEqual(last_parted(day.told() + [check(order)]), (1, [[cost]] + stays))


class Wrong(unittest.TestCase):
    def test_as_it_stands(self):
        self.assertEqual(answers([2, 10, 0, 2, 10, 0, 3, 1, 0, 5, 2, 0, 1])[-5:], [4, 0, 2, 1, 0])

    def test_a_piece_behind(self):
        calls = pieces(3) + [ahead(1, 2)]
        for order in itertools.permutations(range(3)):
            number = int(order.index(1) < order.index(2))
            with self.subTest(order=order):
                self.assertEqual(last_parted(calls + [check(order)]), (number, [[0]] if number else [[1, 0]]))

    def test_ahead_need_not_be_just_ahead(self):
        self.assertEqual(last_parted(pieces(3) + [ahead(2, 0), check([2, 1, 0])]), (1, [[0]]))

    def test_which_pair(self):
        calls = pieces(4) + [ahead(2, 3), ahead(0, 1), ahead(1, 2), ahead(0, 3)]
        for order, which in (([0, 1, 3, 2], 0), ([1, 0, 2, 3], 1), ([0, 2, 1, 3], 2), ([3, 2, 1, 0], 0),
                             ([2, 3, 1, 0], 1), ([2, 3, 0, 1], 2), ([1, 2, 3, 0], 1)):
            with self.subTest(order=order):
                self.assertEqual(last_parted(calls + [check(order)]), (0, [[1, which]]))
        self.assertEqual(last_parted(calls + [check([0, 1, 2, 3])]), (1, [[0]]))

    def test_pairs_are_counted_as_they_were_told(self):
        calls = pieces(3) + [ahead(2, 1), ahead(0, 0), ahead(2, 1), ahead(0, 9), ahead(1, 0), check([2, 0, 1])]
        self.assertEqual(last_parted(calls), (0, [[1, 1]]))

    def test_the_last_of_sixteen_pairs(self):
        calls = pieces(6) + [ahead(i, j) for i, j in itertools.combinations(range(6), 2)] + [ahead(5, 0)]
        self.assertEqual(last_parted(calls + [check(range(6))]), (0, [[1, 15]]))

    def test_the_same_pair_both_ways(self):
        calls = pieces(2) + [ahead(1, 0), ahead(0, 1)]
        self.assertEqual(last_parted(calls + [check([0, 1])]), (0, [[1, 0]]))
        self.assertEqual(last_parted(calls + [check([1, 0])]), (0, [[1, 1]]))

    def test_who_comes_before_they_can(self):
        for since, expected in ((19, (1, [[10], [20, 30, 0]])), (20, (1, [[10], [20, 30, 0]])), (21, (0, [[2, 0]])),
                                (3600, (0, [[2, 0]]))):
            with self.subTest(since=since):
                calls = [player(1, since), piece(10, [0]), piece(20), check([1, 0])]
                self.assertEqual(last_parted(calls), expected)

    def test_minute_0_is_not_before_minute_0(self):
        self.assertEqual(last_parted([player(1, 0), piece(10, [0]), check([0])])[0], 1)
        self.assertEqual(last_parted([player(1, 1), piece(10, [0]), check([0])]), (0, [[2, 0]]))

    def test_who_goes_after_they_must_be_done(self):
        for till, expected in ((31, (1, [[10], [20, 30, 0]])), (30, (1, [[10], [20, 30, 0]])), (29, (0, [[3, 0]])),
                               (0, (0, [[3, 0]]))):
            with self.subTest(till=till):
                calls = [player(1, 0, till), piece(10, [0]), piece(20), check([1, 0])]
                self.assertEqual(last_parted(calls), expected)

    def test_the_end_of_the_longest_day(self):
        for till, number in ((3600, 1), (3599, 0)):
            calls = [player(1), player(1, 0, till)] + [piece(600, [1])] * 6 + [check(range(6))]
            self.assertEqual(last_parted(calls)[0], number)
        self.assertEqual(last_parted(calls)[1], [[3, 1]])

    def test_first_and_last_piece_count(self):
        # They come with the piece that begins first, and go with the one that ends last, whichever are told first.
        parts = [piece(10, [0]), piece(10, [0]), piece(10, [0])]
        for order in itertools.permutations(range(3)):
            self.assertEqual(last_parted([player(1, 1)] + parts + [check(order)]), (0, [[2, 0]]))
            self.assertEqual(last_parted([player(1, 0, 29)] + parts + [check(order)]), (0, [[3, 0]]))
            self.assertEqual(last_parted([player(1, 0, 30)] + parts + [check(order)]), (1, [[30], [0, 30, 0]]))

    def test_who(self):
        for who in range(6):
            for hours, kind in (((1, 3600), 2), ((0, 9), 3)):
                crew = players(6)
                crew[who] = player(1, *hours)
                with self.subTest(who=who, kind=kind):
                    self.assertEqual(last_parted(crew + [piece(10, range(6)), check([0])]), (0, [[kind, who]]))

    def test_who_is_in_nothing_is_never_wrong(self):
        calls = [player(1, 3600), player(1, 0, 0), player(1, 1), piece(10, [2]), check([0])]
        self.assertEqual(last_parted(calls), (0, [[2, 2]]))


class ToldFirst(unittest.TestCase):
    def test_a_pair_ahead_of_any_player(self):
        for hours in ((1, 3600), (0, 0), (1, 1)):
            calls = [player(1, *hours), piece(10, [0]), piece(10), piece(10), ahead(0, 1), ahead(2, 1)]
            with self.subTest(hours=hours):
                self.assertEqual(last_parted(calls + [check([0, 1, 2])]), (0, [[1, 1]]))
                self.assertEqual(last_parted(calls + [check([0, 2, 1])]), (0, [[2 if hours[0] else 3, 0]]))

    def test_the_first_pair(self):
        calls = pieces(3) + [ahead(0, 1), ahead(2, 1), ahead(2, 0)]
        self.assertEqual(last_parted(calls + [check([1, 0, 2])]), (0, [[1, 0]]))
        self.assertEqual(last_parted(calls + [check([0, 1, 2])]), (0, [[1, 1]]))
        self.assertEqual(last_parted(calls + [check([0, 2, 1])]), (0, [[1, 2]]))

    def test_the_first_player(self):
        early, late, both = player(1, 1), player(1, 0, 9), player(1, 1, 9)
        kinds = ((early, 2), (late, 3), (both, 2))
        for first, kind in kinds:
            for second, other in kinds:
                with self.subTest(first=first, second=second):
                    crew = [player(), first, second]
                    self.assertEqual(last_parted(crew + [piece(10, [0, 1, 2]), check([0])]), (0, [[kind, 1]]))
                    self.assertEqual(last_parted(crew + [piece(10, [0, 2]), check([0])]), (0, [[other, 2]]))

    def test_of_one_player_2_ahead_of_3(self):
        self.assertEqual(last_parted([player(1, 5, 5), piece(10, [0]), check([0])]), (0, [[2, 0]]))
        calls = [player(1, 5, 5), piece(5), piece(10, [0])]
        self.assertEqual(last_parted(calls + [check([1, 0])]), (0, [[2, 0]]))
        self.assertEqual(last_parted(calls + [check([0, 1])]), (0, [[3, 0]]))

    def test_a_player_too_late_ahead_of_a_later_one_too_early(self):
        calls = [player(1, 0, 9), player(1, 1), piece(10, [0, 1]), check([0])]
        self.assertEqual(last_parted(calls), (0, [[3, 0]]))


class NotEachPieceOnce(unittest.TestCase):
    def refused(self, count, orders):
        for order in orders:
            with self.subTest(count=count, order=order):
                self.assertEqual(last([player()] + pieces(count) + [check(order)]), -1)

    def test_it_is_the_number_alone(self):
        self.assertEqual(answers([2, 10, 0, 5, 2, 0, 0, 6]), [1, 0, 1, -1, 3, 0, 1, 10])

    def test_too_short(self):
        self.refused(3, ([], [0], [0, 1], [1, 2], [2]))

    def test_too_long(self):
        self.refused(3, ([0, 1, 2, 0], [0, 1, 2, 3], [0, 1, 2, 2], [0, 1, 2, LARGE], [2, 1, 0, 2, 1, 0]))

    def test_a_piece_twice(self):
        self.refused(3, ([0, 0, 1], [0, 1, 1], [2, 2, 2], [1, 0, 1], [0, 0, 0]))
        self.refused(2, ([0, 0], [1, 1]))

    def test_a_piece_that_there_is_not(self):
        self.refused(3, ([0, 1, 3], [3, 1, 2], [1, 2, 3], [0, 1, LARGE], [LARGE, 0, 1]))
        self.refused(1, ([1], [LARGE]))

    def test_twenty_members(self):
        self.refused(6, (range(20), [0] * 20, [LARGE] * 20, [0, 1, 2, 3, 4, 5] + [0] * 14, [4, 5, 6] * 6 + [0, 1]))
        self.refused(0, (range(20), [LARGE] * 20))

    def test_what_stands_behind_twenty_members_is_read(self):
        calls = pieces(1) + [check([5] * 20), check([0])]
        self.assertEqual(asked(calls), [[0], [-1], [1, 1, 0]])

    def test_without_pieces(self):
        self.refused(0, ([0], [0, 1], [1], [LARGE]))
        self.assertEqual(last_parted([player(), check([])]), (1, [[0], []]))

    def test_it_is_told_ahead_of_what_is_wrong(self):
        calls = [player(1, 1, 1)] + [piece(10, [0])] * 3 + [ahead(0, 1)]
        for order in ([1, 0], [1, 0, 0], [1, 0, 3], [1, 0, 2, 2], []):
            self.assertEqual(last(calls + [check(order)]), -1)
        self.assertEqual(last_parted(calls + [check([1, 0, 2])]), (0, [[1, 0]]))

    def test_all_lists_of_three_and_fewer(self):
        for length in range(5):
            for order in itertools.product(range(4), repeat=length):
                number = 1 if sorted(order) == [0, 1, 2] else -1
                self.assertEqual(last_parted(pieces(3) + [check(order)])[0], number, order)


class PlainSearch(unittest.TestCase):
    def test_days_by_chance(self):
        chance = random.Random(7)
        found = []
        for turn in range(150):
            day = some_day(chance, chance.randint(0, 6), chance.randint(1, 6))
            orders = chance.sample(day.orders(), min(20, len(day.orders())))
            told = day.told()
            for answer, order in zip(asked(told + [check(order) for order in orders])[len(told):], orders):
                with self.subTest(day=told, order=order):
                    self.assertEqual(parted(answer), day.check(order))
                found.append(tuple(answer[:3]) if answer[0] == 0 else (1,))
        # Each of the answers has to come up often enough to show something.
        for start in ((1,), (0, 2, 1), (0, 2, 2), (0, 2, 3)):
            self.assertGreater(found.count(start), 50, start)


if __name__ == "__main__":
    unittest.main()
