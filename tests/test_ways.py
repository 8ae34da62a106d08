"""Points 1 to 7 and the section folio/ways.py of the interface."""

import copy
import itertools
import unittest

from folio.ways import add_costs, chosen, make_row, start_row

FREE = (0, 0, 0)


def rows_by_program(key, count, moves):
    """The rows of all positions; moves are (start, key, position, target, cost)."""
    rows = [start_row(key)]
    for position in range(1, count + 1):
        here = [
            (start, before, target, cost)
            for start, before, end, target, cost in moves
            if end == position
        ]
        rows.append(make_row(rows, position, here))
    return rows


def all_ways(stop, moves):
    """All ways from a stop, as tuples of the cost, the way and the last stop."""
    found = [(FREE, (), stop)]
    for start, key, end, target, cost in moves:
        if (start, key) == stop:
            for more, way, last in all_ways((end, target), moves):
                total = tuple(one + other for one, other in zip(cost, more))
                found.append((total, ((end, target),) + way, last))
    return found


def rows_by_listing(key, count, moves):
    """The same rows, found among all ways that there are."""
    ways = all_ways((0, key), moves)
    rows = []
    for position in range(count + 1):
        row = []
        for last in sorted({stop for _, _, stop in ways if stop[0] == position}):
            cost, way = min((cost, way) for cost, way, stop in ways if stop == last)
            row.append((last[1], cost, way))
        rows.append(row)
    return rows


class CostsTest(unittest.TestCase):
    def test_sums_are_made_number_by_number(self):
        self.assertEqual(add_costs((1, 20, 300), (4000, 50000, 600000)), (4001, 50020, 600300))

    def test_order_does_not_matter(self):
        numbers = (0, 1, 7)
        costs = list(itertools.product(numbers, numbers, numbers))
        for one, other in itertools.product(costs, costs):
            total = (one[0] + other[0], one[1] + other[1], one[2] + other[2])
            self.assertEqual(add_costs(one, other), total)
            self.assertEqual(add_costs(other, one), total)

    def test_nothing_is_added_by_the_cost_of_the_empty_way(self):
        self.assertEqual(add_costs(FREE, FREE), FREE)
        self.assertEqual(add_costs(FREE, (3, 2, 1)), (3, 2, 1))
        self.assertEqual(add_costs((3, 2, 1), FREE), (3, 2, 1))

    def test_a_sum_is_a_tuple_of_large_numbers(self):
        large = 10 ** 40
        total = add_costs((large, 0, 1), (1, large, large))
        self.assertIsInstance(total, tuple)
        self.assertEqual(total, (large + 1, large, large + 1))

    def test_the_first_number_that_differs_decides(self):
        in_order = [(0, 0, 9), (0, 1, 0), (0, 1, 1), (0, 9, 9), (1, 0, 0)]
        for low, high in zip(in_order, in_order[1:]):
            with self.subTest(low=low, high=high):
                row = make_row([start_row(0)], 1, [(0, 0, 0, high), (0, 0, 0, low)])
                self.assertEqual(row, [(0, low, ((1, 0),))])


class StartTest(unittest.TestCase):
    def test_the_row_of_the_start(self):
        self.assertEqual(start_row(2), [(2, (0, 0, 0), ())])
        self.assertEqual(start_row(0), [(0, (0, 0, 0), ())])

    def test_a_change_of_a_row_has_no_effect_on_later_ones(self):
        row = start_row(5)
        row.append("more")
        row[0] = None
        self.assertEqual(start_row(5), [(5, (0, 0, 0), ())])


class RowsTest(unittest.TestCase):
    def test_the_example(self):
        moves = [(0, 2, 3, (0, 0, 9)), (0, 2, 2, (0, 1, 0)), (0, 2, 3, (0, 0, 5))]
        row = make_row([start_row(2)], 1, moves)
        self.assertEqual(row, [(2, (0, 1, 0), ((1, 2),)), (3, (0, 0, 5), ((1, 3),))])

    def test_several_moves_from_one_stop_to_one_target(self):
        costs = [(0, 0, 9), (0, 0, 4), (0, 0, 4), (0, 1, 0)]
        for order in itertools.permutations(costs):
            moves = [(0, 0, 6, cost) for cost in order]
            self.assertEqual(make_row([start_row(0)], 1, moves), [(6, (0, 0, 4), ((1, 6),))])

    def test_costs_and_ways_go_on_from_the_rows_before(self):
        rows = [start_row(1), [(4, (1, 2, 3), ((1, 4),))], []]
        row = make_row(rows, 3, [(1, 4, 0, (10, 20, 30))])
        self.assertEqual(row, [(0, (11, 22, 33), ((1, 4), (3, 0)))])

    def test_moves_in_any_order(self):
        rows = [start_row(0), [(0, (0, 0, 5), ((1, 0),)), (1, (0, 0, 1), ((1, 1),))]]
        moves = [
            (0, 0, 7, (0, 0, 6)),
            (1, 0, 7, (0, 0, 1)),
            (1, 1, 7, (0, 0, 5)),
            (1, 1, 2, (0, 3, 0)),
        ]
        expected = [(2, (0, 3, 1), ((1, 1), (2, 2))), (7, (0, 0, 6), ((1, 0), (2, 7)))]
        for order in itertools.permutations(moves):
            self.assertEqual(make_row(rows, 2, list(order)), expected)

    def test_keys_ascend_as_numbers(self):
        moves = [(0, 0, target, (0, 0, target)) for target in (10, 9, 0, 200, 11)]
        row = make_row([start_row(0)], 1, moves)
        self.assertEqual([key for key, _, _ in row], [0, 9, 10, 11, 200])

    def test_moves_from_stops_that_are_not_there(self):
        rows = [start_row(2), [], [(1, FREE, ((2, 1),))]]
        ignored = [(0, 1, 5, FREE), (1, 2, 5, FREE), (2, 2, 5, FREE)]
        self.assertEqual(make_row(rows, 3, ignored), [])
        row = make_row(rows, 3, ignored + [(0, 2, 5, (0, 0, 8))] + ignored)
        self.assertEqual(row, [(5, (0, 0, 8), ((3, 5),))])

    def test_the_empty_row(self):
        self.assertEqual(make_row([start_row(0)], 1, []), [])
        self.assertEqual(make_row([start_row(0), []], 2, [(1, 0, 0, FREE)]), [])

    def test_the_least_cost_comes_before_the_least_way(self):
        rows = [start_row(0), [(0, (0, 0, 1), ((1, 0),))]]
        moves = [(0, 0, 0, (0, 0, 5)), (1, 0, 0, (0, 0, 5))]
        self.assertEqual(make_row(rows, 2, moves), [(0, (0, 0, 5), ((2, 0),))])

    def test_of_equal_costs_the_earlier_stop_counts(self):
        rows = [start_row(0), [(9, FREE, ((1, 9),))], [(0, FREE, ((2, 0),))]]
        moves = [(0, 0, 0, FREE), (1, 9, 0, FREE), (2, 0, 0, FREE)]
        for order in itertools.permutations(moves):
            self.assertEqual(make_row(rows, 3, list(order)), [(0, FREE, ((1, 9), (3, 0)))])

    def test_of_equal_costs_and_positions_the_lesser_key_counts(self):
        rows = [start_row(0), [(2, FREE, ((1, 2),)), (10, FREE, ((1, 10),))]]
        moves = [(1, 10, 0, FREE), (1, 2, 0, FREE)]
        for order in itertools.permutations(moves):
            self.assertEqual(make_row(rows, 2, list(order)), [(0, FREE, ((1, 2), (2, 0)))])

    def test_the_first_difference_of_ways_decides(self):
        rows = [
            start_row(0),
            [(0, FREE, ((1, 0),)), (1, FREE, ((1, 1),))],
            [(0, FREE, ((1, 1), (2, 0))), (9, FREE, ((1, 0), (2, 9)))],
        ]
        moves = [(2, 0, 4, FREE), (2, 9, 4, FREE)]
        for order in itertools.permutations(moves):
            row = make_row(rows, 3, list(order))
            self.assertEqual(row, [(4, FREE, ((1, 0), (2, 9), (3, 4)))])

    def test_a_way_that_goes_on_where_another_one_ends(self):
        # Up to the stop (1, 0) the ways are the same; then (2, 0) is before (3, 0).
        rows = [start_row(0), [(0, FREE, ((1, 0),))], [(0, FREE, ((1, 0), (2, 0)))]]
        moves = [(1, 0, 0, FREE), (2, 0, 0, FREE)]
        for order in itertools.permutations(moves):
            row = make_row(rows, 3, list(order))
            self.assertEqual(row, [(0, FREE, ((1, 0), (2, 0), (3, 0)))])

    def test_nothing_that_is_passed_is_changed(self):
        rows = [start_row(0), [(1, FREE, ((1, 1),)), (3, FREE, ((1, 3),))]]
        moves = [(1, 3, 2, FREE), (0, 0, 2, (0, 0, 1)), (1, 1, 0, FREE), (1, 8, 0, FREE)]
        rows_before = copy.deepcopy(rows)
        moves_before = copy.deepcopy(moves)
        make_row(rows, 2, moves)
        self.assertEqual(rows, rows_before)
        self.assertEqual(moves, moves_before)

    def test_later_changes_of_lists_have_no_effect(self):
        rows = [start_row(0)]
        moves = [(0, 0, 2, (0, 0, 1))]
        row = make_row(rows, 1, moves)
        rows[0].clear()
        moves.clear()
        self.assertEqual(row, [(2, (0, 0, 1), ((1, 2),))])
        row.clear()
        again = make_row([start_row(0)], 1, [(0, 0, 2, (0, 0, 1))])
        self.assertEqual(again, [(2, (0, 0, 1), ((1, 2),))])

    def test_rows_are_those_of_all_ways(self):
        for seed in range(60):
            moves = []
            for start, key, end, target in itertools.product(range(4), (0, 1), range(1, 5), (0, 1)):
                mixed = (seed + 3) * (start * 29 + key * 17 + end * 13 + target * 7 + 5) // 3
                if start < end and mixed % 4 != 0:
                    moves.append((start, key, end, target, (mixed % 2, mixed // 5 % 2, mixed // 7 % 3)))
            moves = moves[seed % 7:] + moves[:seed % 7]
            for key in (0, 1):
                with self.subTest(seed=seed, key=key):
                    rows = rows_by_program(key, 4, moves)
                    self.assertEqual(rows, rows_by_listing(key, 4, moves))

    def test_rows_of_moves_without_costs(self):
        pairs = itertools.product(range(5), (0, 1), range(1, 6), (0, 1))
        moves = [(start, key, end, target, FREE) for start, key, end, target in pairs if start < end]
        rows = rows_by_program(0, 5, moves[::-1])
        self.assertEqual(rows, rows_by_listing(0, 5, moves))
        self.assertEqual(rows[2], [(0, FREE, ((1, 0), (2, 0))), (1, FREE, ((1, 0), (2, 1)))])

    def test_long_ways(self):
        rows = [start_row(0)]
        for position in range(1, 401):
            rows.append(make_row(rows, position, [(position - 1, 0, 0, (0, 0, 1))]))
        way = tuple((position, 0) for position in range(1, 401))
        self.assertEqual(rows[400], [(0, (0, 0, 400), way)])


class ChosenTest(unittest.TestCase):
    def test_the_empty_row(self):
        self.assertIsNone(chosen([]))

    def test_the_empty_way(self):
        self.assertEqual(chosen(start_row(7)), ((0, 0, 0), ()))

    def test_the_least_cost_first(self):
        row = [(0, (0, 1, 0), ((1, 0), (2, 0))), (1, (0, 0, 9), ((1, 5), (2, 1))), (2, (1, 0, 0), ((2, 2),))]
        self.assertEqual(chosen(row), ((0, 0, 9), ((1, 5), (2, 1))))

    def test_of_equal_costs_the_least_way(self):
        ways = [((1, 0), (3, 9)), ((1, 1), (2, 0), (3, 5)), ((1, 1), (3, 0)), ((2, 0), (3, 1))]
        for order in itertools.permutations(ways):
            row = [(way[-1][1], FREE, way) for way in order]
            self.assertEqual(chosen(row), (FREE, ways[0]))
            others = [entry for entry in row if entry[2] != ways[0]]
            self.assertEqual(chosen(others), (FREE, ways[1]))

    def test_keys_decide_as_numbers(self):
        row = [(9, FREE, ((1, 9),)), (10, FREE, ((1, 10),))]
        self.assertEqual(chosen(row), (FREE, ((1, 9),)))

    def test_the_beginning_of_a_way_is_less(self):
        row = [(4, FREE, ((1, 4), (2, 4))), (5, FREE, ((1, 4),))]
        self.assertEqual(chosen(row), (FREE, ((1, 4),)))

    def test_the_row_is_not_changed(self):
        row = [(4, (0, 0, 1), ((1, 4),)), (2, FREE, ((1, 2),))]
        before = copy.deepcopy(row)
        chosen(row)
        self.assertEqual(row, before)


if __name__ == "__main__":
    unittest.main()
