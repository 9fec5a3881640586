"""Tables: determinants, ranks, dependences, products."""

import itertools
import unittest

from farseen.errors import BadTable
from farseen.tables import Rank, dependence, determinant, products, rank
from tests.helpers import HUGE, Case, chance, no_integers, odd_values, plain_determinant, plain_rank, primitive_of

CALLS = [determinant, rank, dependence, products]


def some_tables(seed, many, most_rows=6, most_columns=6):
    dice = chance(seed)
    for _ in range(many):
        rows, columns = dice.randrange(1, most_rows + 1), dice.randrange(1, most_columns + 1)
        table = [[dice.choice([0, 0, 1, -1, 2, -3]) for _ in range(columns)] for _ in range(rows)]
        if rows > 2 and dice.random() < 0.6:
            at = dice.randrange(1, rows)
            table[at] = [dice.choice([1, -2]) * number for number in table[dice.randrange(at)]]
        yield table


def plain_lots(table):
    """The rank, the first rows and the first columns, by trying all lots."""
    many = plain_rank(table)
    rows = next(lot for lot in itertools.combinations(range(len(table)), many)
                if many == 0 or plain_rank([table[at] for at in lot]) == many)
    columns = next(lot for lot in itertools.combinations(range(len(table[0])), many)
                   if many == 0 or plain_determinant([[table[at][c] for c in lot] for at in rows]) != 0)
    return many, rows, columns


class DeterminantTest(Case):

    def test_small(self):
        for rows, right in (([[5]], 5), ([[0]], 0), (((1, 2), (3, 4)), -2), ([[0, 1], [1, 0]], -1), ([[0, 0], [1, 1]], 0),
                            ([[0, 1, 2], [3, 4, 5], [6, 7, 9]], -3), ([[0, 0, 1], [0, 1, 0], [1, 0, 0]], -1),
                            ([[0, 1, 0], [0, 0, 1], [1, 0, 0]], 1), ([[HUGE, 1], [1, 0]], -1)):
            self.assertEqual(determinant(rows), right)

    def test_as_the_sum_of_products(self):
        dice = chance(2)
        for _ in range(150):
            size = dice.randrange(1, 6)
            rows = [[dice.randrange(-4, 5) if dice.random() < 0.7 else 0 for _ in range(size)] for _ in range(size)]
            self.assertEqual(determinant(rows), plain_determinant(rows))

    def test_greatest(self):
        rows = [[(row * 7 + column * column * 3 + row * column * 11) for column in range(7)] for row in range(7)]
        self.assertEqual(determinant([[int(a == b) * (a + 1) for a in range(7)] for b in range(7)]), 5040)
        self.assertEqual(determinant(rows), plain_determinant(rows))

    def test_no_square(self):
        for rows in ([[1, 2]], [[1], [2]], [[1, 2, 3], [4, 5, 6]], [[0] * 7] * 8):
            self.fails(BadTable, ["rows"], determinant, rows)


class RankTest(Case):

    def test_small(self):
        for rows, right in (([[0]], (0, (), ())), ([[0, 0], [0, 0]], (0, (), ())), ([[0, 5]], (1, (0,), (1,))),
                            ([[0], [3]], (1, (1,), (0,))), ([[1, 2], [2, 4]], (1, (0,), (0,))),
                            ([[0, 0, 0], [0, 2, 4], [0, 1, 2], [1, 0, 1]], (2, (1, 3), (0, 1))),
                            ([[0, 0, 1, 1], [0, 0, 2, 3]], (2, (0, 1), (2, 3))),
                            ([[1, 1, 0], [2, 2, 0], [0, 0, 1]], (2, (0, 2), (0, 2)))):
            told = rank(rows)
            self.assertEqual(told, Rank(*right))
            self.assertEqual((told.many, told.rows, told.columns), right)
            self.assertTrue(told)

    def test_as_by_trying_all(self):
        for table in some_tables(3, 200, 5, 5):
            self.assertEqual(rank(table).parts, plain_lots(table), table)

    def test_greatest(self):
        table = [[row ** column for column in range(7)] for row in range(1, 17)]
        self.assertEqual(rank(table).parts, (7, tuple(range(7)), tuple(range(7))))
        self.assertEqual(rank([[HUGE * number for number in row] for row in table]), rank(table))
        dice = chance(4)
        wide = [[dice.randrange(10 ** 8, 10 ** 9) for _ in range(7)] for _ in range(16)]
        self.assertEqual(self.takes_short(rank, wide).many, 7)


class DependenceTest(Case):

    def test_small(self):
        for rows, right in (([[0]], (1,)), ([[1]], None), ([[1], [2]], (2, -1)), ([[2], [1]], (1, -2)),
                            ([[1, 1], [0, 0]], (0, 1)), ([[0, 0], [1, 1]], (1, 0)), ([[1, 2], [3, 4]], None),
                            ([[0, 2, 4], [1, 0, 1], [0, 1, 2]], (1, 0, -2)), ([[1, 0], [0, 1], [2, 3], [0, 0]], (2, 3, -1, 0)),
                            ([[-1], [1]], (1, 1)), ([[6, 4], [-9, -6]], (3, 2)), ([[0, 0, 0]], (1,))):
            self.assertEqual(dependence(rows), right, rows)

    def test_as_told(self):
        for table in some_tables(5, 300):
            told = dependence(table)
            firsts = [at for at in range(len(table)) if plain_rank(table[:at + 1]) == at]
            if not firsts:
                self.assertIsNone(told)
                continue
            self.assertEqual(len(told), len(table))
            self.assertEqual(told, primitive_of(told))
            self.assertNotEqual(told[firsts[0]], 0)
            self.assertFalse(any(told[firsts[0] + 1:]))
            self.assertFalse(any(sum(t * row[c] for t, row in zip(told, table)) for c in range(len(table[0]))))

    def test_greatest(self):
        dice = chance(6)
        wide = [[dice.randrange(10 ** 8, 10 ** 9) for _ in range(7)] for _ in range(16)]
        told = self.takes_short(dependence, wide)
        self.assertEqual((told[8:], told[7] == 0), ((0,) * 8, False))
        self.assertFalse(any(sum(t * row[c] for t, row in zip(told, wide)) for c in range(7)))


class ProductsTest(Case):

    def test_products(self):
        self.assertEqual(products([[1, 2], [3, 4]]), ((10, 14), (14, 20)))
        self.assertEqual(products([[3]]), ((9,),))
        self.assertEqual(products([[1, -2, 0]]), ((1, -2, 0), (-2, 4, 0), (0, 0, 0)))
        for table in some_tables(7, 50):
            width = len(table[0])
            right = tuple(tuple(sum(row[a] * row[b] for row in table) for b in range(width)) for a in range(width))
            self.assertEqual(products(table), right)
            self.assertIsInstance(products(table)[0], tuple)


class WrongTablesTest(Case):

    def test_values_of_other_kinds(self):
        wrong = [value for value in odd_values() if value not in ([[1], [2]],)]
        wrong += [[[]], [[1], []], [[1, 2], [3]], [[1], 2], [[1], None], ["12", "34"], [[1, 2], "34"], [{1, 2}], [range(2)],
                  [[1] * 8], [[1] * 8] * 8, [[1]] * 17, [[1] * 7] * 17, {(1, 2): 3}]
        for call in CALLS:
            self.fails_for(wrong, BadTable, ["rows"], call)

    def test_one_wrong_item(self):
        good = [[2, 0, 1], [1, 3, 0], [0, 0, 4]]
        for call in CALLS:
            call(rows=good)
            for a in range(3):
                for b in range(3):
                    for value in no_integers():
                        bent = [list(row) for row in good]
                        bent[a][b] = value
                        self.fails(BadTable, ["rows"], call, bent)

    def test_bounds(self):
        for call in (rank, dependence, products):
            call([[1]])
            call([[1] * 7] * 16)
            call(((1,) * 7,) * 16)
            self.fails(BadTable, ["rows"], call, [[1] * 7] * 17)
            self.fails(BadTable, ["rows"], call, [[1] * 8] * 16)
        self.assertEqual(determinant([[1] * 7] * 7), 0)

    def test_what_is_passed_stays(self):
        rows = [[0, 2, 4], [1, 0, 1], [0, 1, 2]]
        for call in CALLS:
            call(rows)
            self.assertEqual(rows, [[0, 2, 4], [1, 0, 1], [0, 1, 2]])


if __name__ == "__main__":
    unittest.main()
