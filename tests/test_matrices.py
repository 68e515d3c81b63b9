"""bushcoins.matrices: S7.1."""

import itertools
import unittest
from fractions import Fraction

from bushcoins.bags import Bag
from bushcoins.books import Book
from bushcoins.matrices import bag_matrix, determinant
from tests.every import some_bags
from tests.samples import Case, random_source, sample_bag, sample_book, wide_bag


def by_permutations(rows):
    """The determinant as the sum over all permutations."""
    found = 0
    for order in itertools.permutations(range(len(rows))):
        product = 1
        for k, j in enumerate(order):
            product *= rows[k][j]
        turns = len([1 for k, j in itertools.combinations(order, 2) if k > j])
        found += product if turns % 2 == 0 else -product
    return found


def by_fractions(rows):
    """The determinant by elimination with fractions."""
    left = [[Fraction(number) for number in row] for row in rows]
    found = Fraction(1)
    for k in range(len(left)):
        for j in range(k, len(left)):
            if left[j][k] != 0:
                break
        else:
            return 0
        if j != k:
            left[k], left[j] = left[j], left[k]
            found = -found
        found *= left[k][k]
        for j in range(k + 1, len(left)):
            factor = left[j][k] / left[k][k]
            left[j] = [number - factor * other for number, other in zip(left[j], left[k])]
    return found


def random_rows(draw, many, least, most):
    return [[draw.randrange(least, most + 1) for _ in range(many)] for _ in range(many)]


class TestDeterminant(Case):
    def check(self, rows, right):
        told = determinant(rows)
        self.assertIs(type(told), int)
        self.assertEqual(told, right)

    def test_by_hand(self):
        self.check([], 1)
        self.check((), 1)
        self.check([[7]], 7)
        self.check([[-7]], -7)
        self.check([[0]], 0)
        self.check([[1, 2], [3, 4]], -2)
        self.check([[0, 1], [1, 0]], -1)
        self.check([[2, 0], [-2, 1]], 2)
        self.check([[0, 2, 0], [0, 0, 3], [5, 0, 0]], 30)
        self.check([[0, 0, 1], [0, 1, 0], [1, 0, 0]], -1)

    def test_random_small_numbers(self):
        draw = random_source(201)
        for many in range(7):
            for _ in range(12):
                rows = random_rows(draw, many, -3, 3)
                self.check(rows, by_permutations(rows))
        for many in range(9):
            for _ in range(20):
                rows = random_rows(draw, many, -9, 9)
                self.check(rows, by_fractions(rows))

    def test_many_zeros(self):
        """Zeros on the diagonal and elsewhere, so that rows have to change places."""
        draw = random_source(202)
        met = set()
        for _ in range(300):
            many = draw.randrange(2, 7)
            rows = [[draw.choice((0, 0, 0, 1, -1, 2)) for _ in range(many)] for _ in range(many)]
            for k in range(many):
                rows[k][k] = 0
            right = by_permutations(rows)
            self.check(rows, right)
            met.add((right > 0) - (right < 0))
        self.assertEqual(met, {-1, 0, 1})

    def test_permutations(self):
        for order in itertools.permutations(range(5)):
            rows = [[1 if j == k else 0 for j in range(5)] for k in order]
            self.check(rows, by_permutations(rows))

    def test_rows_that_depend_on_one_another(self):
        draw = random_source(203)
        for many in range(2, 9):
            for _ in range(6):
                rows = random_rows(draw, many, -20, 20)
                one, other = draw.sample(range(many), 2)
                rows[one] = [3 * number for number in rows[other]]
                self.check(rows, 0)
                rows[one] = [sum(row[j] for k, row in enumerate(rows) if k != one) for j in range(many)]
                self.check(rows, 0)
                rows[one] = [0] * many
                self.check(rows, 0)
                for row in rows:
                    row[other] = 0
                self.check(rows, 0)

    def test_great_numbers(self):
        draw = random_source(204)
        for many in range(1, 9):
            for _ in range(4):
                rows = random_rows(draw, many, -(10 ** 40) + 1, 10 ** 40 - 1)
                self.check(rows, by_fractions(rows))
        self.check([[10 ** 39 if j == k else 0 for j in range(8)] for k in range(8)], 10 ** 312)
        self.check([[10 ** 39 + 1, 10 ** 39], [10 ** 39, 10 ** 39 - 1]], -1)

    def test_tuples_as_lists(self):
        draw = random_source(205)
        for many in range(6):
            rows = random_rows(draw, many, -9, 9)
            right = by_permutations(rows)
            self.check(tuple(tuple(row) for row in rows), right)
            self.check([tuple(row) for row in rows], right)
            self.check(tuple(rows), right)

    def test_rows_stay(self):
        for rows in ([[0, 1], [1, 0]], [[2, 3, 4], [4, 6, 9], [5, 5, 5]], [[0, 0], [0, 0]]):
            known = [list(row) for row in rows]
            self.assertEqual(determinant(rows), determinant(rows))
            self.assertEqual(rows, known)


class TestBagMatrix(Case):
    def test_the_example(self):
        self.assertEqual(bag_matrix(sample_bag()), (["blue", "red"], [[2, 0], [-2, 1]]))

    def test_no_joints_and_one_colour(self):
        self.assertEqual(bag_matrix(Bag(sample_book(), [])), ([], []))
        self.assertEqual(bag_matrix(Bag(Book([]), [])), ([], []))
        book = Book([("z", "c", ()), ("b", "c", ("c",)), ("t", "c", ("c", "c"))])
        self.assertEqual(bag_matrix(Bag(book, [("z", "z")])), (["c"], [[1]]))
        self.assertEqual(bag_matrix(Bag(book, [("b", "b")])), (["c"], [[0]]))
        self.assertEqual(bag_matrix(Bag(book, [("t", "t"), ("u", "t")])), (["c"], [[-2]]))
        self.assertEqual(bag_matrix(Bag(book, [("t", "t"), ("z", "z"), ("b", "b")])), (["c"], [[0]]))

    def test_colours_that_are_not_reached_or_that_only_branches_have(self):
        book = Book([("a", "red", ("blue", "zz")), ("g", "green", ("green", "red")), ("y", "aa", ())])
        bag = Bag(book, [("g", "g"), ("h", "g"), ("a", "a")])
        # aa has no joint in the bag, blue and zz only branches.
        self.assertEqual(bag_matrix(bag), (["green", "red"], [[0, -2], [0, 1]]))
        self.assertEqual(bag_matrix(wide_bag()), (["leaf", "wood"], [[6, 0], [-5, 3]]))

    def test_random_bags(self):
        for bag, _ in some_bags(random_source(206), 60):
            stems = [bag.stem(name) for name in bag.names()]
            colours = sorted(set(stems))
            right = []
            for c in colours:
                row = []
                for d in colours:
                    branches = [x for name in bag.names() if bag.stem(name) == c for x in bag.branches(name)]
                    row.append((stems.count(c) if c == d else 0) - branches.count(d))
                right.append(row)
            self.assertEqual(bag_matrix(bag), (colours, right))

    def test_what_is_returned(self):
        bag = sample_bag()
        told = bag_matrix(bag)
        self.assertIs(type(told), tuple)
        colours, rows = told
        self.assertEqual([type(colours), type(rows)] + [type(row) for row in rows], [list] * 4)
        self.assertEqual([type(number) for row in rows for number in row], [int] * 4)
        self.assertIsNot(rows[0], rows[1])
        rows[0].append(9)
        rows.pop()
        colours.clear()
        self.assertEqual(bag_matrix(bag), (["blue", "red"], [[2, 0], [-2, 1]]))
        self.assertEqual(bag, sample_bag())


if __name__ == "__main__":
    unittest.main()
