"""Point 5: numbers modulo a prime."""

import copy
import random
import unittest
from fractions import Fraction
from itertools import product

from anymend.errors import BadNumber
from anymend.fields import echelon, is_prime, rank_of, solved

LARGEST = 10 ** 9 + 7
PRIMES = (2, 3, 5, 7, 11, 101, 65537, 999999937, LARGEST)

NO_PRIMES = [
    None, True, False, "", "2", "7", b"7", 2.0, 7.0, Fraction(7), [], [7], (7,), {}, {7: 7}, object(), int,
    0, 1, -1, -2, -7, -LARGEST, 4, 6, 8, 9, 15, 25, 49, 91, 121, 341, 561, 2047, 1105, 1681, 1849, 2209, 3599,
    65535, 31607 * 31607, 31601 * 31607, 31607 * 2, 10 ** 9, 10 ** 9 + 6,
    # The least prime above the largest one that is allowed, and others above.
    10 ** 9 + 9, 10 ** 9 + 21, 2 ** 31 - 1, 10 ** 9 + 8, 10 ** 100,
]

NO_ROWS = [
    None, True, 0, 5, "", "12", b"12", 1.5, {}, {1: 2}, {1, 2}, object(), list,
    [1], [1, 2], (1, 2), [None], ["12"], [b"12"], [{}], [{1: 2}], [{1}], [range(2)],
    [[1, 2], 3], [[1, 2], None], [3, [1, 2]], [[1, 2], "12"], ([1, 2], {1: 1, 2: 2}),
    [[1], [1, 2]], [[1, 2], [1]], [[], [1]], [[1], []], [[1, 2], [3, 4], [5]], [(1, 2), (3, 4, 5)],
    [[True, 2]], [[1, False]], [[1, 2], [3, True]], [[1, None]], [["1", 2]], [[1.0, 2]], [[1, 2], [3, 4.0]],
    [[1, [2]]], [[1, (2,)]], [[[1], [2]]], [["a"], ["b"]], [[Fraction(1)]],
]


def by_division(number):
    """Whether an integer is a prime, by trial division."""
    if number < 2:
        return False
    divisor = 2
    while divisor * divisor <= number:
        if number % divisor == 0:
            return False
        divisor += 1
    return True


def span(rows, prime, width):
    """All sums of multiples of some rows."""
    found = {(0,) * width}
    for row in rows:
        found = {
            tuple((a + times * b) % prime for a, b in zip(one, row))
            for one in found for times in range(prime)}
    return found


def pivot_of(row):
    return next(at for at, number in enumerate(row) if number)


def random_echelon(chance, rank, width, prime):
    """An echelon form, written down straight."""
    pivots = sorted(chance.sample(range(width), rank))
    rows = []
    for pivot in pivots:
        row = [0] * width
        row[pivot] = 1
        for at in range(pivot + 1, width):
            if at not in pivots:
                row[at] = chance.randrange(prime)
        rows.append(row)
    return rows


def mixed(chance, rows, many, width, prime):
    """Shuffled rows with the same span as the given ones, not reduced modulo the prime."""
    mixes = []
    for k in range(many):
        times = [0] * len(rows)
        for at in range(len(rows)):
            # The first rows make a triangle with 1 at its long side; so the span stays.
            if k >= len(rows) or at < k:
                times[at] = chance.randrange(prime)
            elif at == k:
                times[at] = 1
        mixes.append([
            sum(t * row[at] for t, row in zip(times, rows)) + prime * chance.randrange(-10 ** 20, 10 ** 20)
            for at in range(width)])
    chance.shuffle(mixes)
    return mixes


class IsPrimeTest(unittest.TestCase):
    def test_small_integers(self):
        for number in range(-50, 5000):
            self.assertIs(is_prime(number), by_division(number), number)

    def test_great_integers(self):
        chance = random.Random(51)
        for _ in range(60):
            number = chance.randrange(10 ** 6, LARGEST)
            self.assertIs(is_prime(number), by_division(number), number)
        for number in range(LARGEST - 60, LARGEST + 1):
            self.assertIs(is_prime(number), by_division(number), number)

    def test_primes(self):
        for number in PRIMES + (13, 31607, 31601, 99999989, 179424673, 982451653, 999999929):
            self.assertIs(is_prime(number), True, number)

    def test_squares_and_products_of_primes(self):
        primes = [number for number in range(2, 200) if by_division(number)]
        primes += [number for number in range(31000, 31610) if by_division(number)]
        for first in primes:
            self.assertIs(is_prime(first * first), False, first)
            self.assertIs(is_prime(first * primes[-1]), False, first)
            self.assertIs(is_prime(first * 997), False, first)

    def test_composites_that_pass_for_primes(self):
        for number in (
                341, 561, 645, 1105, 1729, 2465, 2821, 6601, 8911, 2047, 3277, 4033, 4681, 8321, 15841, 29341,
                121, 703, 1891, 3281, 8401, 781, 1541, 5461, 1373653, 25326001, 1530787, 1987021, 2284453,
                3116107, 5173601, 6787327, 11541307, 13694761, 15978007, 16070429, 16879501, 25326001,
                27509653, 27664033, 28527049, 54029741, 61832377, 66096253, 161304001, 960946321, 825265):
            self.assertIs(is_prime(number), by_division(number), number)
        # For all that have no divisor in common with these, a ** (number - 1) leaves 1.
        for number in (
                1152271, 2508013, 3057601, 3828001, 4335241, 56052361, 118901521, 172947529, 216821881, 228842209,
                413138881, 620169409, 743404663, 902645857, 939947009, 958762729, 962442001, 985052881):
            self.assertIs(is_prime(number), False, number)

    def test_no_integers(self):
        for value in (
                None, True, False, "", "2", "7", b"7", 2.0, 7.0, 7.5, float("nan"), float("inf"), 7 + 0j, Fraction(7),
                [], [7], (7,), (7, 1), {}, {7: 7}, {7}, object(), int, len, 0, 1, -1, -2, -3, -7, -LARGEST):
            self.assertIs(is_prime(value), False, repr(value))


class ErrorsTest(unittest.TestCase):
    def calls(self, rows, prime):
        return [
            lambda: rank_of(rows, prime),
            lambda: echelon(rows, prime),
            lambda: solved(rows, [1], prime)]

    def refused(self, call, what, number):
        with self.assertRaises(BadNumber) as seen:
            call()
        self.assertEqual(seen.exception.what, what, repr(number))
        self.assertIs(seen.exception.number, number)

    def test_no_prime(self):
        for prime in NO_PRIMES:
            for call in self.calls([[1, 2]], prime):
                self.refused(call, "prime", prime)
            for call in self.calls([], prime):
                self.refused(call, "prime", prime)

    def test_the_least_and_the_greatest_prime(self):
        for prime in (2, LARGEST):
            self.assertEqual(rank_of([[1, 1]], prime), 1)
            self.assertEqual(echelon([[1, 1]], prime), ((1, 1),))
            self.assertEqual(solved([[1]], [1], prime), (1,))

    def test_no_rows(self):
        for rows in NO_ROWS:
            for prime in (2, 7, LARGEST):
                for call in self.calls(rows, prime):
                    self.refused(call, "rows", rows)

    def test_rows_within_themselves(self):
        rows = []
        rows.append(rows)
        for call in self.calls(rows, 7):
            self.refused(call, "rows", rows)

    def test_no_right(self):
        rows = [[1, 2], [3, 4]]
        for right in (
                None, True, 0, 5, "", "12", b"12", 1.5, {}, {1: 2, 2: 3}, {1, 2}, range(2), object(), list,
                [], (), [1], (1,), [1, 2, 3], (1, 2, 3), [[1, 2]], [[1], [2]],
                [1, True], [False, 1], [1, None], ["1", 2], "ab", [1.0, 2], [1, [2]], (1, (2,)), [1, Fraction(2)]):
            self.refused(lambda: solved(rows, right, 7), "right", right)
            self.refused(lambda: solved(tuple(rows), right, LARGEST), "right", right)
        self.refused(lambda: solved([[1, 2, 3]], rows[0], 7), "right", rows[0])
        for right in (None, "", [1], {}, 0):
            self.refused(lambda: solved([], right, 7), "right", right)

    def test_the_prime_goes_first(self):
        for prime in NO_PRIMES:
            for rows in NO_ROWS:
                for call in self.calls(rows, prime):
                    self.refused(call, "prime", prime)
            self.refused(lambda: solved([[1, 2]], None, prime), "prime", prime)
            self.refused(lambda: solved([[1, 2]], [1, 2], prime), "prime", prime)
            self.refused(lambda: solved([[1], [1, 2]], ["a"], prime), "prime", prime)

    def test_the_rows_go_ahead_of_right(self):
        for rows in NO_ROWS:
            for right in (None, "a", [1, 2, 3, 4, 5], [True], ["1"]):
                self.refused(lambda: solved(rows, right, 7), "rows", rows)


class EchelonTest(unittest.TestCase):
    def check_form(self, found, prime, width):
        self.assertIs(found.__class__, tuple)
        behind = -1
        for row in found:
            self.assertIs(row.__class__, tuple)
            self.assertEqual(len(row), width)
            for number in row:
                self.assertIs(number.__class__, int)
                self.assertTrue(0 <= number < prime)
            self.assertTrue(any(row))
            pivot = pivot_of(row)
            self.assertGreater(pivot, behind)
            behind = pivot
            self.assertEqual(row[pivot], 1)
            self.assertEqual(sum(other[pivot] != 0 for other in found), 1)

    def check_all(self, prime, many, width):
        """All rows with so few numbers: the form, the span and the rank."""
        for numbers in product(range(prime), repeat=many * width):
            rows = [numbers[k * width:(k + 1) * width] for k in range(many)]
            found = echelon(rows, prime)
            self.check_form(found, prime, width)
            whole = span(rows, prime, width)
            self.assertEqual(span(found, prime, width), whole, rows)
            rank = rank_of(rows, prime)
            self.assertIs(rank.__class__, int)
            self.assertEqual(prime ** rank, len(whole), rows)
            self.assertEqual(rank, len(found))

    def test_all_small_rows(self):
        for prime, many, width in (
                (2, 1, 1), (2, 1, 3), (2, 3, 1), (2, 2, 2), (2, 3, 3), (2, 2, 4), (2, 4, 2),
                (3, 1, 2), (3, 2, 2), (3, 2, 3), (3, 3, 2), (5, 1, 2), (5, 2, 2), (7, 2, 2)):
            self.check_all(prime, many, width)

    def test_told_rows(self):
        self.assertEqual(echelon([[1, 2, 3], [4, 5, 6]], 7), ((1, 0, 6), (0, 1, 2)))
        self.assertEqual(echelon([[0, 2], [3, 0]], 5), ((1, 0), (0, 1)))
        self.assertEqual(echelon([[0, 0, 3], [0, 2, 1]], 7), ((0, 1, 0), (0, 0, 1)))
        self.assertEqual(echelon([[2, 4, 6]], 7), ((1, 2, 3),))
        self.assertEqual(echelon([[1, 1], [1, 1]], 2), ((1, 1),))
        self.assertEqual(echelon([[1, 1], [1, -1]], 2), ((1, 1),))
        self.assertEqual(echelon([[2, 3]], LARGEST), ((1, 500000005),))
        self.assertEqual(rank_of([[1, 2], [2, 4]], 7), 1)
        self.assertEqual(rank_of([[1, 2], [2, 5]], 7), 2)
        self.assertEqual(rank_of([[1, 2], [3, 4]], 2), 1)

    def test_the_rank_hangs_on_the_prime(self):
        rows = [[2, 1], [1, 4]]
        for prime in PRIMES:
            self.assertEqual(rank_of(rows, prime), 1 if prime == 7 else 2)

    def test_known_forms(self):
        chance = random.Random(52)
        for prime in PRIMES:
            for width in range(1, 8):
                for rank in range(width + 1):
                    form = random_echelon(chance, rank, width, prime)
                    for more in (0, 1, 4):
                        rows = mixed(chance, form, rank + more, width, prime)
                        self.assertEqual(echelon(rows, prime), tuple(map(tuple, form)), (prime, rows))
                        self.assertEqual(rank_of(rows, prime), rank)

    def test_wide_and_long_rows(self):
        chance = random.Random(53)
        for rank, many, width in ((40, 60, 40), (7, 7, 60), (5, 90, 6), (20, 40, 40)):
            form = random_echelon(chance, rank, width, LARGEST)
            rows = mixed(chance, form, many, width, LARGEST)
            self.assertEqual(echelon(rows, LARGEST), tuple(map(tuple, form)))
            self.assertEqual(rank_of(rows, LARGEST), rank)

    def test_integers_of_any_size_and_sign(self):
        self.assertEqual(echelon([[-1, -2]], 7), ((1, 2),))
        self.assertEqual(echelon([[8, 15]], 7), ((1, 1),))
        self.assertEqual(echelon([[7, -14, 3 * 10 ** 30]], 7), ((0, 0, 1),))
        self.assertEqual(echelon([[7, 0], [0, -49]], 7), ())
        self.assertEqual(echelon([[10 ** 200 * LARGEST + 5, -5]], LARGEST), ((1, LARGEST - 1),))
        self.assertEqual(rank_of([[7, -14]], 7), 0)
        self.assertEqual(rank_of([[-1, 1], [6, 8]], 7), 1)
        self.assertEqual(rank_of([[LARGEST, 1], [2 * LARGEST, -1]], LARGEST), 1)

    def test_zeros_and_nothing(self):
        for prime in (2, 7, LARGEST):
            for rows in ([], (), [[]], [()], ([], []), [[], [], []], [[0]], [[0, 0]], [[0], [0], [0]], [[0, 0]] * 3):
                self.assertEqual(echelon(rows, prime), ())
                self.assertEqual(rank_of(rows, prime), 0)
        self.assertEqual(echelon([[0, 0], [0, 3], [0, 0]], 7), ((0, 1),))

    def test_tuples_for_lists(self):
        for rows in ([[1, 2], [3, 4]], ((1, 2), (3, 4)), [(1, 2), [3, 4]], ([1, 2], (3, 4))):
            self.assertEqual(echelon(rows, 7), ((1, 0), (0, 1)))
            self.assertEqual(rank_of(rows, 7), 2)
            self.assertEqual(solved(rows, (5, 6), 7), (3, 1))
            self.assertEqual(solved(rows, [5, 6], 7), (3, 1))


class SolvedTest(unittest.TestCase):
    def check(self, rows, right, prime):
        """What is returned, put in; or whether it is None."""
        found = solved(rows, right, prime)
        if found is None:
            return False
        self.assertIs(found.__class__, tuple)
        self.assertEqual(len(found), len(rows[0]))
        for number in found:
            self.assertIs(number.__class__, int)
            self.assertTrue(0 <= number < prime)
        for row, number in zip(rows, right):
            self.assertEqual((sum(a * b for a, b in zip(row, found)) - number) % prime, 0, (rows, right, prime))
        return True

    def test_all_small_rows(self):
        for prime, many, width in ((2, 2, 2), (2, 3, 2), (2, 2, 3), (3, 2, 2), (3, 1, 2), (3, 2, 1), (5, 1, 2)):
            for numbers in product(range(prime), repeat=many * width):
                rows = [list(numbers[k * width:(k + 1) * width]) for k in range(many)]
                columns = [[row[at] for row in rows] for at in range(width)]
                within = span(columns, prime, many)
                for right in product(range(prime), repeat=many):
                    self.assertEqual(self.check(rows, list(right), prime), right in within, (rows, right, prime))

    def test_told_rows(self):
        self.assertEqual(solved([[1, 2], [3, 4]], [5, 6], 7), (3, 1))
        self.assertEqual(solved([[2]], [3], 7), (5,))
        self.assertEqual(solved([[2]], [1], LARGEST), (500000004,))
        self.assertEqual(solved([[1, 0], [0, 1], [1, 1]], [2, 3, 5], 7), (2, 3))
        self.assertIsNone(solved([[1, 0], [0, 1], [1, 1]], [2, 3, 6], 7))
        self.assertIsNone(solved([[1, 2], [2, 4]], [1, 1], 7))
        self.assertIsNone(solved([[0, 0]], [1], 7))
        self.assertIsNone(solved([[7, -7]], [6], 7))
        self.assertTrue(self.check([[0, 0]], [0], 7))
        self.assertTrue(self.check([[0, 0]], [-49], 7))
        self.assertTrue(self.check([[0, 3, 1]], [4], 7))

    def test_no_answer_and_the_prime(self):
        rows, right = [[2, 1], [1, 4]], [1, 0]
        for prime in PRIMES:
            self.assertEqual(self.check(rows, right, prime), prime != 7)

    def test_columns_of_nothing(self):
        for many in (1, 2, 3):
            self.assertEqual(solved([[]] * many, [0] * many, 7), ())
            self.assertEqual(solved([[]] * many, [7] * many, 7), ())
            self.assertIsNone(solved([[]] * many, [0] * (many - 1) + [1], 7))

    def test_great_rows(self):
        chance = random.Random(54)
        for prime in PRIMES:
            for rank, many, width in ((3, 3, 3), (2, 5, 4), (4, 4, 7), (0, 2, 3), (12, 20, 12), (6, 30, 12)):
                rows = mixed(chance, random_echelon(chance, rank, width, prime), many, width, prime)
                told = [chance.randrange(prime) for _ in range(width)]
                right = [sum(a * b for a, b in zip(row, told)) - prime * chance.randrange(10 ** 15) for row in rows]
                self.assertTrue(self.check(rows, right, prime))
                if rank == width:
                    self.assertEqual(solved(rows, right, prime), tuple(told))

    def test_one_row_that_says_otherwise(self):
        chance = random.Random(55)
        for prime in PRIMES:
            rows = mixed(chance, random_echelon(chance, 3, 6, prime), 5, 6, prime)
            told = [chance.randrange(prime) for _ in range(6)]
            rows.append([sum(column) for column in zip(*rows)])
            right = [sum(a * b for a, b in zip(row, told)) for row in rows]
            self.assertTrue(self.check(rows, right, prime))
            right[-1] += 1
            self.assertIsNone(solved(rows, right, prime))

    def test_equal_calls_give_equal_results(self):
        for rows, right in (([[1, 2, 3]], [4]), ([[0, 0, 0]], [0]), ([[1, 1, 0], [0, 1, 1]], [1, 2])):
            self.assertEqual(solved(rows, right, 7), solved(rows, right, 7))


class ArgumentsTest(unittest.TestCase):
    def test_they_are_not_changed(self):
        chance = random.Random(56)
        for prime in (2, 7, LARGEST):
            for many, width in ((1, 1), (3, 2), (2, 3), (4, 4)):
                rows = [[chance.randrange(-50, 50) for _ in range(width)] for _ in range(many)]
                rows[0][0] = 0
                right = [chance.randrange(-50, 50) for _ in range(many)]
                inner, told = list(rows), copy.deepcopy((rows, right))
                rank_of(rows, prime)
                echelon(rows, prime)
                solved(rows, right, prime)
                self.assertEqual((rows, right), told)
                for row, before in zip(rows, inner):
                    self.assertIs(row, before)

    def test_they_are_not_changed_by_a_refused_call(self):
        for rows, right in (([[1, 2], [3]], [1, 2]), ([[9, 8]], [1, 2]), ([[9, True]], [1])):
            told = copy.deepcopy((rows, right))
            for prime in (7, 8):
                with self.assertRaises(BadNumber):
                    solved(rows, right, prime)
                self.assertEqual((rows, right), told)


if __name__ == "__main__":
    unittest.main()
