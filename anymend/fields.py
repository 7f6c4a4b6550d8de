"""Numbers modulo a prime, and rows of them."""

from anymend.errors import BadNumber
from anymend.kinds import is_list, is_whole

LARGEST_PRIME = 10 ** 9 + 7

# With these witnesses the test of is_prime is exact for all numbers
# below 3 * 10 ** 24, far above what callers pass.
WITNESSES = (2, 3, 5, 7, 11, 13, 17, 19, 23, 29, 31, 37, 41)


def is_prime(number):
    """Whether a value is an integer that is a prime."""
    if not is_whole(number) or number < 2:
        return False
    for witness in WITNESSES:
        if number % witness == 0:
            return number == witness
    return all(passes(number, witness) for witness in WITNESSES)


def passes(number, witness):
    """Whether the powers of a witness are such as modulo a prime (Miller and Rabin)."""
    odd = number - 1
    halvings = 0
    while odd % 2 == 0:
        odd //= 2
        halvings += 1
    reached = power(witness, odd, number)
    if reached == 1:
        return True
    for _ in range(halvings):
        if reached == number - 1:
            return True
        reached = reached * reached % number
    return False


def power(base, exponent, modulus):
    """A power modulo a number above 1, by squaring."""
    result = 1
    square = base % modulus
    ahead = exponent
    while ahead > 0:
        if ahead % 2 == 1:
            result = result * square % modulus
        square = square * square % modulus
        ahead //= 2
    return result


def inverse(number, prime):
    """The number whose product with a number other than 0 is 1."""
    return power(number, prime - 2, prime)


def check_prime(prime):
    """BadNumber if a value is no prime that this package calculates with."""
    # The bound goes first, so that no huge number is tested.
    if not is_whole(prime) or prime > LARGEST_PRIME or not is_prime(prime):
        raise BadNumber("prime", prime)


def are_rows(rows):
    """Whether a value is a list of lists of integers, all of one length."""
    if not is_list(rows):
        return False
    for row in rows:
        if not are_integers(row) or len(row) != len(rows[0]):
            return False
    return True


def are_integers(row):
    """Whether a value is a list of integers."""
    return is_list(row) and all(is_whole(number) for number in row)


def check_rows(rows, prime):
    """The errors that all functions over rows have in common."""
    check_prime(prime)
    if not are_rows(rows):
        raise BadNumber("rows", rows)


def rank_of(rows, prime):
    """The rank of some rows."""
    check_rows(rows, prime)
    return len(reduced(rows, prime))


def echelon(rows, prime):
    """The rows with the same span that are in reduced echelon form."""
    check_rows(rows, prime)
    return reduced(rows, prime)


def solved(rows, right, prime):
    """Multiples of the columns of rows whose sum is right, or None."""
    check_rows(rows, prime)
    if not are_integers(right) or len(right) != len(rows):
        raise BadNumber("right", right)
    width = width_of(rows)
    answer = [0] * width
    for row in reduced([[*row, number] for row, number in zip(rows, right)], prime):
        # Ahead of its pivot a row has only 0, so the first 1 is the pivot.
        at = row.index(1)
        if at == width:
            return None
        answer[at] = row[width]
    return tuple(answer)


def width_of(rows):
    """How many columns rows have; no rows have none."""
    return len(rows[0]) if rows else 0


def reduced(rows, prime):
    """What echelon returns, for rows and a prime that are known to be right."""
    left = [[number % prime for number in row] for row in rows]
    done = []
    for column in range(width_of(rows)):
        at = row_with(left, column)
        if at is None:
            continue
        pivot = scaled(left.pop(at), column, prime)
        left = [cleared(row, pivot, column, prime) for row in left]
        done = [cleared(row, pivot, column, prime) for row in done]
        done.append(pivot)
    return tuple(tuple(row) for row in done)


def row_with(rows, column):
    """The index of the first row that has a number other than 0 in a column, or None."""
    for at, row in enumerate(rows):
        if row[column] != 0:
            return at
    return None


def scaled(row, column, prime):
    """The multiple of a row that has 1 in a column."""
    factor = inverse(row[column], prime)
    return [number * factor % prime for number in row]


def cleared(row, pivot, column, prime):
    """A row less the multiple of a pivot's row that leaves 0 in its column."""
    factor = row[column]
    if factor == 0:
        return row
    return [(number - factor * other) % prime for number, other in zip(row, pivot)]
