"""Long numbers, lists of limbs of 64 bits, and packed decimals, both with the lowest first; tables of bytes."""

BASE = 18446744073709551616


def told(number, row):
    """The one list that a call gives back: its number, how many limbs or bytes are told, and these."""
    return [number, len(row)] + row


def add(carry, a, b):
    """The carry out of A + B + carry, and the sum's limbs."""
    sums = []
    for x, y in zip(a, b, strict=True):
        total = x + y + carry
        sums.append(total % BASE)
        carry = total // BASE
    return told(carry, sums)


def sub(carry, a, b):
    """The borrow out of A - B - carry, and the difference's limbs."""
    differences = []
    for x, y in zip(a, b, strict=True):
        difference = x - y - carry
        differences.append(difference % BASE)
        # A bare comparison would answer True or False, and only whole numbers are given back.
        carry = 1 if difference < 0 else 0
    return told(carry, differences)


def left(carry, a):
    """The bit that 2 A + carry puts out at the top, and the limbs of what stays."""
    # 2 A is A + A, so a step left is a sum and needs no row of its own.
    return add(carry, a, a)


def right(carry, a):
    """The lowest bit of A + carry W, and the limbs of its half."""
    return pull(1, carry, a)


def push(k, given, a):
    """What A 2^k + (given modulo 2^k) puts out at the top, and the limbs of what stays; k counts modulo 64."""
    unit = 1 << (k % 64)
    return times(unit, given % unit, a)


def pull(k, given, a):
    """The lowest k bits of A + (given modulo 2^k) W, and the limbs of what is above them; k counts modulo 64."""
    unit = 1 << (k % 64)
    # What comes in is below the unit, so this division is never refused.
    divided = over(unit, given % unit, a)
    return told(divided[-1], divided[2:-1])


def turn(carry, k, a):
    """The highest bit of A + carry W, a number of 64 n + 1 bits, turned left by k places, and the limbs below it."""
    n = len(a)
    bits = 64 * n + 1
    stepped = left(carry, a)
    # The number stands here twice, end to end: turned by any k, it is a run of its own length in this row.
    twice = a + stepped[2:] + [stepped[0] + 2 * carry]
    below = bits - k % bits
    # The slice leaves out whole limbs, and pull, which counts modulo 64, the bits that remain.
    run = pull(below, 0, twice[below // 64:])[2:]
    return told(run[n] % 2, run[:n])


def mean(a, b):
    """The lowest bit of A + B, and the limbs of its half."""
    total = add(0, a, b)
    return right(total[0], total[2:])


def times(m, given, a):
    """What A m + given puts out at the top, and the limbs of what stays."""
    carry = given
    products = []
    for limb in a:
        total = limb * m + carry
        products.append(total % BASE)
        carry = total // BASE
    return told(carry, products)


def over(d, r, a):
    """The limbs of A + r W divided by d, and behind them what remains; -3 where the quotient has no room or d is 0."""
    # No r is below a d of 0, so this refuses that too.
    if r >= d:
        return [-3]
    rest = r
    quotients = []
    for limb in reversed(a):
        total = rest * BASE + limb
        quotients.append(total // d)
        rest = total % d
    # The walk begins at the highest limb, but the lowest is told first.
    quotients.reverse()
    return told(0, quotients) + [rest]


def decimal(minus, carry, a, b):
    """The carry out of A + B + carry, or with minus the borrow out of A - B - carry, and the bytes of what stays.

    -1 - i where byte i, the first such, of a or b is not two decimal digits.
    """
    packed = []
    for x, y in zip(a, b, strict=True):
        if max(x // 16, x % 16, y // 16, y % 16) > 9:
            return [-1 - len(packed)]
        # A byte is 16 for each ten that it stands for, 6 too many.
        first = x - 6 * (x // 16)
        second = y - 6 * (y // 16)
        total = first - second - carry if minus else first + second + carry
        rest = total % 100
        packed.append(rest + 6 * (rest // 10))
        carry = 0 if total == rest else 1
    return told(carry, packed)


def map_by(p, t):
    """0, and each byte of p replaced by the table's at that place."""
    return told(0, [t[byte] for byte in p])
