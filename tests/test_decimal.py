import itertools
import unittest

from flaglong.limbs import decimal
from tests.support import (
    BYTE_LENGTHS, CallPromises, CarriedOn, Guarded, TwoListsOfOneLength, sample_bytes, sample_limb,
)

BYTE_EDGES = (0x00, 0x09, 0x10, 0x90, 0x99)
GOOD = [int(str(number), 16) for number in range(100)]
BAD = [byte for byte in range(256) if byte not in GOOD]
# Many zeros and nines among the samples make long carries.
SAMPLED = GOOD + [BYTE_EDGES[which % len(BYTE_EDGES)] for which in range(256 - len(GOOD))]
WAYS = ((0, 0), (0, 1), (1, 0), (1, 1))


def number_of(decimals):
    """The number that bytes of two digits stand for: written in base 16 from the highest, they are its digits."""
    return int("0" + bytes(reversed(decimals)).hex())


def bytes_of(number, length):
    """The bytes of a number below 100^length."""
    digits = str(100 ** length + number)[1:]
    return list(reversed(bytes.fromhex(digits)))


def expected_decimal(minus, carry, a, b):
    for place, pair in enumerate(zip(a, b, strict=True)):
        if not bytes(pair).hex().isdigit():
            return [-1 - place]
    end = 100 ** len(a)
    if minus:
        number = 1 if number_of(a) < number_of(b) + carry else 0
        value = number_of(a) - number_of(b) - carry
    else:
        number = 1 if number_of(a) + number_of(b) + carry >= end else 0
        value = number_of(a) + number_of(b) + carry
    return [number, len(a)] + bytes_of(value % end, len(a))


class DecimalTest(CallPromises, CarriedOn, TwoListsOfOneLength, unittest.TestCase):
    call = staticmethod(decimal)
    expected = staticmethod(expected_decimal)
    parameters = ("minus", "carry", "a", "b")
    lengths = BYTE_LENGTHS
    edges = (0xFF, 0xA0, 0x0A) + BYTE_EDGES
    samples_of_a_length = 200
    # Python turns no text of more than 4300 digits into a number.
    far_longer = 2000

    def sample_lists(self, length, seed):
        """Two lists of decimals; in every fourth pair one byte is not two digits."""
        lists = [[SAMPLED[byte] for byte in sample_bytes(length, seed * 2 + which)] for which in range(2)]
        if seed % 4 == 3 and length:
            chosen = sample_limb(seed * 512 + length)
            lists[chosen // length % 2][chosen % length] = BAD[chosen % len(BAD)]
        return lists

    def answer_in_parts(self, numbers, lower, higher):
        minus, carry = numbers
        first = decimal(minus, carry, *lower)
        if first[0] < 0:
            return first
        second = decimal(minus, first[0], *higher)
        if second[0] < 0:
            return [second[0] - len(lower[0])]
        return [second[0], first[1] + second[1]] + first[2:] + second[2:]

    def assert_refused(self, place, a, b):
        for minus, carry in WAYS:
            self.assertEqual(decimal(minus, carry, a, b), [-1 - place], (minus, carry, a, b))

    def test_ordinary_sums(self):
        self.assertEqual(decimal(0, 0, [0x12], [0x34]), [0, 1, 0x46])
        self.assertEqual(decimal(0, 1, [0x12], [0x34]), [0, 1, 0x47])
        self.assertEqual(decimal(0, 0, [0x15], [0x27]), [0, 1, 0x42])
        self.assertEqual(decimal(0, 0, [0x75, 0x12], [0x50, 0x34]), [0, 2, 0x25, 0x47])
        self.assertEqual(decimal(0, 0, [0x10, 0x75], [0x20, 0x50]), [1, 2, 0x30, 0x25])

    def test_ordinary_differences(self):
        self.assertEqual(decimal(1, 0, [0x46], [0x34]), [0, 1, 0x12])
        self.assertEqual(decimal(1, 1, [0x46], [0x34]), [0, 1, 0x11])
        self.assertEqual(decimal(1, 0, [0x42], [0x27]), [0, 1, 0x15])
        self.assertEqual(decimal(1, 0, [0x25, 0x47], [0x50, 0x34]), [0, 2, 0x75, 0x12])
        self.assertEqual(decimal(1, 0, [0x30, 0x25], [0x20, 0x50]), [1, 2, 0x10, 0x75])

    def test_no_bytes(self):
        for minus in (0, 1):
            self.assertEqual(decimal(minus, 0, [], []), [0, 0])
            self.assertEqual(decimal(minus, 1, [], []), [1, 0])

    def test_one_byte(self):
        self.assertEqual(decimal(0, 0, [0x00], [0x00]), [0, 1, 0x00])
        self.assertEqual(decimal(0, 1, [0x09], [0x00]), [0, 1, 0x10])
        self.assertEqual(decimal(0, 0, [0x09], [0x90]), [0, 1, 0x99])
        self.assertEqual(decimal(0, 0, [0x10], [0x90]), [1, 1, 0x00])
        self.assertEqual(decimal(0, 1, [0x99], [0x99]), [1, 1, 0x99])
        self.assertEqual(decimal(1, 0, [0x10], [0x09]), [0, 1, 0x01])
        self.assertEqual(decimal(1, 1, [0x10], [0x00]), [0, 1, 0x09])
        self.assertEqual(decimal(1, 0, [0x09], [0x10]), [1, 1, 0x99])
        self.assertEqual(decimal(1, 0, [0x00], [0x90]), [1, 1, 0x10])
        self.assertEqual(decimal(1, 1, [0x00], [0x99]), [1, 1, 0x00])

    def test_every_pair_of_bytes(self):
        for first, second in itertools.product(range(256), repeat=2):
            for minus, carry in WAYS:
                self.assert_answer((minus, carry), ([first], [second]))

    def test_three_hundred_bytes(self):
        self.assertEqual(decimal(0, 0, [0x12] * 300, [0x34] * 300), [0, 300] + [0x46] * 300)
        self.assertEqual(decimal(1, 0, [0x46] * 300, [0x34] * 300), [0, 300] + [0x12] * 300)
        self.assertEqual(decimal(0, 0, [0x55] * 300, [0x55] * 300), [1, 300, 0x10] + [0x11] * 299)
        self.assertEqual(decimal(1, 0, [0x11] * 300, [0x55] * 300), [1, 300, 0x56] + [0x55] * 299)

    def test_every_length(self):
        for length in range(301):
            for seed in range(8):
                for minus, carry in WAYS:
                    self.assert_answer((minus, carry), self.sample_lists(length, seed))

    def test_sums_about_the_end(self):
        for length in range(1, 301):
            nines = [0x99] * length
            zeros = [0x00] * length
            mixed = self.sample_lists(length, 0)[0]
            rest = bytes_of(100 ** length - 1 - number_of(mixed), length)
            for a, b in ((nines, zeros), (zeros, nines), (mixed, rest)):
                self.assertEqual(decimal(0, 0, a, b), [0, length] + nines)
                self.assertEqual(decimal(0, 1, a, b), [1, length] + zeros)
            self.assertEqual(decimal(0, 0, nines, nines), [1, length, 0x98] + nines[1:])
            self.assertEqual(decimal(0, 1, nines, nines), [1, length] + nines)

    def test_differences_about_nothing(self):
        for length in range(1, 301):
            nines = [0x99] * length
            zeros = [0x00] * length
            for same in (nines, zeros, self.sample_lists(length, 0)[0]):
                self.assertEqual(decimal(1, 0, same, list(same)), [0, length] + zeros)
                self.assertEqual(decimal(1, 1, same, list(same)), [1, length] + nines)
            self.assertEqual(decimal(1, 0, zeros, nines), [1, length, 0x01] + zeros[1:])
            self.assertEqual(decimal(1, 1, zeros, nines), [1, length] + zeros)

    def test_carry_from_each_byte_of_three_hundred(self):
        for start in range(300):
            below = [0x00] * start
            one = below + [0x01] + [0x00] * (299 - start)
            nines = below + [0x99] * (300 - start)
            self.assertEqual(decimal(0, 0, nines, one), [1, 300] + [0x00] * 300)
            self.assertEqual(decimal(1, 0, [0x00] * 300, one), [1, 300] + nines)

    def test_carry_up_to_each_byte_of_three_hundred(self):
        for end in range(300):
            above = [0x00] * (299 - end)
            carried = [0x00] * end + [0x01] + above
            nines = [0x99] * end + [0x00] + above
            self.assertEqual(decimal(0, 1, nines, [0x00] * 300), [0, 300] + carried)
            self.assertEqual(decimal(1, 1, carried, [0x00] * 300), [0, 300] + nines)

    def test_every_byte_alone(self):
        for byte in range(256):
            for lists in (([byte], [0x00]), ([0x00], [byte]), ([byte], [0x99]), ([0x99], [byte])):
                for minus, carry in WAYS:
                    refused = decimal(minus, carry, *lists) == [-1]
                    self.assertEqual(refused, byte // 16 >= 10 or byte % 16 >= 10, lists)

    def test_halves_that_are_no_digits(self):
        for byte in (0x0A, 0x9A, 0x0F, 0xA0, 0xA9, 0xF0, 0xAA, 0xFF):
            self.assert_refused(0, [byte], [0x12])
            self.assert_refused(0, [0x12], [byte])

    def test_refused_at_each_place(self):
        for length in (1, 2, 20, 300):
            for place in range(length):
                for byte in (0x0A, 0xA0, 0xFF):
                    bad = [0x12] * place + [byte] + [0x12] * (length - 1 - place)
                    self.assert_refused(place, bad, [0x34] * length)
                    self.assert_refused(place, [0x34] * length, bad)

    def test_refused_at_the_last_of_three_hundred(self):
        for minus, carry in WAYS:
            self.assertEqual(decimal(minus, carry, [0x00] * 299 + [0x1A], [0x99] * 300), [-300])
            self.assertEqual(decimal(minus, carry, [0x99] * 300, [0x00] * 299 + [0xA1]), [-300])

    def test_first_of_two_is_told(self):
        for first, second in itertools.combinations(range(12), 2):
            here = [0x12] * first + [0x0A] + [0x12] * (11 - first)
            there = [0x34] * second + [0xA0] + [0x34] * (11 - second)
            both = list(here)
            both[second] = 0xFF
            self.assert_refused(first, here, there)
            self.assert_refused(first, there, here)
            self.assert_refused(first, both, [0x34] * 12)
            self.assert_refused(first, [0x34] * 12, both)

    def test_both_at_one_place(self):
        for place in range(12):
            bad = [0x12] * place + [0xBC] + [0x12] * (11 - place)
            self.assert_refused(place, bad, [0xCB if byte == 0xBC else 0x99 for byte in bad])
            self.assert_refused(place, bad, bad)

    def test_refusal_far_up(self):
        for minus, carry in WAYS:
            self.assertEqual(decimal(minus, carry, [0x99] * 1999 + [0x9A], [0x00] * 2000), [-2000])

    def test_refusal_leaves_all_as_it_was(self):
        a = [0x99, 0x0A]
        b = [0x01, 0x00]
        for minus, carry in WAYS:
            answer = decimal(minus, carry, Guarded(a), Guarded(b))
            self.assertIs(type(answer), list)
            self.assertIs(type(answer[0]), int)
            answer.append(1)
            self.assertEqual(decimal(minus, carry, a, b), [-2])
            self.assertEqual([a, b], [[0x99, 0x0A], [0x01, 0x00]])
            self.assertEqual(decimal(0, 0, a[:1], b[:1]), [1, 1, 0x00])

    def test_same_list_twice(self):
        same = [0x75, 0x99, 0x50]
        self.assertEqual(decimal(0, 1, same, same), [1, 3, 0x51, 0x99, 0x01])
        self.assertEqual(decimal(1, 0, same, same), [0, 3, 0x00, 0x00, 0x00])
        self.assertEqual(same, [0x75, 0x99, 0x50])

    def test_a_difference_takes_back_a_sum(self):
        for (minus, carry), (a, b) in self.samples(20):
            there = decimal(minus, carry, a, b)
            if there[0] >= 0:
                back = decimal(1 - minus, carry, there[2:], b)
                self.assertEqual(back, there[:2] + a)


if __name__ == "__main__":
    unittest.main()
