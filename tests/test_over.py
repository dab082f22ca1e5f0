import unittest

from flaglong.limbs import over, pull, right, times
from tests.support import BASE, LENGTHS, TOP, CallPromises, CarriedOn, Guarded, limit, sample_lists, told, whole

HIGH = 2 ** 63
DIVISORS = (1, 2, 3, 2 ** 32, HIGH, TOP)
REFUSED = ((0, 0), (0, 1), (0, TOP), (1, 1), (1, 2), (2, 2), (2, 3), (3, 3), (3, TOP), (2 ** 32, 2 ** 32),
           (2 ** 32, 2 ** 32 + 1), (HIGH, HIGH), (HIGH, TOP), (TOP - 1, TOP - 1), (TOP - 1, TOP), (TOP, TOP))


def expected_quotient(d, r, a):
    if d == 0 or r >= d:
        return [-3]
    total = whole(a) + r * limit(a)
    return told(0, total // d, a) + [total % d]


def below(end, numbers):
    return sorted({number for number in numbers if 0 <= number < end})


class OverTest(CallPromises, CarriedOn, unittest.TestCase):
    call = staticmethod(over)
    expected = staticmethod(expected_quotient)
    parameters = ("d", "r", "a")

    def answer_in_parts(self, numbers, lower, higher):
        first = self.call(*numbers, *higher)
        if first == [-3]:
            return first
        second = self.call(numbers[0], first[-1], *lower)
        return [0, first[1] + second[1]] + second[2:-1] + first[2:-1] + second[-1:]

    def accepted(self, seeds):
        """Samples that are not refused, with divisors of every width."""
        for (d, r), (limbs,) in self.samples(seeds):
            for narrower in range(64):
                divisor = max(d >> narrower, 1)
                yield divisor, r % divisor, limbs

    def test_ordinary(self):
        self.assertEqual(over(6, 0, [42]), [0, 1, 7, 0])
        self.assertEqual(over(6, 0, [45]), [0, 1, 7, 3])
        self.assertEqual(over(10, 0, [43, 50]), [0, 2, 4, 5, 3])
        self.assertEqual(over(0x100, 0x99, [0x2233445566778877, 0xAABBCCDDEEFF0011]),
                         [0, 2, 0x1122334455667788, 0x99AABBCCDDEEFF00, 0x77])

    def test_no_limbs(self):
        for d in DIVISORS:
            for r in below(d, (0, 1, d // 2, d - 1)):
                self.assertEqual(over(d, r, []), [0, 0, r])

    def test_one_limb(self):
        self.assertEqual(over(1, 0, [0]), [0, 1, 0, 0])
        self.assertEqual(over(1, 0, [TOP]), [0, 1, TOP, 0])
        self.assertEqual(over(2, 0, [TOP]), [0, 1, HIGH - 1, 1])
        self.assertEqual(over(2, 1, [TOP]), [0, 1, TOP, 1])
        self.assertEqual(over(3, 0, [TOP]), [0, 1, TOP // 3, 0])
        self.assertEqual(over(3, 2, [TOP]), [0, 1, TOP, 2])
        self.assertEqual(over(2 ** 32, 1, [5]), [0, 1, 2 ** 32, 5])
        self.assertEqual(over(HIGH, HIGH - 1, [0]), [0, 1, TOP - 1, 0])
        self.assertEqual(over(TOP, 0, [TOP - 1]), [0, 1, 0, TOP - 1])
        self.assertEqual(over(TOP, 0, [TOP]), [0, 1, 1, 0])
        self.assertEqual(over(TOP, TOP - 1, [TOP]), [0, 1, TOP, TOP - 1])

    def test_twenty_limbs(self):
        self.assertEqual(over(7, 0, [21] * 20), [0, 20] + [3] * 20 + [0])
        self.assertEqual(over(7, 0, [26] + [21] * 19), [0, 20] + [3] * 20 + [5])
        self.assertEqual(over(TOP, 0, [0] * 20), [0, 20] + [0] * 21)
        self.assertEqual(over(TOP, 0, [TOP] * 20), [0, 20] + [1] * 20 + [0])
        self.assertEqual(over(3, 0, [0] * 19 + [1]), [0, 20] + [TOP // 3] * 19 + [0, 1])

    def test_highest_rest_comes_in(self):
        for length in LENGTHS:
            for d in DIVISORS:
                self.assertEqual(over(d, d - 1, [TOP] * length), [0, length] + [TOP] * length + [d - 1])

    def test_rests_about_the_divisor(self):
        for length in LENGTHS:
            for seed in range(10):
                for d in DIVISORS + (5, 10, 2 ** 32 - 1, HIGH + 1, TOP - 1):
                    for r in below(BASE, (0, 1, d - 2, d - 1, d, d + 1, TOP)):
                        self.assert_answer((d, r), sample_lists(1, length, seed))

    def test_rest_stands_last(self):
        for d, r, limbs in self.accepted(4):
            answer = over(d, r, limbs)
            self.assertEqual(len(answer), len(limbs) + 3)
            self.assertEqual(answer[:2], [0, len(limbs)])
            self.assertEqual(answer[-1], (whole(limbs) + r * limit(limbs)) % d)

    def test_divisors_of_every_width(self):
        for d, r, limbs in self.accepted(10):
            self.assert_answer((d, r), [limbs])

    def test_refused_at_each_length(self):
        for d, r in REFUSED:
            for length in LENGTHS:
                for limbs in ([0] * length, [TOP] * length, *sample_lists(3, length, 0)):
                    answer = over(d, r, limbs)
                    self.assertEqual(answer, [-3], (d, r, limbs))
                    self.assertIs(type(answer[0]), int)

    def test_refusal_leaves_all_as_it_was(self):
        limbs = [TOP, 0, 5]
        for d, r in REFUSED:
            answer = over(d, r, Guarded(limbs))
            answer.append(1)
            self.assertEqual(over(d, r, limbs), [-3])
            self.assertEqual(limbs, [TOP, 0, 5])
            self.assertEqual(over(3, 2, limbs), expected_quotient(3, 2, limbs))

    def test_divisor_of_one(self):
        for numbers, (limbs,) in self.samples(10):
            self.assertEqual(over(1, 0, limbs), [0, len(limbs)] + limbs + [0])

    def test_by_two_is_a_step_right(self):
        for numbers, (limbs,) in self.samples(20):
            for carry in (0, 1):
                stepped = right(carry, limbs)
                self.assertEqual(over(2, carry, limbs), [0] + stepped[1:] + stepped[:1])

    def test_by_a_power_of_two_is_a_pull(self):
        for (d, r), (limbs,) in self.samples(4):
            for k in range(64):
                pulled = pull(k, r, limbs)
                self.assertEqual(over(2 ** k, r % 2 ** k, limbs), [0] + pulled[1:] + pulled[:1])

    def test_takes_back_a_product(self):
        for d, r, limbs in self.accepted(10):
            product = times(d, r, limbs)
            self.assertEqual(over(d, product[0], product[2:]), [0, len(limbs)] + limbs + [r], (d, r, limbs))

    def test_takes_back_a_product_of_edges(self):
        for d in DIVISORS:
            for given in below(d, (0, 1, d - 1)):
                for limbs in ([], [0], [TOP], [TOP, 0], [0, TOP], [HIGH] * 20, [TOP] * 20):
                    product = times(d, given, limbs)
                    self.assertEqual(over(d, product[0], product[2:]), [0, len(limbs)] + limbs + [given])

    def test_is_taken_back_by_a_product(self):
        for d, r, limbs in self.accepted(10):
            divided = over(d, r, limbs)
            self.assertEqual(times(d, divided[-1], divided[2:-1]), [r, len(limbs)] + limbs, (d, r, limbs))


if __name__ == "__main__":
    unittest.main()
