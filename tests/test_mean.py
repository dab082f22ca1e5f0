import unittest

from flaglong.limbs import mean
from tests.support import TOP, CallPromises, TwoListsOfOneLength, told, whole

HIGH = 2 ** 63


def expected_mean(a, b):
    total = whole(a) + whole(b)
    return told(total % 2, total // 2, a)


class MeanTest(CallPromises, TwoListsOfOneLength, unittest.TestCase):
    call = staticmethod(mean)
    expected = staticmethod(expected_mean)
    parameters = ("a", "b")

    def test_ordinary(self):
        self.assertEqual(mean([4], [8]), [0, 1, 6])
        self.assertEqual(mean([10, 20], [30, 40]), [0, 2, 20, 30])

    def test_no_limbs(self):
        self.assertEqual(mean([], []), [0, 0])

    def test_one_limb(self):
        self.assertEqual(mean([0], [0]), [0, 1, 0])
        self.assertEqual(mean([0], [1]), [1, 1, 0])
        self.assertEqual(mean([1], [1]), [0, 1, 1])
        self.assertEqual(mean([0], [TOP]), [1, 1, HIGH - 1])
        self.assertEqual(mean([TOP], [0]), [1, 1, HIGH - 1])
        self.assertEqual(mean([1], [TOP]), [0, 1, HIGH])
        self.assertEqual(mean([TOP - 1], [TOP]), [1, 1, TOP - 1])
        self.assertEqual(mean([TOP], [TOP]), [0, 1, TOP])

    def test_twenty_limbs(self):
        self.assertEqual(mean([2] * 20, [4] * 20), [0, 20] + [3] * 20)
        self.assertEqual(mean([0] * 20, [TOP] * 20), [1, 20] + [TOP] * 19 + [HIGH - 1])
        self.assertEqual(mean([0] * 20, [1] * 20), [1, 20] + [HIGH] * 19 + [0])

    def test_odd_sums_are_rounded_down(self):
        self.assertEqual(mean([5], [8]), [1, 1, 6])
        self.assertEqual(mean([8], [5]), [1, 1, 6])
        self.assertEqual(mean([3, 1], [2, 0]), [1, 2, HIGH + 2, 0])
        self.assertEqual(mean([3, 1], [3, 0]), [0, 2, HIGH + 3, 0])

    def test_sums_of_the_limit_or_more(self):
        for length in range(1, 21):
            full = [TOP] * length
            one = [1] + [0] * (length - 1)
            self.assertEqual(mean(full, full), [0, length] + full)
            self.assertEqual(mean(full, one), [0, length] + [0] * (length - 1) + [HIGH])
            self.assertEqual(mean(full, [TOP - 1] + full[1:]), [1, length, TOP - 1] + full[1:])

    def test_same_list_twice(self):
        for limbs in ([], [0], [7], [TOP], [TOP, 7, 0, TOP], [TOP] * 20):
            kept = list(limbs)
            self.assertEqual(mean(limbs, limbs), [0, len(kept)] + kept)
            self.assertEqual(limbs, kept)

    def test_either_list_first(self):
        for numbers, (a, b) in self.samples(20):
            self.assertEqual(mean(a, b), mean(b, a))


if __name__ == "__main__":
    unittest.main()
