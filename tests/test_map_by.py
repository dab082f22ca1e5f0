import unittest

from flaglong.limbs import map_by
from tests.support import BYTE_LENGTHS, EveryCall, Guarded, sample_bytes

EVERY_BYTE = list(range(256))


def expected_map(p, t):
    return [0, len(p)] + list(bytes(p).translate(bytes(t)))


class MapByTest(EveryCall, unittest.TestCase):
    call = staticmethod(map_by)
    expected = staticmethod(expected_map)
    parameters = ("p", "t")
    lengths = BYTE_LENGTHS
    samples_of_a_length = 100

    def sample_lists(self, length, seed):
        return [sample_bytes(length, seed * 2), sample_bytes(256, seed * 2 + 1)]

    def test_ordinary(self):
        table = list(EVERY_BYTE)
        table[65] = 97
        table[66] = 0
        table[0] = 255
        self.assertEqual(map_by([65, 66, 67, 65], table), [0, 4, 97, 0, 67, 97])
        self.assertEqual(map_by([0], table), [0, 1, 255])
        self.assertEqual(map_by([255], table), [0, 1, 255])

    def test_no_bytes(self):
        for table in (EVERY_BYTE, [0] * 256, [255] * 256):
            self.assertEqual(map_by([], table), [0, 0])

    def test_three_hundred_bytes(self):
        shifted = EVERY_BYTE[1:] + [0]
        self.assertEqual(map_by([7] * 300, shifted), [0, 300] + [8] * 300)
        self.assertEqual(map_by([255] * 150 + [0] * 150, shifted), [0, 300] + [0] * 150 + [1] * 150)

    def test_every_length(self):
        for length in range(301):
            for seed in range(4):
                self.assert_answer((), self.sample_lists(length, seed))

    def test_table_of_all_places_alike(self):
        for byte in EVERY_BYTE:
            for row in ([], [byte], EVERY_BYTE, sample_bytes(300, byte)):
                self.assertEqual(map_by(row, [byte] * 256), [0, len(row)] + [byte] * len(row))

    def test_table_that_changes_nothing(self):
        for length in range(301):
            row = sample_bytes(length, 0)
            self.assertEqual(map_by(row, EVERY_BYTE), [0, length] + row)

    def test_reversed_table(self):
        reverse = EVERY_BYTE[::-1]
        self.assertEqual(map_by(EVERY_BYTE, reverse), [0, 256] + reverse)
        for length in range(301):
            row = sample_bytes(length, 0)
            self.assertEqual(map_by(row, reverse), [0, length] + [255 - byte for byte in row])

    def test_every_byte(self):
        for seed in range(20):
            table = sample_bytes(256, seed)
            self.assertEqual(map_by(EVERY_BYTE, table), [0, 256] + table)
            for byte in EVERY_BYTE:
                self.assertEqual(map_by([byte], table), [0, 1, table[byte]])

    def test_one_place_of_the_table(self):
        for byte in EVERY_BYTE:
            table = [0] * 256
            table[byte] = 1
            self.assertEqual(map_by(EVERY_BYTE, table), [0, 256] + table)

    def test_same_list_twice(self):
        for seed in range(20):
            same = sample_bytes(256, seed)
            kept = list(same)
            self.assertEqual(map_by(same, same), expected_map(kept, kept))
            self.assertEqual(same, kept)
        turned = EVERY_BYTE[1:] + [0]
        self.assertEqual(map_by(turned, turned), [0, 256] + EVERY_BYTE[2:] + [0, 1])
        guarded = Guarded(turned)
        self.assertEqual(map_by(guarded, guarded), [0, 256] + EVERY_BYTE[2:] + [0, 1])

    def test_cut_in_two(self):
        row, table = self.sample_lists(300, 1)
        for cut in range(301):
            lower = map_by(row[:cut], table)
            higher = map_by(row[cut:], table)
            self.assertEqual(map_by(row, table), [0, 300] + lower[2:] + higher[2:])


if __name__ == "__main__":
    unittest.main()
