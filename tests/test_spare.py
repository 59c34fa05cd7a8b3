"""spare: spare pieces byte for byte, and its refusals."""

import itertools
import random
import unittest

from helper import by_itself, crc, number, piece, rows_of, some_bytes, some_frames, times
from soundkeeping.keeping import spare


class Spares(unittest.TestCase):
    def is_piece(self, g, j, frames):
        data = piece(g, j, frames)
        self.assertEqual(spare(g, j, rows_of(frames)), [len(data)] + data)


class ByHand(Spares):
    def test_all_its_bytes(self):
        # 128 is x^7, and 27 times it is 1.
        self.assertEqual(times(128, 27), 1)
        data = [0x4B, 0x50, 0x12, 0x34, 0, 0, 3, 0, 27, 27]
        self.assertEqual(spare(0x1234, 0, [0, 1, 1]), [14] + data + crc(data))

    def test_its_check_is_the_usual_one(self):
        # The usual trial: the bytes 1 to 9 as signs give CBF43926H.
        self.assertEqual(crc([ord(sign) for sign in "123456789"]), [0xCB, 0xF4, 0x39, 0x26])

    def test_one_frame_is_divided_by_128_and_j(self):
        for j in range(4):
            for byte in (1, 2, 77, 255):
                row = spare(0, j, [0, 1, byte])[8:-4]
                self.assertEqual([times(one, 128 + j) for one in row], [0, 1, byte])

    def test_the_divisor_is_the_exclusive_or(self):
        # Frame 3 alone isn't 0 at the last place: divided by 3 xor 129, which is 130.
        frames = [[1], [1], [1], [1, 9], [1]]
        self.assertEqual(times(spare(0, 1, rows_of(frames))[8 + 3], 130), 9)
        self.is_piece(0, 1, frames)

    def test_rows_of_unlike_lengths(self):
        # Behind each row's bytes stand bytes 0, and its length goes in too.
        answer = spare(7, 2, [0, 1, 5, 0, 3, 1, 2, 3, 0, 2, 8, 9])
        self.assertEqual(answer[0], 5 + 11)
        self.assertEqual(answer[1:8], [0x4B, 0x50, 0, 7, 2, 0, 5])
        self.assertEqual(times(answer[8 + 4], 1 ^ 130), 3)
        self.is_piece(7, 2, [[5], [1, 2, 3], [8, 9]])

    def test_the_second_frame(self):
        # 1 / 129 xor 1 / 128 over two frames of one byte 1.
        row = spare(0, 0, [0, 1, 1, 0, 1, 1])[8:-4]
        self.assertEqual(row[0], 0)
        self.assertEqual(times(times(row[1], 128), 129), 128 ^ 129)
        self.assertEqual(row[1], row[2])


class Many(Spares):
    def test_groups_of_1_to_8(self):
        rnd = random.Random(51)
        for count in range(1, 9):
            for j in range(4):
                for trial in range(4):
                    self.is_piece(rnd.choice([0, 1, 255, 256, 65535]), j, some_frames(rnd, count))

    def test_every_length(self):
        rnd = random.Random(52)
        for size in list(range(1, 30)) + [253, 254, 255, 256, 257, 4095, 4096]:
            self.is_piece(9, 3, [some_bytes(rnd, size)])
            self.is_piece(9, 1, [[7], some_bytes(rnd, size), [1, 2]])

    def test_the_longest(self):
        rnd = random.Random(53)
        frames = [some_bytes(rnd, 4096) for one in range(3)] + some_frames(rnd, 5)
        for j in range(4):
            self.is_piece(65535, j, frames)
            self.assertEqual(spare(65535, j, rows_of(frames))[0], 4098 + 11)
        for order in ([0, 3, 1], [3, 2], [4, 5, 0, 6, 7]):
            self.is_piece(3, 2, [frames[i] for i in order])

    def test_a_list_as_long_as_can_be(self):
        frames = [[1] * 4096, [2] * 4096, [3] * 4096, [4] * 4082, [5], [6]]
        self.assertEqual(len(rows_of(frames)), 16384)
        self.is_piece(0, 3, frames)

    def test_each_byte(self):
        for j in range(4):
            self.is_piece(1, j, [list(range(256)), list(range(255, -1, -1)), [0] * 256])

    def test_bytes_0(self):
        self.is_piece(0, 0, [[0], [0, 0], [0, 0, 0]])
        self.is_piece(0, 3, [[0] * 300] * 8)


class Refusals(unittest.TestCase):
    def test_number_of_the_group(self):
        for g in (65536, 65537, 4294967295):
            self.assertEqual(spare(g, 0, [0, 1, 1]), [-1])
        for g in (0, 1, 255, 256, 65535):
            self.assertEqual(spare(g, 0, [0, 1, 1])[3:5], number(2, g))

    def test_number_of_the_piece(self):
        for j in (4, 5, 255, 256, 4294967295):
            self.assertEqual(spare(0, j, [0, 1, 1]), [-1])
        for j in range(4):
            self.assertEqual(spare(0, j, [0, 1, 1])[5], j)

    def test_no_frames(self):
        self.assertEqual(spare(0, 0, []), [-2])

    def test_how_many_frames(self):
        for count in range(1, 9):
            self.assertGreater(spare(0, 0, [0, 1, 1] * count)[0], 0)
        for count in (9, 10, 100):
            self.assertEqual(spare(0, 0, [0, 1, 1] * count), [-2])

    def test_a_frame_of_no_bytes(self):
        for rows in ([0, 0], [0, 0, 0, 1, 1], [0, 1, 1, 0, 0], [0, 1, 1, 0, 0, 0, 1, 1]):
            self.assertEqual(spare(0, 0, rows), [-2])

    def test_a_frame_above_4096(self):
        self.assertEqual(spare(0, 0, number(2, 4096) + [1] * 4096)[0], 4109)
        for size in (4097, 4098, 5000, 16000):
            self.assertEqual(spare(0, 0, number(2, size) + [1] * size), [-2])
            self.assertEqual(spare(0, 0, [0, 1, 1] + number(2, size) + [1] * size), [-2])

    def test_past_the_end(self):
        for rows in ([0, 2, 1], [0, 1], [255, 255], [0, 1, 1, 0, 2, 1], [16, 0] + [1] * 4095, [0, 1, 1, 0, 1]):
            self.assertEqual(spare(0, 0, rows), [-2], rows)

    def test_a_byte_left_over(self):
        for rows in ([0], [1], [255], [0, 1, 1, 0], [0, 1, 1, 1], [0, 2, 1, 1, 9]):
            self.assertEqual(spare(0, 0, rows), [-2], rows)

    def test_the_first_told(self):
        for g, j in ((65536, 0), (0, 4), (65536, 4)):
            for rows in ([], [0], [0, 0], [0, 1, 1] * 9):
                self.assertEqual(spare(g, j, rows), [-1])


class ByItself(unittest.TestCase):
    def test_unchanged_and_the_same_again(self):
        rnd = random.Random(54)
        for count, j in itertools.product((1, 3, 8), range(4)):
            for rows in (rows_of(some_frames(rnd, count)), rows_of(some_frames(rnd, count)) + [0]):
                by_itself(self, spare, [9, 3 - j, [0, 2, 8, 8]], [5, j, rows])


if __name__ == "__main__":
    unittest.main()
