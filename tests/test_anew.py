"""anew: lost frames made of spare pieces, and its refusals."""

import itertools
import random
import unittest

from helper import (by_itself, crc, flat, full_rows, number, piece, piece_of, piece_of_rows, rows_of, some_bytes,
                    some_frames, value)
from soundkeeping.keeping import anew, spare


def without(frames, lost):
    return [[] if i in lost else one for i, one in enumerate(frames)]


class Anew(unittest.TestCase):
    def comes_back(self, g, frames, lost, pieces):
        rows = rows_of(frames)
        self.assertEqual(anew(g, rows_of(without(frames, lost)), flat(pieces)), [len(rows)] + rows)

    def refused(self, number_told, g, frames, pieces):
        self.assertEqual(anew(g, rows_of(frames), flat(pieces)), [number_told])


class GivesBack(Anew):
    def test_all_choices_of_a_full_group(self):
        rnd = random.Random(61)
        frames = some_frames(rnd, 8, 12)
        pieces = [piece(300, j, frames) for j in range(4)]
        for count in range(1, 5):
            for lost in itertools.combinations(range(8), count):
                for order in itertools.permutations(range(4), count):
                    self.comes_back(300, frames, lost, [pieces[j] for j in order])

    def test_groups_of_1_to_8(self):
        rnd = random.Random(62)
        for trial in range(300):
            frames = some_frames(rnd, rnd.randint(1, 8))
            g = rnd.choice([0, 1, 65535, rnd.randrange(65536)])
            lost = rnd.sample(range(len(frames)), rnd.randint(0, min(4, len(frames))))
            order = rnd.sample(range(4), rnd.randint(len(lost), 4))
            self.comes_back(g, frames, lost, [piece(g, j, frames) for j in order])

    def test_what_spare_made(self):
        rnd = random.Random(63)
        for trial in range(60):
            frames = some_frames(rnd, rnd.randint(1, 8), 200)
            count = rnd.randint(1, min(4, len(frames)))
            lost = rnd.sample(range(len(frames)), count)
            order = rnd.sample(range(4), count)
            self.comes_back(trial, frames, lost, [spare(trial, j, rows_of(frames))[1:] for j in order])

    def test_all_frames_lost(self):
        rnd = random.Random(64)
        for count in range(1, 5):
            frames = some_frames(rnd, count)
            for order in itertools.permutations(range(4), count):
                self.comes_back(8, frames, range(count), [piece(8, j, frames) for j in order])

    def test_the_longest_one_lost(self):
        for lost in ([0], [1], [0, 1]):
            frames = [[9, 0, 0, 0], [1]]
            self.comes_back(8, frames, lost, [piece(8, j, frames) for j in (3, 1)[:len(lost)]])

    def test_frames_that_end_with_bytes_0(self):
        frames = [[0], [0, 0], [5, 0, 0], [0, 0, 0, 0]]
        for count in range(1, 5):
            for lost in itertools.combinations(range(4), count):
                self.comes_back(0, frames, lost, [piece(0, j, frames) for j in range(count)])

    def test_lengths_of_1_and_of_4096(self):
        rnd = random.Random(65)
        for frames in ([[1]], [[1], [2]], [[0]] * 8):
            self.comes_back(0, frames, [0], [piece(0, 2, frames)])
        frames = [some_bytes(rnd, 4096), [1], some_bytes(rnd, 4096), some_bytes(rnd, 4095)]
        pieces = [piece(0, j, frames) for j in range(4)]
        for lost, order in (([0], [3]), ([1], [0]), ([0, 2, 3], [3, 1, 2]), ([1, 2], [0, 2])):
            self.comes_back(0, frames, lost, [pieces[j] for j in order])

    def test_more_bytes_than_a_list_may_hand_in(self):
        # What's answered is no file: no limit is told for it.
        frames = [[i + 1] * 4096 for i in range(6)]
        pieces = [piece(0, j, frames) for j in range(3)]
        lost = (0, 3, 4)
        self.assertGreater(len(rows_of(frames)), 16384)
        self.assertLessEqual(len(rows_of(without(frames, lost))), 16384)
        self.comes_back(0, frames, lost, pieces)


class NoneLost(Anew):
    def test_no_pieces(self):
        for frames in ([[1]], [[1, 2], [3]], [[0]] * 8, [[5] * 4096]):
            self.comes_back(0, frames, [], [])

    def test_pieces_that_do_not_count(self):
        frames = [[1, 2, 3], [4]]
        self.comes_back(2, frames, [], [piece(2, j, frames) for j in range(4)])
        # Made of others, or too short to hold what's there: they don't count.
        for r in (3, 4, 5, 6, 100, 4098):
            self.comes_back(2, frames, [], [piece_of(2, 1, r, [77] * r)])

    def test_they_have_to_be_such_all_the_same(self):
        frames = [[1, 2, 3], [4]]
        right = piece(2, 0, frames)
        for wrong in ([0], right[:-1], right + [1], right + right, piece(3, 0, frames), piece_of(2, 4, 5, [1] * 5)):
            self.assertEqual(anew(2, rows_of(frames), wrong), [-2])


class TheFirstCount(Anew):
    def test_those_behind_do_not(self):
        frames = [[1, 2, 3], [4], [5, 6]]
        other = [[9, 9, 9], [8], [7]]
        for j, behind in itertools.permutations(range(4), 2):
            self.comes_back(1, frames, [1], [piece(1, j, frames), piece(1, behind, other)])
        self.comes_back(1, frames, [0, 2], [piece(1, 3, frames), piece(1, 0, frames), piece(1, 1, other)])

    def test_not_those_of_the_lowest_j(self):
        frames = [[1, 2, 3], [4], [5, 6]]
        # Frame 1 made of a piece of other frames: its row is what the others don't explain.
        for j, behind in itertools.permutations(range(4), 2):
            pieces = [piece_of(1, j, 5, [3] * 5), piece(1, behind, frames)]
            self.refused(-4, 1, without(frames, [1]), pieces)
            self.comes_back(1, frames, [1], pieces[::-1])

    def test_they_have_to_be_such(self):
        frames = [[1, 2, 3], [4], [5, 6]]
        right = piece(1, 0, frames)
        for wrong in ([0], right, right[:-1], piece(2, 1, frames), piece_of(1, 1, 6, [0] * 6), piece_of(1, 4, 5, [0] * 5)):
            self.refused(-2, 1, without(frames, [1]), [right, wrong])


class BadRows(Anew):
    def setUp(self):
        self.frames = [[1, 2, 3], [4]]
        self.pieces = piece(0, 0, self.frames)

    def bad(self, rows):
        self.assertEqual(anew(0, rows, []), [-2])
        self.assertEqual(anew(0, rows, self.pieces), [-2])

    def test_none(self):
        self.bad([])

    def test_nine(self):
        self.bad([0, 1, 1] * 9)
        self.bad([0, 1, 1] * 8 + [0, 0])
        self.bad([0, 0] * 9)
        self.assertEqual(anew(0, [0, 1, 1] * 8, []), [24] + [0, 1, 1] * 8)

    def test_above_4096(self):
        self.bad([16, 1] + [0] * 4097)
        self.bad([0, 0, 16, 1] + [0] * 4097)
        self.assertEqual(anew(0, [16, 0] + [1] * 4096, [])[0], 4098)

    def test_past_the_end(self):
        for rows in ([0, 1], [0, 2, 1], [0, 0, 0, 1], [0, 1, 1, 255, 255]):
            self.bad(rows)

    def test_a_byte_left_over(self):
        for rows in ([0], [7], [0, 0, 0], [0, 1, 1, 0], [0, 1, 1, 9]):
            self.bad(rows)


class BadPieces(Anew):
    def setUp(self):
        self.frames = [[1, 2, 3], [4], [6, 6]]
        self.right = piece(5, 1, self.frames)

    def bad(self, pieces):
        self.assertEqual(anew(5, rows_of(without(self.frames, [0])), pieces), [-2])
        self.assertEqual(anew(5, rows_of(self.frames), pieces), [-2])

    def test_the_right_one(self):
        self.comes_back(5, self.frames, [0], [self.right])

    def test_not_whole(self):
        for size in range(1, len(self.right)):
            self.bad(self.right[:size])
            self.bad(piece(5, 0, self.frames) + self.right[:size])

    def test_not_whole_with_a_check_of_0(self):
        # Fewer bytes 0 than the check has would be the same number.
        row = [0, 1, 5, 0, 0]
        whole = piece_of(5, 1, 9, row + self.checked_0(row))
        self.assertEqual(whole[-4:], [0] * 4)
        self.assertEqual(anew(5, [0, 1, 1], whole), [3, 0, 1, 1])
        for size in range(1, 5):
            self.assertEqual(anew(5, [0, 1, 1], whole[:-size]), [-2])

    def checked_0(self, row):
        """The four bytes that make the check 0: it is changed by each of their bits independently."""
        def check_of(bits):
            return value(piece_of(5, 1, 9, row + number(4, bits))[-4:])

        pairs = [(check_of(1 << bit) ^ check_of(0), 1 << bit) for bit in range(32)]
        left, chosen = check_of(0), 0
        for top in range(31, -1, -1):
            change, bits = next(pair for pair in pairs if pair[0].bit_length() == top + 1)
            pairs.remove((change, bits))
            pairs = [(one ^ change, some ^ bits) if one >> top & 1 else (one, some) for one, some in pairs]
            if left >> top & 1:
                left, chosen = left ^ change, chosen ^ bits
        return number(4, chosen)

    def test_bytes_behind(self):
        for behind in ([0], [0x4B], [0x4B, 0x50], [0] * 20):
            self.bad(self.right + behind)

    def test_mark(self):
        for mark in ([0x4B, 0x57], [0x50, 0x4B], [0x4A, 0x50], [0, 0]):
            data = mark + self.right[2:-4]
            self.bad(data + crc(data))

    def test_check(self):
        for bit in range(32):
            data = list(self.right)
            data[-4 + bit // 8] ^= 1 << bit % 8
            self.bad(data)

    def test_each_byte_is_checked(self):
        for place in range(len(self.right)):
            data = list(self.right)
            data[place] ^= 16
            self.bad(data)

    def test_another_group(self):
        for g in (0, 4, 6, 261, 5 * 256, 65535):
            self.bad(piece(g, 1, self.frames))
            self.bad(self.right + piece(g, 0, self.frames))

    def test_j(self):
        for j in (4, 5, 128, 255):
            self.bad(piece_of(5, j, 5, [0] * 5))
            self.bad(self.right + piece_of(5, j, 5, [0] * 5))

    def test_j_twice(self):
        self.bad(self.right + self.right)
        self.bad(self.right + piece_of(5, 1, 5, [0] * 5))
        self.bad(self.right + piece(5, 2, self.frames) + self.right)

    def test_length_of_the_row(self):
        for r in (0, 1, 2, 4099, 5000):
            self.bad(piece_of(5, 1, r, [0] * r))
        for r in (3, 4098):
            self.assertNotEqual(anew(5, [0, 0], piece_of(5, 1, r, [0] * r)), [-2])

    def test_two_lengths_of_rows(self):
        for r in (3, 4, 6, 7):
            self.bad(self.right + piece_of(5, 0, r, [0] * r))
            self.bad(piece_of(5, 0, r, [0] * r) + self.right)


class TooFew(Anew):
    def test_more_lost_than_pieces(self):
        rnd = random.Random(66)
        for count in range(1, 9):
            frames = some_frames(rnd, count)
            for lost in range(1, count + 1):
                for have in range(0, min(lost, 5)):
                    pieces = [piece(1, j, frames) for j in range(have)]
                    self.refused(-3, 1, without(frames, range(lost)), pieces)

    def test_five_lost(self):
        frames = [[1], [2], [3], [4], [5]]
        self.refused(-3, 0, [[]] * 5, [piece(0, j, frames) for j in range(4)])

    def test_as_many_are_enough(self):
        frames = [[1], [2], [3], [4], [5]]
        self.comes_back(0, frames, range(4), [piece(0, j, frames) for j in range(4)])


class NotMade(Anew):
    """Pieces of rows that no frames have, whole and with right checks."""

    def lost_row(self, row, expected):
        rows = full_rows([[1, 2], [7], [4]], len(row))
        for i in range(3):
            made = [row if place == i else one for place, one in enumerate(rows)]
            frames = [[] if place == i else one for place, one in enumerate(([1, 2], [7], [4]))]
            for j in range(4):
                answer = anew(0, rows_of(frames), piece_of_rows(0, j, made))
                if expected is None:
                    self.assertEqual(answer, [-4])
                else:
                    frames[i] = expected
                    self.assertEqual(answer, [len(rows_of(frames))] + rows_of(frames))
                    frames[i] = []

    def test_a_length_of_0(self):
        self.lost_row([0, 0, 0, 0], None)
        self.lost_row([0, 0, 1, 0], None)
        self.lost_row([0, 1, 0, 0], [0])

    def test_a_length_that_the_row_does_not_hold(self):
        self.lost_row([0, 2, 5, 6], [5, 6])
        self.lost_row([0, 3, 5, 6], None)
        self.lost_row([255, 255, 5, 6], None)
        self.lost_row([1, 2, 5, 6], None)

    def test_bytes_behind_that_are_not_0(self):
        self.lost_row([0, 1, 5, 0, 0], [5])
        self.lost_row([0, 1, 5, 1, 0], None)
        self.lost_row([0, 1, 5, 0, 1], None)
        self.lost_row([0, 2, 5, 0, 255], None)

    def test_above_4096(self):
        self.lost_row([16, 0] + [3] * 4096, [3] * 4096)
        self.lost_row([16, 1] + [3] * 4096, None)

    def test_one_that_is_there_is_longer(self):
        # Pieces of r 4 can't be made with a frame of three bytes.
        for j in range(4):
            self.refused(-4, 0, [[1, 2, 3], []], [piece(0, j, [[1, 2], [3]])])
            self.refused(-4, 0, [[], [9] * 4096], [piece(0, j, [[1, 2], [3]])])
            self.comes_back(0, [[1, 2], [3]], [1], [piece(0, j, [[1, 2], [3]])])

    def test_longer_though_the_rest_would_fit(self):
        # Cut to r the longer frame's row would leave a frame that can be.
        rows = [[0, 3, 1, 2], [0, 1, 9, 0]]
        self.refused(-4, 0, [[1, 2, 3], []], [piece_of_rows(0, 0, rows)])

    def test_one_of_several_lost(self):
        rows = [[0, 2, 5, 6], [0, 0, 0, 0], [0, 1, 7, 0]]
        pieces = [piece_of_rows(0, j, rows) for j in range(2)]
        self.refused(-4, 0, [[5, 6], [], []], pieces)
        self.refused(-4, 0, [[], [], [7]], pieces)
        rows[1] = [0, 1, 0, 0]
        pieces = [piece_of_rows(0, j, rows) for j in range(2)]
        self.comes_back(0, [[5, 6], [0], [7]], [0, 1], pieces)

    def test_a_row_longer_than_all_frames(self):
        # The document's reasons for -4 don't name a row that is longer than the longest frame asks for.
        rows = full_rows([[1, 2], [7], [4]], 9)
        self.comes_back(0, [[1, 2], [7], [4]], [1], [piece_of_rows(0, 0, rows)])

    def test_another_piece_makes_other_frames(self):
        # With a frame that's there changed by a byte the lost one comes out otherwise or not at all.
        frames = [[1, 2, 3], [4, 5, 6]]
        answer = anew(0, rows_of([[1, 2, 9], []]), piece(0, 0, frames))
        self.assertNotEqual(answer, [10] + rows_of([[1, 2, 9], [4, 5, 6]]))
        self.assertEqual(answer[:1 + 5 + 4], [10] + rows_of([[1, 2, 9]]) + [0, 3, 4, 5])


class TheFirstTold(Anew):
    def test_group_before_all(self):
        for g in (65536, 4294967295):
            for rows, pieces in (([], []), ([0], [0]), ([0, 1, 1], []), ([0, 0], []), ([0, 0], [1])):
                self.assertEqual(anew(g, rows, pieces), [-1])
        self.assertEqual(anew(65535, [0, 1, 1], []), [3, 0, 1, 1])

    def test_bad_before_too_few(self):
        frames = [[1], [2], [3]]
        self.refused(-2, 0, [[], [], [3]], [piece(1, 0, frames)])
        self.refused(-2, 0, [[], [], [3]], [[0]])
        self.assertEqual(anew(0, [0, 0, 0], []), [-2])

    def test_too_few_before_not_made(self):
        self.refused(-3, 0, [[1, 2, 3], [], []], [piece(0, 0, [[1], [2], [3]])])
        self.refused(-4, 0, [[1, 2, 3], [], [3]], [piece(0, 0, [[1], [2], [3]])])

    def test_bad_before_not_made(self):
        pieces = [piece(0, 0, [[1], [2]]), piece(0, 1, [[1], [2]])[:-1]]
        self.refused(-2, 0, [[1, 2, 3], []], pieces)


class ByItself(unittest.TestCase):
    def test_unchanged_and_the_same_again(self):
        rnd = random.Random(67)
        for trial in range(60):
            frames = some_frames(rnd, 5)
            lost = rnd.sample(range(5), trial % 4)
            rows = rows_of(without(frames, lost))
            pieces = flat([piece(7, j, frames) for j in range(rnd.randint(0, 4))]) + [0] * (trial % 5 == 4)
            by_itself(self, anew, [3, number(2, 1) + [5], []], [7, rows, pieces])


if __name__ == "__main__":
    unittest.main()
