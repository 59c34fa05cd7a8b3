"""pack: the one file of a recording, byte for byte, and its refusals."""

import random
import unittest

from helper import (EDGE_FORMS, NO_FORMS, by_itself, crc, file_of, flat, frames_of, head_of, mono, number, piece,
                    some_tags, sound, sum_of, tag, tags_part)
from soundkeeping.keeping import frame, pack


def written(k, form, numbers):
    """A frame as the program writes it, where the slow way would take too long."""
    return frame(k, form, numbers)[1:]


class Packs(unittest.TestCase):
    def is_file(self, form, numbers, tags=(), pad=0, writer=written):
        data = file_of(form, numbers, tags, pad, writer)
        self.assertEqual(pack(pad, form, numbers, flat(tags)), [len(data)] + data, (form, numbers, tags, pad))

    def packed(self, form, numbers, tags=(), pad=0):
        answer = pack(pad, form, numbers, flat(tags))
        self.assertEqual(answer[0], len(answer) - 1)
        return answer[1:]


class ByHand(Packs):
    def test_no_samples(self):
        head = [0x53, 0x4B, 0x45, 0x45, 0x50, 0x01, 0x0D, 0x0A, 2, 16, 1, 0, 8, 4, 0, 0, 0, 0, 0, 0, 0, 6]
        head += crc(head)
        tags = [0, 0] + crc([0, 0])
        # The CRC-32 of nothing is 0: the index is four bytes 0, and so is the sum.
        data = head + tags + [0] * 4 + [0] * 4 + head + [0] * 4
        self.assertEqual(len(head), 26)
        self.assertEqual(pack(0, [2, 16, 256, 4, 8, 4], [], []), [70] + data)

    def test_two_frames(self):
        form = [1, 8, 16, 0, 2, 1]
        numbers = [5] * 16 + [-1, -1]
        first, second = written(0, form, [5] * 16), written(1, form, [-1, -1])
        tags = [0, 1, 2, 65, 66, 0, 3, 7, 8, 9, 0, 0]
        head = [0x53, 0x4B, 0x45, 0x45, 0x50, 1, 13, 10, 1, 8, 0, 16, 2, 1, 0, 0, 0, 18, 0, 0, 0, 16]
        index = [0, 0, 0, 0, 0, len(first)]
        data = head + crc(head) + tags + crc(tags) + index + crc(index) + first + second
        data += piece(0, 0, [first, second]) + index + crc(index) + head + crc(head) + crc([5] * 16 + [255, 255])
        self.assertEqual(pack(2, form, numbers, [2, 65, 66, 0, 3, 7, 8, 9]), [len(data)] + data)

    def test_order_is_not_kept_in_the_head(self):
        for order in range(5):
            self.assertEqual(self.packed([1, 8, 16, order, 2, 1], [1, 2])[:26], head_of([1, 8, 16, 0, 2, 1], 2, 6))

    def test_order_bears_on_the_frames(self):
        numbers = [3, -6, -1, 11, -14, 0, 25, -37, 8, 56, -98, 42, 118, -253, 157, 234, -638, 515, 414, -1568, 1566, 572,
                   -3748, 4515]
        self.assertNotEqual(self.packed(mono(16, 0), numbers), self.packed(mono(16, 4), numbers))

    def test_samples_not_numbers_are_counted(self):
        for channels in range(1, 5):
            data = self.packed([channels, 8, 16, 0, 1, 0], [1] * (20 * channels))
            self.assertEqual(data[14:18], [0, 0, 0, 20])


class Bodies(Packs):
    def test_one_frame(self):
        for n in (1, 2, 15, 16):
            for spares in range(5):
                self.is_file([1, 8, 16, 4, 4, spares], list(range(n)))

    def test_a_last_frame_that_is_shorter(self):
        for n in (17, 31, 32, 33, 47, 48):
            self.is_file([1, 8, 16, 4, 8, 1], list(range(n)))
            self.is_file([2, 8, 16, 4, 8, 1], list(range(n)) * 2)

    def test_groups(self):
        rnd = random.Random(71)
        for group in range(1, 9):
            for frames in (group - 1, group, group + 1, 2 * group, 2 * group + 1):
                for spares in (0, 1, 4):
                    form = [1, 6, 16, 1, group, spares]
                    self.is_file(form, sound(rnd, form, max(0, 16 * frames - rnd.randrange(16))))

    def test_groups_without_spare_pieces(self):
        form = [1, 8, 16, 0, 2, 0]
        numbers = list(range(80))
        frames = frames_of(form, numbers, written)
        self.assertEqual(self.packed(form, numbers)[32 + 15 + 4:][:len(flat(frames))], flat(frames))

    def test_spare_pieces_behind_each_group(self):
        form = [1, 8, 16, 0, 2, 4]
        numbers = list(range(80))
        frames = frames_of(form, numbers, written)
        body = frames[0] + frames[1] + flat([piece(0, j, frames[:2]) for j in range(4)])
        body += frames[2] + frames[3] + flat([piece(1, j, frames[2:4]) for j in range(4)])
        body += frames[4] + flat([piece(2, j, frames[4:]) for j in range(4)])
        data = self.packed(form, numbers)
        self.assertEqual(data[32 + 15 + 4:][:len(body)], body)

    def test_index_counts_from_the_first_frame(self):
        form = [1, 8, 16, 0, 2, 3]
        data = self.packed(form, [7 * t % 100 for t in range(90)], [tag("x", [1] * 9)], 5)
        begin = 26 + 6 + 13 + 5
        first = begin + 6 * 3 + 4
        for k in range(6):
            at = first + int.from_bytes(data[begin + 3 * k:begin + 3 * k + 3], "big")
            self.assertEqual(data[at:at + 2], [0x4B, 0x57])
            self.assertEqual(data[at + 3] * 16 + data[at + 4] // 16, k)

    def test_as_many_frames_as_can_be(self):
        self.is_file([1, 4, 16, 0, 1, 0], [t % 3 for t in range(2048)])
        self.is_file([1, 4, 16, 0, 8, 1], [t % 3 for t in range(2047)])

    def test_as_many_numbers_as_can_be(self):
        rnd = random.Random(72)
        for channels in (1, 2, 4):
            form = [channels, 16, 256, 2, 4, 1]
            self.is_file(form, sound(rnd, form, 2048 // channels))
        form = [3, 16, 256, 2, 4, 1]
        self.is_file(form, sound(rnd, form, 682))


class Sums(Packs):
    def test_each_depth(self):
        for depth in range(4, 25):
            half = 2 ** (depth - 1)
            numbers = [-half, half - 1, 0, -1, 1]
            count = (depth + 7) // 8
            plain = flat([[(one % 256 ** count) // 256 ** place % 256 for place in range(count)] for one in numbers])
            data = self.packed(mono(depth), numbers)
            self.assertEqual(data[-4:], crc(plain), depth)
            self.assertEqual(data[-4:], sum_of(depth, numbers))

    def test_number_of_bytes(self):
        self.assertEqual(self.packed(mono(8), [-2])[-4:], crc([254]))
        self.assertEqual(self.packed(mono(9), [-2])[-4:], crc([254, 255]))
        self.assertEqual(self.packed(mono(16), [-2])[-4:], crc([254, 255]))
        self.assertEqual(self.packed(mono(17), [-2])[-4:], crc([254, 255, 255]))

    def test_all_channels_in_order(self):
        data = self.packed([3, 12, 16, 0, 1, 0], [1, 2, 3, 256, 257, 258])
        self.assertEqual(data[-4:], crc([1, 0, 2, 0, 3, 0, 0, 1, 1, 1, 2, 1]))


class Tags(Packs):
    def test_none_and_several(self):
        for count in (0, 1, 2, 15, 16):
            self.is_file(mono(8), [1, 2], [tag("k" + "abcdefghijklmnop"[i], [i] * i) for i in range(count)])

    def test_keys_at_the_edges(self):
        for key in ("a", "a" * 32, "!", "~", "<", ">", "!" * 31 + "~"):
            self.is_file(mono(8), [1, 2], [tag(key, [0, 255])])

    def test_values_at_the_edges(self):
        for size in (0, 1, 255, 256, 257, 1018 - 4):
            self.is_file(mono(8), [1, 2], [tag("a", [size % 256] * size)])
        self.is_file(mono(8), [1, 2], [tag("a", list(range(256)))])

    def test_keys_that_differ_a_little(self):
        self.is_file(mono(8), [1, 2], [tag("a", [1]), tag("A", [1]), tag("aa", [1]), tag("ab"), tag("b")])

    def test_padding(self):
        for pad in (0, 1, 2, 100, 1018):
            self.is_file(mono(8), [1, 2], (), pad)
        for pad in (0, 1, 1018 - 7):
            self.is_file(mono(8), [1, 2], [tag("a", [0, 1, 2])], pad)

    def test_their_length_in_the_head(self):
        data = self.packed(mono(8), [], [tag("abc", [1, 2])], 7)
        self.assertEqual(data[18:22], number(4, 6 + 8 + 7))
        self.assertEqual(data[26:26 + 21], tags_part([tag("abc", [1, 2])], 7))


class Many(Packs):
    def test_against_the_slow_way(self):
        rnd = random.Random(73)
        for trial in range(25):
            form = [rnd.randint(1, 4), rnd.randint(4, 24), rnd.randint(16, 20), rnd.randint(0, 4), rnd.randint(1, 8),
                    rnd.randint(0, 4)]
            numbers = sound(rnd, form, rnd.randint(0, 50))
            data = file_of(form, numbers, (), trial)
            self.assertEqual(pack(trial, form, numbers, []), [len(data)] + data, (form, numbers))

    def test_all_sorts(self):
        rnd = random.Random(74)
        for trial in range(60):
            form = [rnd.randint(1, 4), rnd.randint(4, 24), rnd.choice([16, 17, 32, 100, 256]), rnd.randint(0, 4),
                    rnd.randint(1, 8), rnd.randint(0, 4)]
            numbers = sound(rnd, form, rnd.choice([0, 1, form[2], form[2] + 1, rnd.randint(0, 200)]))
            self.is_file(form, numbers, some_tags(rnd), rnd.choice([0, 1, 50]))

    def test_at_the_edges_of_forms(self):
        rnd = random.Random(75)
        for form in EDGE_FORMS:
            half = 2 ** (form[1] - 1)
            for n in (1, form[2] + 1):
                self.is_file(form, [rnd.choice([-half, half - 1, 0]) for t in range(n * form[0])])


class NoFile(unittest.TestCase):
    def test_no_form(self):
        for form in NO_FORMS:
            for numbers, tags in (([], []), ([1], [0]), ([2 ** 31 - 1], [])):
                self.assertEqual(pack(0, form, numbers, tags), [-1], form)

    def test_not_whole_samples(self):
        for channels in range(2, 5):
            form = [channels, 8, 16, 0, 1, 0]
            for count in range(1, 3 * channels):
                refused = count % channels != 0
                self.assertEqual(pack(0, form, [1] * count, []) == [-1], refused)

    def test_how_many_numbers(self):
        for count in (2049, 2052, 2100):
            for channels in range(1, 5):
                self.assertEqual(pack(0, [channels, 8, 256, 0, 1, 0], [1] * count, []), [-1])
        self.assertGreater(pack(0, [1, 8, 256, 0, 1, 0], [1] * 2048, [])[0], 0)
        self.assertGreater(pack(0, [4, 8, 256, 0, 1, 0], [1] * 2048, [])[0], 0)
        self.assertGreater(pack(0, [3, 8, 256, 0, 1, 0], [1] * 2046, [])[0], 0)
        self.assertEqual(pack(0, [3, 8, 256, 0, 1, 0], [1] * 2049, []), [-1])

    def test_does_not_fit(self):
        for depth in range(4, 25):
            half = 2 ** (depth - 1)
            for one in (-half - 1, half, -2147483648, 2147483647):
                for place in (0, 7, 19):
                    numbers = [0] * 20
                    numbers[place] = one
                    self.assertEqual(pack(0, [1, depth, 16, 0, 1, 0], numbers, []), [-2])
            self.assertGreater(pack(0, [1, depth, 16, 0, 1, 0], [-half, half - 1], [])[0], 0)

    def tags_refused(self, tags, pad=0):
        self.assertEqual(pack(pad, mono(8), [1], tags), [-3], tags)

    def test_too_many_tags(self):
        tags = [tag("k" + sign) for sign in "abcdefghijklmnopq"]
        self.assertGreater(pack(0, mono(8), [1], flat(tags[:16]))[0], 0)
        self.tags_refused(flat(tags))
        self.tags_refused(flat([tag(sign + other) for sign in "abcdefghij" for other in "abcdefghij"]))

    def test_length_of_a_key(self):
        self.tags_refused(tag(""))
        self.tags_refused(tag("", [1, 2, 3]))
        self.tags_refused(tag("a" * 33))
        self.tags_refused([255] + [97] * 255 + [0, 0])
        self.tags_refused(tag("b") + tag(""))
        self.assertGreater(pack(0, mono(8), [1], tag("a" * 32))[0], 0)

    def test_bytes_of_a_key(self):
        for byte in range(256):
            fine = 33 <= byte <= 126 and byte != 61
            for key in ([byte], [97, byte], [byte, 97], [97, byte, 98]):
                answer = pack(0, mono(8), [1], [len(key)] + key + [0, 0])
                self.assertEqual(answer == [-3], not fine, byte)

    def test_two_keys_alike(self):
        self.tags_refused(tag("a") + tag("a"))
        self.tags_refused(tag("a", [1]) + tag("b") + tag("a", [2]))
        self.tags_refused(tag("b") + tag("xyz") + tag("xyz"))

    def test_tags_that_end_too_soon(self):
        whole = tag("abc", [1, 2, 3])
        for size in range(1, len(whole)):
            self.tags_refused(whole[:size])
            self.tags_refused(tag("b") + whole[:size])
        self.tags_refused(tag("abc")[:-2] + [255, 255, 1])

    def test_bytes_behind_the_tags(self):
        # Padding is told by pad alone: in the tags a byte 0 would be a key's length.
        for behind in ([0], [0, 0, 0, 0], [1], [97]):
            self.tags_refused(behind)
            self.tags_refused(tag("a") + behind)

    def test_how_long_they_are(self):
        for pad in (1019, 1020, 2000, 4294967295):
            self.tags_refused([], pad)
        self.assertGreater(pack(1018, mono(8), [1], [])[0], 0)
        value = [3] * 1014
        self.assertGreater(pack(0, mono(8), [1], tag("a", value))[0], 0)
        self.tags_refused(tag("a", value), 1)
        self.tags_refused(tag("a", value + [3]))
        self.tags_refused(tag("a", value * 2))


class TooLong(unittest.TestCase):
    def setUp(self):
        rnd = random.Random(76)
        self.form = [1, 24, 256, 0, 1, 2]
        self.numbers = [rnd.randrange(-2 ** 23, 2 ** 23) for t in range(1750)]
        self.size = pack(0, self.form, self.numbers, [])[0]

    def test_as_long_as_can_be_and_one_more(self):
        pad = 16384 - self.size
        self.assertTrue(0 <= pad < 1018)
        self.assertEqual(pack(pad, self.form, self.numbers, [])[0], 16384)
        self.assertEqual(len(pack(pad, self.form, self.numbers, [])), 16385)
        self.assertEqual(pack(pad + 1, self.form, self.numbers, []), [-8])
        self.assertEqual(pack(1018, self.form, self.numbers, []), [-8])

    def test_much_longer(self):
        self.assertEqual(pack(0, [1, 24, 16, 0, 1, 4], self.numbers, []), [-8])

    def test_looked_at_last(self):
        self.assertEqual(pack(1019, self.form, self.numbers, []), [-3])
        self.assertEqual(pack(1018, self.form, self.numbers, [0]), [-3])
        self.assertEqual(pack(1018, self.form, self.numbers[:-1] + [2 ** 23], [0]), [-2])


class TheFirstTold(unittest.TestCase):
    def test_form_before_all(self):
        self.assertEqual(pack(4294967295, [0, 8, 16, 0, 1, 0], [2147483647] * 2100, [0]), [-1])

    def test_samples_before_what_fits(self):
        self.assertEqual(pack(4294967295, [2, 8, 16, 0, 1, 0], [2147483647], [0]), [-1])
        self.assertEqual(pack(4294967295, [2, 8, 16, 0, 1, 0], [2147483647] * 2050, [0]), [-1])

    def test_what_fits_before_tags(self):
        self.assertEqual(pack(0, mono(8), [128], [0]), [-2])
        self.assertEqual(pack(4294967295, mono(8), [128], []), [-2])
        self.assertEqual(pack(4294967295, mono(8), [127], []), [-3])


class ByItself(unittest.TestCase):
    def test_unchanged_and_the_same_again(self):
        rnd = random.Random(77)
        for trial in range(40):
            form = [rnd.randint(1, 4), rnd.randint(4, 24), 16, rnd.randint(0, 4), rnd.randint(1, 8), rnd.randint(0, 4)]
            numbers = sound(rnd, form, rnd.randint(0, 40))
            tags = flat(some_tags(rnd)) + [0] * (trial % 4 == 3)
            by_itself(self, pack, [1, mono(8), [1, 2, 3], tag("other")], [trial, form, numbers, tags])


if __name__ == "__main__":
    unittest.main()
