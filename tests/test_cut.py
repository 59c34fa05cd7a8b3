"""cut: the one file of a part of a recording, byte for byte, and its refusals."""

import random
import unittest

from helper import (FILE_FORM, FILE_NUMBERS, FILE_TAGS, Made, by_itself, faulty_heads, faulty_indexes, faulty_tags,
                    flat, front_of, made, mono, plain_frame, small_frame, some_tags, sound, tag, turned)
from soundkeeping.keeping import check, cut, hear, pack, read, retag, unframe

STEREO = [2, 10, 16, 4, 3, 1]
STEREO_NUMBERS = [t * t % 301 - 150 for t in range(2 * 109)]
# Of these an order of 4 and one of 0 make other frames.
LINEAR = [3, -6, -1, 11, -14, 0, 25, -37, 8, 56, -98, 42, 118, -253, 157, 234, -638, 515, 414, -1568, 1566, 572, -3748, 4515]


class Cuts(unittest.TestCase):
    def becomes(self, begin, n, data, other):
        self.assertEqual(cut(begin, n, data), [len(other)] + other, (begin, n))
        self.assertEqual(check(other), [0, len(other)])

    def refused(self, number_told, begin, n, data):
        self.assertEqual(cut(begin, n, data), [number_told], (begin, n))


class Right(Cuts):
    def test_the_whole_recording(self):
        self.becomes(0, 77, made().data(), made().data())
        data = made(STEREO, STEREO_NUMBERS).data()
        self.becomes(0, 109, data, data)

    def test_no_samples(self):
        for begin in (0, 1, 16, 40, 76, 77):
            self.becomes(begin, 0, made().data(), made(numbers=[]).data())
        self.becomes(0, 0, made(STEREO, []).data(), made(STEREO, []).data())
        self.becomes(50, 0, made(STEREO, STEREO_NUMBERS).data(), made(STEREO, []).data())

    def test_one_sample(self):
        for begin in (0, 15, 16, 33, 76):
            self.becomes(begin, 1, made().data(), made(numbers=FILE_NUMBERS[begin:begin + 1]).data())

    def test_parts_that_are_whole_frames(self):
        for begin, n in ((0, 16), (16, 16), (32, 32), (64, 13), (16, 61), (48, 29)):
            self.becomes(begin, n, made().data(), made(numbers=FILE_NUMBERS[begin:begin + n]).data())

    def test_parts_that_begin_and_end_within_frames(self):
        for begin, n in ((1, 5), (3, 13), (3, 14), (15, 2), (8, 40), (5, 70), (1, 76), (0, 76), (70, 7), (31, 34)):
            self.becomes(begin, n, made().data(), made(numbers=FILE_NUMBERS[begin:begin + n]).data())

    def test_of_several_channels(self):
        data = made(STEREO, STEREO_NUMBERS).data()
        for begin, n in ((0, 1), (1, 20), (16, 16), (40, 50), (108, 1), (100, 9)):
            self.becomes(begin, n, data, made(STEREO, STEREO_NUMBERS[2 * begin:2 * (begin + n)]).data())

    def test_frames_and_groups_are_counted_anew(self):
        other = cut(40, 37, made().data())[1:]
        self.assertEqual(other, pack(0, FILE_FORM, FILE_NUMBERS[40:], flat(FILE_TAGS))[1:])
        first = front_of(other, unframe)[0]
        self.assertEqual(unframe(FILE_FORM, other[first:])[1:3], [0, 16])

    def test_no_padding(self):
        for tags in ((), FILE_TAGS):
            for pad in (1, 2, 500):
                data = made(tags=tags, pad=pad).data()
                self.becomes(0, 77, data, made(tags=tags).data())
                self.becomes(20, 20, data, made(numbers=FILE_NUMBERS[20:40], tags=tags).data())

    def test_the_tags_stay(self):
        sixteen = [tag("k" + sign, [place] * place) for place, sign in enumerate("abcdefghijklmnop")]
        for tags in ((), FILE_TAGS, sixteen, sixteen[::-1], [tag("a", [7] * 1014)], [tag("k" * 32, list(range(256)))],
                     [tag("zeros", [0] * 9), tag("no")]):
            data = made(tags=tags).data()
            for begin, n in ((0, 77), (9, 30), (77, 0)):
                self.becomes(begin, n, data, made(numbers=FILE_NUMBERS[begin:begin + n], tags=tags).data())

    def test_order_4(self):
        right = pack(0, mono(16, 4), LINEAR, [])[1:]
        self.assertNotEqual(right, pack(0, mono(16, 0), LINEAR, [])[1:])
        for order in range(5):
            data = pack(3, mono(16, order), LINEAR, [])[1:]
            self.becomes(0, len(LINEAR), data, right)

    def test_frames_that_are_not_the_least_become_so(self):
        for form in (FILE_FORM, [3, 12, 16, 4, 2, 1]):
            numbers = FILE_NUMBERS[:75]
            data = Made(form, numbers, FILE_TAGS, 3, plain_frame).data()
            self.assertNotEqual(data, made(form, numbers).data())
            self.becomes(0, 75 // form[0], data, made(form, numbers).data())
            self.becomes(5, 15, data, made(form, numbers[5 * form[0]:20 * form[0]]).data())

    def test_as_many_as_can_be(self):
        for form in ([1, 4, 16, 4, 8, 1], [4, 4, 256, 4, 1, 0]):
            numbers = [t % 5 - 2 for t in range(2048)]
            data = pack(0, form, numbers, [])[1:]
            self.becomes(0, 2048 // form[0], data, data)
            self.becomes(1, 2048 // form[0] - 1, data, pack(0, form, numbers[form[0]:], [])[1:])

    def test_all_sorts(self):
        rnd = random.Random(131)
        for trial in range(60):
            form = [rnd.randint(1, 4), rnd.randint(4, 24), rnd.choice([16, 17, 40]), rnd.randint(0, 4),
                    rnd.randint(1, 8), rnd.randint(0, 4)]
            count = rnd.choice([1, form[2], form[2] + 1, rnd.randint(1, 120)])
            numbers = sound(rnd, form, count)
            tags = flat(some_tags(rnd))
            data = pack(rnd.choice([0, 9]), form, numbers, tags)[1:]
            begin = rnd.randint(0, count)
            n = rnd.randint(0, count - begin)
            part = numbers[begin * form[0]:(begin + n) * form[0]]
            self.becomes(begin, n, data, pack(0, form[:3] + [4] + form[4:], part, tags)[1:])
            self.assertEqual(hear(cut(begin, n, data)[1:])[12:], [len(part)] + part)


class Elsewhere(Cuts):
    def test_damage_that_touches_no_frame_asked_for(self):
        one = made()
        for name in ("frame 0", "frame 3", "frame 4", "piece 0 0", "piece 1 1", "piece 2 0", "index again", "head again",
                     "sum"):
            damaged = one.changed(name, [7] * len(one.parts[name]))
            self.becomes(16, 32, damaged, made(numbers=FILE_NUMBERS[16:48]).data())
            self.becomes(20, 9, damaged, made(numbers=FILE_NUMBERS[20:29]).data())
        self.becomes(0, 77, one.data() + [0], one.data())

    def test_it_ends_behind_the_frames_asked_for(self):
        one = made()
        end = one.place("frame 1") + len(one.parts["frame 1"])
        self.becomes(3, 29, one.data()[:end], made(numbers=FILE_NUMBERS[3:32]).data())
        self.refused(-9, 3, 29, one.data()[:end - 1])
        self.refused(-9, 3, 30, one.data()[:end])

    def test_none_asked_for(self):
        one = made()
        for begin in (0, 5, 16, 77):
            self.becomes(begin, 0, one.data()[:one.place("frame 0")], made(numbers=[]).data())


class Refusals(Cuts):
    def test_as_read(self):
        rnd = random.Random(132)
        one = made()
        files = [one.data(), one.data()[:200]] + rnd.sample(faulty_heads() + faulty_tags() + faulty_indexes(), 30)
        files += [turned(one.data(), place, 9) for place in rnd.sample(range(one.place("frame 0"), len(one.data())), 60)]
        seen = set()
        for data in files:
            for begin, n in ((0, 77), (0, 78), (16, 20), (76, 1), (77, 1), (78, 0), (4294967295, 2048), (0, 2049),
                             (4294967295, 4294967295)):
                told = read(begin, n, data)
                answer = cut(begin, n, data)
                seen.add(answer[0] if len(answer) == 1 else 0)
                if told[0] < 0:
                    self.assertEqual(answer, told)
                else:
                    self.assertGreater(answer[0], 0)
        self.assertEqual(seen, {0, -1, -2, -3, -9})

    def test_too_many(self):
        data = pack(0, [1, 4, 256, 4, 1, 0], [t % 3 for t in range(2048)], [])[1:]
        self.assertEqual(cut(0, 2048, data)[1:], data)
        for n in (2049, 4294967295):
            for file in (data, [], turned(data, 1)):
                self.refused(-1, 0, n, file)

    def test_faults_of_head_tags_and_index(self):
        for data in faulty_heads() + faulty_tags() + faulty_indexes():
            self.refused(-2, 0, 5, data)
            self.refused(-2, 500, 5, data)

    def test_it_ends_within_head_tags_or_index(self):
        one = made()
        for size in range(one.place("frame 0")):
            self.refused(-2, 0, 0, one.data()[:size])
            self.refused(-2, 78, 0, one.data()[:size])

    def test_not_in_the_recording(self):
        data = made().data()
        for begin, n in ((0, 78), (77, 1), (78, 0), (40, 38), (4294967295, 2048)):
            self.refused(-3, begin, n, data)
            self.refused(-3, begin, n, data[:made().place("frame 0")])

    def test_a_frame(self):
        one = made()
        for k in range(5):
            part = one.parts[f"frame {k}"]
            other = small_frame(k + 1, FILE_FORM, FILE_NUMBERS[16 * k:16 * k + 16])
            for bent in (turned(part, 9), [], other, [0] * len(part)):
                self.refused(-9, 16 * k, 1, one.changed(f"frame {k}", bent))
                self.refused(-9, 0, 77, one.changed(f"frame {k}", bent))


class TooLong(Cuts):
    def setUp(self):
        # Each frame is of one number, and small; cut by half a block each holds two, and is larger.
        rnd = random.Random(133)
        self.form = [1, 24, 16, 4, 1, 4]
        self.numbers = flat([[rnd.randrange(-2 ** 23, 2 ** 23)] * 16 for k in range(128)])
        self.data = pack(0, self.form, self.numbers, [])[1:]

    def test_a_file_that_becomes_longer(self):
        self.assertEqual(check(self.data)[0], 0)
        self.assertEqual(pack(0, self.form, self.numbers[8:], []), [-8])
        self.refused(-8, 8, 2040, self.data)
        self.assertEqual(cut(0, 2048, self.data)[1:], self.data)
        self.assertEqual(cut(16, 2032, self.data), pack(0, self.form, self.numbers[16:], []))

    def test_as_long_as_can_be_and_one_more(self):
        room = 16384 - cut(8, 1440, self.data)[0]
        self.assertTrue(4 < room < 1000)
        for by, size in ((0, 16384), (1, -8), (-1, 16383)):
            tags = tag("a", [7] * (room - 4 + by))
            data = retag(0, self.data, tags)[1:]
            self.assertEqual(cut(8, 1440, data)[0], size)
            self.assertEqual(cut(8, 1440, data), pack(0, self.form, self.numbers[8:1448], tags))

    def test_looked_at_last(self):
        first = front_of(self.data, unframe)[0]
        self.refused(-9, 8, 2040, turned(self.data, first + 5))
        self.refused(-3, 8, 2048, self.data)
        self.refused(-2, 8, 2040, turned(self.data, 5))


class ByItself(unittest.TestCase):
    def test_unchanged_and_the_same_again(self):
        right = made().data()
        between = [0, 2, made(STEREO, STEREO_NUMBERS).data()]
        for data in (right, made(tags=(), pad=9).data(), turned(right, 30, 128), right[:40], right[:-9], turned(right, 120, 3)):
            for begin, n in ((0, 77), (5, 20), (77, 0), (77, 1), (0, 2049)):
                by_itself(self, cut, between, [begin, n, data])


if __name__ == "__main__":
    unittest.main()
