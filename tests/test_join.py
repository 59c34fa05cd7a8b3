"""join: the one file of two recordings, one behind the other, byte for byte, and its refusals."""

import random
import unittest

from helper import (FILE_FORM, FILE_NUMBERS, FILE_TAGS, Made, by_itself, faulty_heads, faulty_indexes, faulty_tags, flat,
                    front_of, made, mono, plain_frame, small_frame, some_tags, sound, tag, turned)
from soundkeeping.keeping import check, hear, join, pack, retag, unframe

STEREO = [2, 10, 16, 4, 3, 1]
STEREO_NUMBERS = [t * t % 301 - 150 for t in range(2 * 109)]
OTHER_NUMBERS = [t * 7 % 40 - 20 for t in range(50)]
OTHER_TAGS = [tag("four", [4, 4])]
# Of these an order of 4 and one of 0 make other frames.
LINEAR = [3, -6, -1, 11, -14, 0, 25, -37, 8, 56, -98, 42, 118, -253, 157, 234, -638, 515, 414, -1568, 1566, 572, -3748, 4515]


def other(numbers=OTHER_NUMBERS, tags=OTHER_TAGS, pad=0):
    return made(FILE_FORM, numbers, tags, pad)


class Joins(unittest.TestCase):
    def becomes(self, a, b, data):
        self.assertEqual(join(a, b), [len(data)] + data)
        self.assertEqual(check(data), [0, len(data)])

    def refused(self, number_told, a, b):
        self.assertEqual(join(a, b), [number_told])


class Right(Joins):
    def test_two_files(self):
        self.becomes(made().data(), other().data(), made(numbers=FILE_NUMBERS + OTHER_NUMBERS).data())
        self.becomes(other().data(), made().data(), other(OTHER_NUMBERS + FILE_NUMBERS).data())

    def test_a_file_and_itself(self):
        self.becomes(made().data(), made().data(), made(numbers=FILE_NUMBERS * 2).data())

    def test_what_is_heard(self):
        told = hear(join(made().data(), other().data())[1:])
        self.assertEqual(told[10:], [3, 8, 127] + FILE_NUMBERS + OTHER_NUMBERS)

    def test_unlike_lengths(self):
        for first in (1, 15, 16, 17, 32, 33, 64):
            for second in (1, 15, 16, 17, 48, 50):
                a, b = FILE_NUMBERS[:first], OTHER_NUMBERS[:second]
                self.becomes(made(numbers=a).data(), other(b).data(), made(numbers=a + b).data())

    def test_one_without_samples(self):
        self.becomes(made().data(), other([]).data(), made().data())
        self.becomes(made(numbers=[]).data(), other().data(), made(numbers=OTHER_NUMBERS).data())

    def test_both_without_samples(self):
        self.becomes(made(numbers=[]).data(), other([]).data(), made(numbers=[]).data())
        self.becomes(other([], pad=3).data(), made(numbers=[]).data(), other([]).data())

    def test_of_several_channels(self):
        cut = 2 * 37
        a, b = made(STEREO, STEREO_NUMBERS[:cut]).data(), made(STEREO, STEREO_NUMBERS[cut:], OTHER_TAGS, 4).data()
        self.becomes(a, b, made(STEREO, STEREO_NUMBERS).data())
        for channels in (3, 4):
            form = [channels, 12, 16, 4, 2, 2]
            numbers = [t * t % 91 for t in range(channels * 40)]
            a, b = made(form, numbers[:channels * 19]).data(), made(form, numbers[channels * 19:]).data()
            self.becomes(a, b, made(form, numbers).data())

    def test_the_tags_of_the_first(self):
        sixteen = [tag("k" + sign, [place] * place) for place, sign in enumerate("abcdefghijklmnop")]
        for tags in ((), FILE_TAGS, sixteen, [tag("a", [7] * 1014)], [tag("zeros", [0] * 9), tag("no")]):
            for behind in ((), OTHER_TAGS, FILE_TAGS, sixteen[::-1]):
                right = made(numbers=FILE_NUMBERS + OTHER_NUMBERS, tags=tags).data()
                self.becomes(made(tags=tags).data(), other(tags=behind).data(), right)

    def test_no_padding(self):
        right = made(numbers=FILE_NUMBERS + OTHER_NUMBERS).data()
        for first, second in ((1, 0), (0, 1), (9, 500), (900, 3)):
            self.becomes(made(pad=first).data(), other(pad=second).data(), right)

    def test_order_4(self):
        files = [pack(0, mono(16, order, 24), LINEAR, [])[1:] for order in range(5)]
        right = pack(0, mono(16, 4, 24), LINEAR * 2, [])[1:]
        self.assertNotEqual(right, pack(0, mono(16, 0, 24), LINEAR * 2, [])[1:])
        for a in files:
            for b in files:
                self.becomes(a, b, right)

    def test_order_4_though_one_is_without_samples(self):
        right = pack(0, mono(16, 4), LINEAR, [])[1:]
        low, none = pack(0, mono(16, 0), LINEAR, [])[1:], pack(0, mono(16, 0), [], [])[1:]
        self.assertNotEqual(low, right)
        self.becomes(low, none, right)
        self.becomes(none, low, right)

    def test_frames_that_are_not_the_least_become_so(self):
        a = Made(FILE_FORM, FILE_NUMBERS, FILE_TAGS, 0, plain_frame).data()
        b = Made(FILE_FORM, OTHER_NUMBERS, (), 0, plain_frame).data()
        self.becomes(a, b, made(numbers=FILE_NUMBERS + OTHER_NUMBERS).data())

    def test_as_many_numbers_as_can_be(self):
        for form in ([1, 4, 16, 4, 8, 1], [4, 4, 256, 4, 1, 0], [2, 4, 100, 4, 3, 2]):
            numbers = [t % 5 - 2 for t in range(2048)]
            whole = pack(0, form, numbers, [])[1:]
            for count in (0, form[0], 1024, 2048 - form[0], 2048):
                a, b = pack(0, form, numbers[:count], [])[1:], pack(0, form, numbers[count:], [])[1:]
                self.becomes(a, b, whole)

    def test_all_sorts(self):
        rnd = random.Random(141)
        for trial in range(40):
            form = [rnd.randint(1, 4), rnd.randint(4, 24), rnd.choice([16, 17, 40]), 4, rnd.randint(1, 8), rnd.randint(0, 4)]
            first, second = sound(rnd, form, rnd.randint(0, 60)), sound(rnd, form, rnd.randint(0, 60))
            tags = flat(some_tags(rnd))
            low = form[:3] + [rnd.randint(0, 4)] + form[4:]
            a, b = pack(rnd.choice([0, 5]), low, first, tags)[1:], pack(0, form, second, flat(some_tags(rnd)))[1:]
            self.becomes(a, b, pack(0, form, first + second, tags)[1:])


class Elsewhere(Joins):
    def test_damage_that_touches_no_frame(self):
        right = made(numbers=FILE_NUMBERS + OTHER_NUMBERS).data()
        for one, beside in ((made(), other().data()), (other(), made().data())):
            first = beside == other().data()
            for name, part in one.parts.items():
                if name.startswith("piece") or name.endswith("again") or name == "sum":
                    for bent in ([9] * len(part), part[::-1]):
                        damaged = one.changed(name, bent)
                        self.assertEqual(join(damaged, beside)[1:] if first else join(beside, damaged)[1:], right)

    def test_it_ends_behind_its_last_frame(self):
        right = made(numbers=FILE_NUMBERS + OTHER_NUMBERS).data()
        a, b = made(), other()
        ends = [one.place(name) + len(one.parts[name]) for one, name in ((a, "frame 4"), (b, "frame 3"))]
        self.becomes(a.data()[:ends[0]], b.data()[:ends[1]], right)
        self.refused(-9, a.data()[:ends[0] - 1], b.data())
        self.refused(-9, a.data(), b.data()[:ends[1] - 1])

    def test_bytes_behind(self):
        right = made(numbers=FILE_NUMBERS + OTHER_NUMBERS).data()
        for behind in ([0], [255] * 9, made().data()):
            self.becomes(made().data() + behind, other().data(), right)
            self.becomes(made().data(), other().data() + behind, right)

    def test_only_a_front_of_no_samples(self):
        none = made(numbers=[])
        front = none.data()[:none.place("index") + 4]
        self.becomes(front, other().data(), made(numbers=OTHER_NUMBERS).data())
        self.becomes(made().data(), front, made().data())


class Faults(Joins):
    def test_of_head_tags_and_index_of_either(self):
        for data in faulty_heads() + faulty_tags() + faulty_indexes():
            self.assertIn(check(data)[0], (2, 3, 4, 5, 6, 7, 8))
            self.refused(-2, data, other().data())
            self.refused(-2, other().data(), data)

    def test_of_both(self):
        for a, b in ((faulty_heads(), faulty_tags()), (faulty_tags(), faulty_indexes()), (faulty_indexes(), faulty_heads())):
            self.refused(-2, a[0], b[-1])

    def test_either_ends_within_them(self):
        one = made()
        for size in range(one.place("frame 0")):
            self.refused(-2, one.data()[:size], other().data())
            self.refused(-2, other().data(), one.data()[:size])

    def test_nothing(self):
        self.refused(-2, [], [])
        self.refused(-2, [], made().data())
        self.refused(-2, made().data(), [])


class OtherForms(Joins):
    def test_each_kept_number(self):
        form = [2, 8, 32, 4, 3, 2]
        numbers = [t % 50 for t in range(2 * 40)]
        data = made(form, numbers).data()
        for place, others in ((0, (1, 4)), (1, (7, 9, 24)), (2, (31, 33, 256)), (4, (2, 4, 8)), (5, (1, 3, 0))):
            for bad in others:
                bent = made(form[:place] + [bad] + form[place + 1:], numbers).data()
                self.refused(-3, data, bent)
                self.refused(-3, bent, data)
        for order in range(4):
            self.becomes(data, made(form[:3] + [order] + form[4:], numbers).data(), made(form, numbers * 2).data())

    def test_without_samples(self):
        self.refused(-3, made(FILE_FORM, []).data(), made([1, 9, 16, 4, 2, 2], []).data())
        self.refused(-3, made([1, 8, 16, 4, 2, 2], []).data(), made([1, 8, 16, 4, 2, 3], [1]).data())


class TooMany(Joins):
    def test_2048_numbers_and_one_sample_more(self):
        for channels, most in ((1, 2048), (2, 1024), (3, 682), (4, 512)):
            form = [channels, 4, 256, 4, 1, 0]
            for first in (0, 1, most // 2, most):
                a = pack(0, form, [1] * (first * channels), [])[1:]
                b = pack(0, form, [1] * ((most - first) * channels), [])[1:]
                more = pack(0, form, [1] * ((most - first + 1) * channels), [])[1:] if first > 0 else None
                self.assertEqual(join(a, b), pack(0, form, [1] * (most * channels), []))
                if more is not None:
                    self.refused(-1, a, more)
                    self.refused(-1, more, a)

    def test_many_more(self):
        full = pack(0, [1, 4, 256, 4, 1, 0], [1] * 2048, [])[1:]
        self.refused(-1, full, full)


class NotTaken(Joins):
    def test_a_frame_of_either(self):
        one = made()
        for k in range(5):
            part = one.parts[f"frame {k}"]
            renamed = small_frame(k + 1, FILE_FORM, FILE_NUMBERS[16 * k:16 * k + 16])
            for bent in (turned(part, 0), turned(part, 9), turned(part, len(part) - 1), [], [0] * len(part), renamed):
                for beside in (other().data(), made(numbers=[]).data()):
                    self.refused(-9, one.changed(f"frame {k}", bent), beside)
                    self.refused(-9, beside, one.changed(f"frame {k}", bent))

    def test_of_another_length(self):
        one = made(numbers=[5] * 77)
        for k, n in ((0, 15), (4, 12), (4, 14)):
            bent = one.changed(f"frame {k}", small_frame(k, FILE_FORM, [5] * n))
            self.refused(-9, bent, other().data())
            self.refused(-9, other().data(), bent)

    def test_each_byte_behind_the_index(self):
        one = made()
        right = made(numbers=FILE_NUMBERS[:5] + FILE_NUMBERS).data()
        beside = made(numbers=FILE_NUMBERS[:5]).data()
        inside = []
        for k in range(5):
            inside += range(one.place(f"frame {k}"), one.place(f"frame {k}") + len(one.parts[f"frame {k}"]))
        for place in range(one.place("frame 0"), len(one.data()), 3):
            answer = join(beside, turned(one.data(), place, 255))
            self.assertEqual(answer, [-9] if place in inside else [len(right)] + right)


class TooLong(Joins):
    def setUp(self):
        # Frames of one number each are small; joined behind half a block each holds two. Two of noise fill the rest.
        rnd = random.Random(142)
        self.form = [1, 24, 16, 4, 1, 4]
        self.numbers = [rnd.randrange(-2 ** 23, 2 ** 23) for t in range(32)]
        self.numbers += flat([[rnd.randrange(-2 ** 23, 2 ** 23)] * 16 for k in range(124)])
        self.data = pack(0, self.form, self.numbers, [])[1:]
        self.half = pack(0, self.form, [1] * 8, [])[1:]

    def test_longer(self):
        self.assertEqual(check(self.data)[0], 0)
        self.refused(-8, self.half, self.data)
        self.assertEqual(join(self.data, self.half), pack(0, self.form, self.numbers + [1] * 8, []))
        self.assertGreater(join(self.data, self.half)[0], 0)

    def test_as_long_as_can_be_and_one_more(self):
        right = join(self.data, self.half)
        room = 16384 - right[0]
        self.assertTrue(4 < room < 1018)
        for by, size in ((-1, 16383), (0, 16384), (1, -8)):
            data = retag(0, self.data, tag("a", [7] * (room - 4 + by)))[1:]
            self.assertEqual(join(data, self.half)[0], size)

    def test_looked_at_last(self):
        first = front_of(self.data, unframe)[0]
        self.refused(-9, self.half, turned(self.data, first + 5))
        self.refused(-2, self.half, turned(self.data, 5))
        self.refused(-1, pack(0, self.form, [1] * 129, [])[1:], self.data)


class TheFirstTold(Joins):
    def setUp(self):
        self.full = pack(0, [1, 4, 256, 4, 1, 0], [1] * 2048, [])[1:]
        self.wide = pack(0, [2, 4, 256, 4, 1, 0], [1] * 2048, [])[1:]

    def test_the_fronts_before_the_forms(self):
        for data in (faulty_heads()[0], faulty_tags()[0], faulty_indexes()[0], []):
            self.refused(-2, data, self.full)
            self.refused(-2, self.full, data)

    def test_the_forms_before_how_many(self):
        self.refused(-3, self.full, self.wide)
        self.refused(-3, self.wide, self.full)

    def test_the_forms_before_a_frame(self):
        one = made()
        damaged = one.changed("frame 0", [])
        self.refused(-3, damaged, self.full)
        self.refused(-3, self.full, damaged)

    def test_how_many_before_a_frame(self):
        first = front_of(self.full, unframe)[0]
        for damaged in (turned(self.full, first), self.full[:first]):
            self.refused(-1, damaged, self.full)
            self.refused(-1, self.full, damaged)


class ByItself(unittest.TestCase):
    def test_unchanged_and_the_same_again(self):
        right = made().data()
        between = [made(STEREO, STEREO_NUMBERS).data(), made(STEREO, STEREO_NUMBERS).data()]
        files = [right, other(pad=9).data(), turned(right, 30, 128), right[:40], right[:-9], turned(right, 120, 3),
                 made(STEREO, STEREO_NUMBERS).data()]
        for a in files:
            for b in files:
                by_itself(self, join, between, [a, b])

    def test_one_list_twice(self):
        data = made().data()
        by_itself(self, join, [data, data], [data, data])


if __name__ == "__main__":
    unittest.main()
