"""retag: the same recording with other tags, byte for byte, and its refusals."""

import random
import unittest

from helper import (EDGE_FORMS, FILE_FORM, FILE_NUMBERS, FILE_TAGS, Made, NO_TAGS, by_itself, faulty_heads,
                    faulty_indexes, faulty_tags, file_of, flat, head_of, made, mono, number, piece, plain_frame,
                    small_frame, some_tags, sound, tag, tags_part, turned)
from soundkeeping.keeping import check, find, hear, pack, read, retag

SIXTEEN = [tag("k" + sign, [place] * place) for place, sign in enumerate("abcdefghijklmnop")]
TAG_LISTS = [(), FILE_TAGS, FILE_TAGS[:1], FILE_TAGS[::-1], [tag("other", [9])], SIXTEEN, [tag("a", list(range(256)))],
             [tag("k" * 32), tag("!"), tag("~")]]


class Retags(unittest.TestCase):
    def becomes(self, data, pad, tags, other):
        self.assertEqual(retag(pad, data, flat(tags)), [len(other)] + other)
        self.assertEqual(check(other), [0, len(other)])

    def refused(self, number_told, pad, data, tags):
        self.assertEqual(retag(pad, data, tags), [number_told])


class Right(Retags):
    def test_by_hand(self):
        one = made(tags=[tag("old", [1])], pad=4)
        new = [0, 1, 3, 110, 101, 119, 0, 2, 8, 9, 0, 0, 0]
        tags = tags_part([tag("new", [8, 9])], 3)
        self.assertEqual(tags[:-4], new)
        head = head_of(FILE_FORM, 77, 17)
        body = one.data()[one.place("index"):one.place("head again")]
        data = head + tags + body + head + one.parts["sum"]
        self.becomes(one.data(), 3, [tag("new", [8, 9])], data)

    def test_from_any_tags_to_any(self):
        for before in TAG_LISTS:
            for after in TAG_LISTS:
                for pads in ((0, 0), (5, 0), (0, 5), (1, 2)):
                    other = made(tags=after, pad=pads[1]).data()
                    self.becomes(made(tags=before, pad=pads[0]).data(), pads[1], after, other)

    def test_the_same_tags(self):
        for tags in TAG_LISTS:
            for pad in (0, 3):
                data = made(tags=tags, pad=pad).data()
                self.becomes(data, pad, tags, data)

    def test_no_samples(self):
        for form in ([1, 8, 16, 4, 2, 2], [4, 24, 256, 0, 8, 4]):
            self.becomes(made(form, [], FILE_TAGS).data(), 2, SIXTEEN, made(form, [], SIXTEEN, 2).data())

    def test_padding(self):
        for pad in (0, 1, 2, 500, 1017, 1018):
            self.becomes(made().data(), pad, (), made(tags=(), pad=pad).data())
            self.becomes(made(tags=(), pad=pad).data(), 0, FILE_TAGS, made().data())

    def test_as_long_as_can_be(self):
        full = [tag("a", [7] * 1014)]
        self.becomes(made().data(), 0, full, made(tags=full).data())
        self.becomes(made(tags=full).data(), 0, (), made(tags=()).data())
        room = 1018 - len(flat(FILE_TAGS))
        other = made(pad=room).data()
        self.assertEqual(other[18:22], number(4, 1024))
        self.becomes(made().data(), room, FILE_TAGS, other)

    def test_the_second_head_is_the_new_one(self):
        for pad in (0, 9):
            other = retag(pad, made().data(), tag("x", [1, 2]))[1:]
            self.assertEqual(other[:26], head_of(FILE_FORM, 77, 6 + 6 + pad))
            self.assertEqual(other[-30:-4], other[:26])
            self.assertEqual(other[-4:], made().parts["sum"])

    def test_what_is_behind_the_tags_stays(self):
        one = made()
        other = retag(6, one.data(), tag("x"))[1:]
        at = 26 + 6 + 4 + 6
        self.assertEqual(other[at:-30], one.data()[one.place("index"):-30])

    def test_frames_that_are_not_the_least_stay(self):
        for form in (FILE_FORM, [3, 12, 16, 1, 2, 1]):
            numbers = FILE_NUMBERS[:75]
            before = Made(form, numbers, FILE_TAGS, 3, plain_frame).data()
            after = Made(form, numbers, SIXTEEN, 0, plain_frame).data()
            self.assertNotEqual(after, file_of(form, numbers, SIXTEEN))
            self.becomes(before, 0, SIXTEEN, after)

    def test_files_of_each_order_stay_so(self):
        numbers = [3, -6, -1, 11, -14, 0, 25, -37, 8, 56, -98, 42, 118, -253, 157, 234, -638, 515, 414, -1568, 1566, 572,
                   -3748, 4515]
        files = []
        for order in range(5):
            data = pack(0, mono(16, order), numbers, [])[1:]
            files.append(pack(7, mono(16, order), numbers, tag("x"))[1:])
            self.becomes(data, 7, [tag("x")], files[-1])
        self.assertNotEqual(files[0], files[4])

    def test_bytes_that_look_like_a_head(self):
        # A value that holds the old head, and one that holds the new one, are values like any.
        one = made()
        for value in (one.parts["head"], one.parts["head"] + one.parts["sum"], head_of(FILE_FORM, 77, 40)):
            tags = [tag("h", value)]
            self.becomes(one.data(), 1, tags, made(tags=tags, pad=1).data())
            self.becomes(made(tags=tags).data(), 0, (), made(tags=()).data())


class NoSampleChanges(Retags):
    """P6."""

    def test_over_many_files_and_tags(self):
        rnd = random.Random(121)
        for trial in range(80):
            form = [rnd.randint(1, 4), rnd.randint(4, 24), rnd.choice([16, 17, 40, 256]), rnd.randint(0, 4),
                    rnd.randint(1, 8), rnd.randint(0, 4)]
            numbers = sound(rnd, form, rnd.choice([0, 1, form[2], form[2] + 1, rnd.randint(0, 120)]))
            before, after = some_tags(rnd), some_tags(rnd)
            pad = rnd.choice([0, 0, 1, 30])
            data = pack(rnd.choice([0, 2]), form, numbers, flat(before))[1:]
            self.keeps(data, form, numbers, pad, after)
            self.becomes(data, pad, after, pack(pad, form, numbers, flat(after))[1:])

    def keeps(self, data, form, numbers, pad, tags):
        answer = retag(pad, data, flat(tags))
        other = answer[1:]
        self.assertEqual(answer[0], len(other))
        told = hear(other)
        samples = len(numbers) // form[0]
        self.assertEqual(told[:2], [0, len(other)])
        self.assertEqual(told[2:9], [1] + form[:3] + form[4:] + [samples])
        self.assertEqual(told[9:], [6 + len(flat(tags)) + pad, len(tags), -(-samples // form[2]), len(numbers)] + numbers)
        self.assertEqual(read(0, samples, other), read(0, samples, data))
        for place, one in enumerate(tags):
            content = one[3 + one[0]:]
            self.assertEqual(find(other, one[1:1 + one[0]]), [place, len(content)] + content)

    def test_at_the_edges_of_forms(self):
        rnd = random.Random(122)
        for form in EDGE_FORMS:
            half = 2 ** (form[1] - 1)
            for n in (0, 1, form[2] + 1):
                numbers = [rnd.choice([-half, half - 1, 0]) for t in range(n * form[0])]
                self.keeps(pack(0, form, numbers, flat(FILE_TAGS))[1:], form, numbers, 11, SIXTEEN)

    def test_as_many_numbers_as_can_be(self):
        for form in ([1, 4, 16, 0, 8, 1], [4, 4, 256, 0, 1, 0]):
            numbers = [t % 7 - 3 for t in range(2048)]
            self.keeps(pack(0, form, numbers, [])[1:], form, numbers, 0, FILE_TAGS)

    def test_again_and_again(self):
        data = made().data()
        for tags in TAG_LISTS * 2:
            data = retag(len(tags), data, flat(tags))[1:]
            self.assertEqual(read(0, 77, data), [1, 77] + FILE_NUMBERS)
        self.assertEqual(retag(0, data, flat(FILE_TAGS))[1:], made().data())


class TagsThatCannotBe(Retags):
    def test_each_reason(self):
        for tags in NO_TAGS:
            for data in (made().data(), made(tags=(), pad=50).data(), made(FILE_FORM, []).data()):
                self.refused(-3, 0, data, tags)
                self.refused(-3, 1, data, tags)

    def test_sixteen_and_seventeen(self):
        self.assertEqual(retag(0, made().data(), flat(SIXTEEN))[1:], made(tags=SIXTEEN).data())
        self.refused(-3, 0, made().data(), flat(SIXTEEN + [tag("x")]))
        self.refused(-3, 0, made().data(), flat([tag("x")] + SIXTEEN))

    def test_keys(self):
        for byte in range(256):
            fine = 33 <= byte <= 126 and byte != 61
            for key in ([byte], [97, byte], [byte, 97]):
                answer = retag(0, made(FILE_FORM, []).data(), [len(key)] + key + [0, 0])
                self.assertEqual(answer == [-3], not fine, byte)
        self.assertGreater(retag(0, made().data(), tag("k" * 32))[0], 0)

    def test_how_long_they_are(self):
        for pad in (1019, 1020, 2000, 4294967295):
            self.refused(-3, pad, made().data(), [])
        self.assertGreater(retag(1018, made().data(), [])[0], 0)
        full = tag("a", [3] * 1014)
        self.assertGreater(retag(0, made().data(), full)[0], 0)
        self.refused(-3, 1, made().data(), full)
        self.refused(-3, 0, made().data(), tag("a", [3] * 1015))
        self.refused(-3, 0, made().data(), tag("a", [3] * 2044))

    def test_the_old_ones_have_no_bearing(self):
        # Keys may be the same as before, and the room is T's of the new ones.
        full = made(tags=[tag("a", [3] * 1014)]).data()
        self.assertEqual(retag(0, full, tag("a", [4]))[1:], made(tags=[tag("a", [4])]).data())
        self.refused(-3, 0, full, tag("a", [3] * 1015))


class Faults(Retags):
    def test_of_the_head_and_of_the_tags(self):
        for data in faulty_heads() + faulty_tags():
            self.assertIn(check(data)[0], (2, 3, 4, 5, 6))
            for pad, tags in ((0, []), (2, tag("x")), (0, [0]), (4294967295, [])):
                self.refused(-2, pad, data, tags)

    def test_it_ends_within_head_or_tags(self):
        for one in (made(), made(pad=9), made(FILE_FORM, [], ())):
            data = one.data()
            for size in range(one.place("index")):
                self.refused(-2, 0, data[:size], [])
                self.refused(-2, 0, data[:size], [0])

    def test_it_ends_later(self):
        for one in (made(), made(pad=9), made(FILE_FORM, [], ())):
            data = one.data()
            for size in range(one.place("index"), len(data)):
                self.refused(-9, 0, data[:size], [])
                self.refused(-3, 0, data[:size], [0])

    def test_of_the_index(self):
        for data in faulty_indexes():
            self.assertIn(check(data)[0], (7, 8))
            self.refused(-9, 0, data, [])

    def test_each_byte_behind_the_tags(self):
        one = made()
        for place in range(one.place("index"), len(one.data())):
            self.refused(-9, 0, turned(one.data(), place, 4), tag("x"))

    def test_of_frames_and_pieces(self):
        one = made()
        for name in one.parts:
            if name.startswith(("frame", "piece")):
                part = one.parts[name]
                for other in ([], part[:-1], part + [0], [0] * len(part), part + part):
                    self.refused(-9, 0, one.changed(name, other), [])
        for k, other in ((0, 1), (3, 2), (4, 3)):
            bent = small_frame(other, FILE_FORM, FILE_NUMBERS[16 * k:16 * k + 16])
            self.refused(-9, 0, one.changed(f"frame {k}", bent), [])
        self.refused(-9, 0, one.changed("piece 0 0", piece(1, 0, [one.parts["frame 0"], one.parts["frame 1"]])), [])

    def test_of_the_end(self):
        one = made()
        for name, other in (("index again", []), ("head again", []), ("sum", []), ("sum", [0] * 4),
                            ("head again", head_of(FILE_FORM, 77, 6)), ("head again", head_of(FILE_FORM, 76, 27))):
            self.refused(-9, 0, one.changed(name, other), [])

    def test_bytes_behind(self):
        data = made().data()
        for behind in ([0], [255], [0] * 100, data):
            self.refused(-9, 0, data + behind, flat(FILE_TAGS))

    def test_nothing(self):
        self.refused(-2, 0, [], [])


class TooLong(Retags):
    def setUp(self):
        rnd = random.Random(123)
        self.form = [1, 24, 256, 0, 1, 2]
        self.numbers = [rnd.randrange(-2 ** 23, 2 ** 23) for t in range(1750)]
        self.data = pack(0, self.form, self.numbers, [])[1:]
        self.room = 16384 - len(self.data)

    def test_as_long_as_can_be_and_one_more(self):
        self.assertTrue(0 < self.room < 1000)
        answer = retag(self.room, self.data, [])
        self.assertEqual(answer, pack(self.room, self.form, self.numbers, []))
        self.assertEqual(answer[0], 16384)
        for pad in (self.room + 1, 1018):
            self.refused(-8, pad, self.data, [])
        value = [5] * (self.room - 4)
        self.assertEqual(retag(0, self.data, tag("a", value))[0], 16384)
        self.refused(-8, 0, self.data, tag("a", value + [5]))
        self.refused(-8, 1, self.data, tag("a", value))

    def test_looked_at_last(self):
        self.refused(-3, 1019, self.data, [])
        self.refused(-3, 1010, self.data, [0])
        self.refused(-9, 1018, turned(self.data, 9000), [])
        self.refused(-9, 1018, self.data + [0], [])
        self.refused(-2, 1018, turned(self.data, 3), [])


class TheFirstTold(Retags):
    def test_head_and_tags_before_the_new_tags(self):
        for data in ([], faulty_heads()[0], faulty_tags()[0], made().data()[:30]):
            for tags in NO_TAGS:
                self.refused(-2, 0, data, tags)
            self.refused(-2, 4294967295, data, [])

    def test_the_new_tags_before_what_is_behind(self):
        one = made()
        for data in [turned(one.data(), one.place("frame 2")), one.data() + [0], one.data()[:-1]] + faulty_indexes()[:3]:
            for tags in NO_TAGS:
                self.refused(-3, 0, data, tags)
            self.refused(-3, 4294967295, data, [])
            self.refused(-9, 0, data, [])


class ByItself(unittest.TestCase):
    def test_unchanged_and_the_same_again(self):
        right = made().data()
        between = [1, made(tags=()).data(), tag("other")]
        for data in (right, turned(right, 30, 128), right[:40], right[:-9], turned(right, 120, 3)):
            for tags in ([], flat(SIXTEEN), tag("a", [0]), [0]):
                by_itself(self, retag, between, [3, data, tags])


if __name__ == "__main__":
    unittest.main()
