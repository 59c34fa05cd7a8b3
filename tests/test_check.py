"""check: files that are taken, and the first fault of bytes that aren't, with its place."""

import itertools
import random
import unittest

from helper import (EDGE_FORMS, FILE_FORM, FILE_NUMBERS, FILE_TAGS, Made, by_itself, closed, crc, fixed, flat,
                    frames_of, head, head_of, index_of, judged, made, number, piece, plain, small_frame, some_bytes,
                    some_tags, sound, tag, tags_part, to_bytes, turned, u, zeros_bits)
from soundkeeping.keeping import check, pack, unframe

# Behind what's told anything may stand.
TAILS = ([], [0] * 40, [255] * 40, [0x4B, 0x57, 0x4B, 0x50] * 10)


class Judge(unittest.TestCase):
    def told(self, data, needed, fault, place):
        """The fault is told as soon as so many bytes are there, and stays whatever comes behind them."""
        self.assertLessEqual(needed, len(data))
        for size in range(max(0, needed - 30), needed):
            self.assertEqual(check(data[:size]), [1, size])
        for size in list(range(needed, min(len(data), needed + 30))) + [len(data)]:
            self.assertEqual(check(data[:size]), [fault, place], size)
        for tail in TAILS:
            self.assertEqual(check(data[:needed] + tail), [fault, place])


class Whole(Judge):
    def test_what_pack_made(self):
        rnd = random.Random(81)
        for trial in range(150):
            form = [rnd.randint(1, 4), rnd.randint(4, 24), rnd.choice([16, 17, 40, 256]), rnd.randint(0, 4),
                    rnd.randint(1, 8), rnd.randint(0, 4)]
            numbers = sound(rnd, form, rnd.choice([0, 1, form[2], form[2] + 1, rnd.randint(0, 300)]))
            answer = pack(rnd.choice([0, 0, 1, 30]), form, numbers, flat(some_tags(rnd)))
            if answer != [-8]:
                self.assertEqual(check(answer[1:]), [0, answer[0]], (form, numbers))

    def test_at_the_edges_of_forms(self):
        rnd = random.Random(82)
        for form in EDGE_FORMS:
            half = 2 ** (form[1] - 1)
            for n in (0, 1, form[2] + 1):
                answer = pack(0, form, [rnd.choice([-half, half - 1, 0]) for t in range(n * form[0])], [])
                self.assertEqual(check(answer[1:]), [0, answer[0]])

    def test_the_greatest(self):
        self.assertEqual(check(pack(0, [1, 4, 16, 0, 8, 4], [1] * 2048, [])[1:])[0], 0)
        self.assertEqual(check(pack(1018, [4, 4, 16, 0, 1, 0], [1, 2, 3, 4] * 512, [])[1:])[0], 0)
        tags = flat([tag("k" * 31 + sign) for sign in "abcdefghijklmnop"])
        self.assertEqual(check(pack(0, FILE_FORM, FILE_NUMBERS, tags)[1:])[0], 0)
        self.assertEqual(check(pack(0, FILE_FORM, FILE_NUMBERS, tag("a", [7] * 1014))[1:])[0], 0)

    def test_as_long_as_can_be(self):
        rnd = random.Random(83)
        form = [1, 24, 256, 0, 1, 2]
        numbers = [rnd.randrange(-2 ** 23, 2 ** 23) for t in range(1750)]
        size = pack(0, form, numbers, [])[0]
        self.assertEqual(check(pack(16384 - size, form, numbers, [])[1:]), [0, 16384])

    def test_frames_need_not_be_the_least(self):
        # Any frame that's taken will do, and the order isn't kept.
        def plainly(k, form, part):
            return closed(head(k, len(part)) + plain(8, part))

        def by_differences(k, form, part):
            return closed(head(k, len(part)) + fixed(8, 1, part))

        data = Made(FILE_FORM, FILE_NUMBERS, FILE_TAGS, 0, plainly).data()
        self.assertNotEqual(data, pack(0, FILE_FORM, FILE_NUMBERS, flat(FILE_TAGS))[1:])
        self.assertEqual(check(data), [0, len(data)])
        self.assertEqual(check(Made(FILE_FORM, FILE_NUMBERS, (), 0, by_differences).data())[0], 0)


class Beginnings(Judge):
    def test_every_length(self):
        files = [made(), made(pad=9), made([3, 12, 16, 4, 3, 1], [t % 50 for t in range(120)], FILE_TAGS[:1]),
                 made([2, 24, 16, 0, 1, 4], [9] * 40, ()), made(FILE_FORM, [], ()),
                 made([1, 4, 256, 0, 8, 0], [1, 2], FILE_TAGS)]
        for one in files:
            data = one.data()
            for size in range(len(data)):
                self.assertEqual(check(data[:size]), [1, size])
            self.assertEqual(check(data), [0, len(data)])

    def test_nothing(self):
        self.assertEqual(check([]), [1, 0])

    def test_bytes_behind(self):
        for one in (made(), made(FILE_FORM, [], ()), made([2, 24, 16, 0, 1, 4], [9] * 40, ())):
            data = one.data()
            for behind in ([0], [255], [0] * 100, data):
                self.assertEqual(check(data + behind), [11, len(data)])


class Heads(Judge):
    def bent(self, place, part):
        """The file's head with other bytes at a place, and a right CRC."""
        one = made()
        bare = one.parts["head"][:22]
        bare[place:place + len(part)] = part
        return one.changed("head", bare + crc(bare))

    def test_first_eight_bytes(self):
        for place in range(8):
            for by in (1, 32, 255):
                self.told(turned(made().data(), place, by), 8, 2, 0)
        self.told(self.bent(5, [2]), 8, 2, 0)
        self.told([0] * 100, 8, 2, 0)

    def test_channels_depth_block_group_spare(self):
        for place, bads in ((8, (0, 5, 255)), (9, (0, 3, 25, 255)), (12, (0, 9, 255)), (13, (5, 255))):
            for bad in bads:
                self.told(self.bent(place, [bad]), 22, 3, 8)
        for block in (0, 1, 15, 257, 16 * 256, 65535):
            self.told(self.bent(10, number(2, block)), 22, 3, 8)

    def test_channels_depth_block_group_spare_that_can_be(self):
        for place, goods in ((8, (1, 2, 4)), (9, (4, 24)), (10, ([0, 16], [1, 0])), (12, (1, 8)), (13, (0, 4))):
            for good in goods:
                self.assertNotIn(check(self.bent(place, good if place == 10 else [good]))[0], (1, 2, 3, 4))

    def test_how_many_numbers(self):
        for channels, samples in ((1, 2049), (2, 1025), (3, 683), (4, 513), (1, 2 ** 32 - 1), (4, 2 ** 30), (2, 2 ** 31),
                                  (1, 65536), (1, 2 ** 24)):
            self.told(self.bent(8, [channels, 8, 1, 0, 1, 0] + number(4, samples)), 22, 3, 8)
        for channels, samples in ((1, 2048), (2, 1024), (3, 682), (4, 512)):
            data = head_of([channels, 8, 256, 0, 1, 0], samples, 6) + tags_part([])
            self.assertEqual(check(data), [1, 32])

    def test_length_of_the_tags(self):
        for size in (0, 1, 5, 1025, 1026, 65536 + 6, 2 ** 24 + 6, 2 ** 31 + 1024, 2 ** 32 - 1):
            self.told(self.bent(18, number(4, size)), 22, 3, 8)
        for size in (6, 1024):
            self.assertEqual(check(head_of(FILE_FORM, 0, size)), [1, 26])

    def test_its_check(self):
        for place in range(22, 26):
            for by in (1, 128):
                self.told(turned(made().data(), place, by), 26, 4, 22)
        # Other numbers that can be, without a check of their own.
        for place, by in ((8, 2), (9, 4), (11, 1), (12, 1), (13, 1), (17, 1), (21, 8)):
            self.told(turned(made().data(), place, by), 26, 4, 22)

    def test_the_first_is_told(self):
        data = made().data()
        self.told(turned(turned(data, 7), 8, 8), 8, 2, 0)
        self.told(turned(turned(data, 9, 128), 25), 22, 3, 8)
        self.told(turned(turned(data, 25), 27, 64), 26, 4, 22)


class Tags(Judge):
    def part(self, count, data, size=None, sealed=True):
        """A file that begins with such tags: the number of them, their bytes, bytes 0 up to the length."""
        size = len(data) + 6 if size is None else size
        bare = number(2, count) + data + [0] * (size - 6 - len(data))
        return head_of(FILE_FORM, 0, size) + bare + (crc(bare) if sealed else [0] * 4) + [0] * 4

    def bad(self, count, data, needed, place, size=None):
        """needed and place are counted from the first tag."""
        for sealed in (True, False):
            self.told(self.part(count, data, size, sealed), 28 + needed, 5, 28 + place)

    def test_right_ones(self):
        for tags, pad in (([], 0), ([], 5), (FILE_TAGS, 0), (FILE_TAGS, 1), ([tag("a" * 32, [1] * 600)], 100)):
            data = self.part(len(tags), flat(tags), 6 + len(flat(tags)) + pad)
            self.assertEqual(check(data), [1, len(data)])

    def test_more_than_16(self):
        sixteen = flat([tag("k" + sign) for sign in "abcdefghijklmnop"])
        self.assertEqual(check(self.part(16, sixteen))[0], 1)
        for count in (17, 18, 256, 65535):
            self.told(self.part(count, sixteen + tag("q")), 28, 5, 26)

    def test_length_of_a_key(self):
        for size in (0, 33, 34, 255):
            self.bad(1, [size] + [97] * 300, 1, 0)
            self.bad(2, tag("b", [1]) + [size] + [97] * 300, 6, 5)

    def test_a_key_without_room(self):
        # Behind the key two bytes have to be left for the value's length.
        for size in (1, 2, 31, 32):
            room = [size] + [97] * size
            self.bad(1, room, 1, 0)
            self.bad(1, room + [0], 1, 0)
            self.bad(2, tag("b") + room + [0], 5, 4)
            self.assertEqual(check(self.part(1, room + [0, 0]))[0], 1)
        self.bad(1, [1], 1, 0)
        self.bad(1, [5, 97, 97], 1, 0)

    def test_a_key_length_that_cannot_be_in_a_room_too_small(self):
        self.bad(1, [0], 1, 0)
        self.bad(1, [0, 0], 1, 0)

    def test_no_room_left(self):
        # As soon as what's before ends.
        self.bad(1, [], 0, 0)
        self.bad(16, [], 0, 0)
        self.bad(2, tag("a", [1, 2]), 6, 6)
        self.bad(4, flat(FILE_TAGS), len(flat(FILE_TAGS)), len(flat(FILE_TAGS)))

    def test_padding_in_the_place_of_a_tag(self):
        self.bad(1, [], 1, 0, 10)
        self.bad(2, tag("a", [1, 2]), 7, 6, 30)

    def test_bytes_of_a_key(self):
        for byte in list(range(33)) + [61] + list(range(127, 256)):
            self.bad(1, [1, byte, 0, 0], 2, 0)
        for key in ([61, 97, 97], [97, 32, 97], [97, 97, 127]):
            # The key is judged when it's whole.
            self.bad(1, [3] + key + [0, 0], 4, 0)
            self.bad(2, tag("x", [5]) + [3] + key + [0, 0], 9, 5)
        for byte in list(range(33, 61)) + list(range(62, 127)):
            self.assertEqual(check(self.part(1, [1, byte, 0, 0]))[0], 1)

    def test_keys_alike(self):
        self.bad(2, tag("ab", [1]) + tag("ab", [2]), 6 + 3, 6)
        self.bad(3, tag("a") + tag("b", [1]) + tag("a"), 4 + 5 + 2, 9)
        self.assertEqual(check(self.part(3, tag("a") + tag("A") + tag("aa")))[0], 1)

    def test_length_of_a_value(self):
        for size in (3, 4, 256, 65535):
            self.bad(1, [1, 97] + number(2, size) + [5, 5], 4, 0)
            self.bad(2, tag("b", [1]) + [1, 97] + number(2, size) + [5, 5], 9, 5)
        self.assertEqual(check(self.part(1, [1, 97, 0, 2, 5, 5]))[0], 1)
        # One byte more would be the first of the CRC.
        self.bad(1, [1, 97, 0, 1], 4, 0)

    def test_bytes_behind_them_that_are_not_0(self):
        for tags in ([], FILE_TAGS[:1], FILE_TAGS):
            data = flat(tags)
            for zeros in (0, 1, 7):
                for byte in (1, 97, 255):
                    size = 6 + len(data) + 20
                    self.bad(len(tags), data + [0] * zeros + [byte], len(data) + zeros + 1, len(data) + zeros, size)
                    self.bad(len(tags), data + [0] * zeros + [byte, byte], len(data) + zeros + 1, len(data) + zeros, size)
        # The last one before the CRC.
        self.bad(0, [0] * 9 + [1], 10, 9)

    def test_a_tag_too_few(self):
        # What the number of tags doesn't count is no padding.
        self.bad(2, flat(FILE_TAGS), len(FILE_TAGS[0] + FILE_TAGS[1]) + 1, len(FILE_TAGS[0] + FILE_TAGS[1]))

    def test_their_check(self):
        for tags, pad in (([], 0), (FILE_TAGS, 0), (FILE_TAGS, 3)):
            one = made(tags=tags, pad=pad)
            place = one.place("index") - 4
            for at in range(place, place + 4):
                self.told(turned(one.data(), at, 16), place + 4, 6, place)
        # A byte of a value turned over.
        one = made()
        self.told(turned(one.data(), 28 + 6), one.place("index"), 6, one.place("index") - 4)

    def test_the_first_is_told(self):
        one = made()
        data = turned(one.data(), 28)
        place = one.place("index")
        self.assertEqual(check(data), judged(data, unframe)[0])
        twice = turned(turned(one.data(), place - 1), place)
        self.told(twice, place, 6, place - 4)


class Index(Judge):
    def with_starts(self, one, starts):
        return one.changed("index", index_of(starts))

    def starts(self, one):
        return [one.place(f"frame {k}") - one.place("frame 0") for k in range(5)]

    def test_a_first_entry_that_is_not_0(self):
        one = made()
        at = one.place("index")
        for first in (1, 256, 65536, 2 ** 24 - 1):
            self.told(self.with_starts(one, [first] + self.starts(one)[1:]), at + 3, 7, at)

    def test_an_entry_that_does_not_rise(self):
        one = made()
        right = self.starts(one)
        at = one.place("index")
        for k in range(1, 5):
            for start in (right[k - 1], right[k - 1] - 1, 0):
                starts = list(right)
                starts[k] = max(0, start)
                self.told(self.with_starts(one, starts), at + 3 * k + 3, 7, at + 3 * k)

    def test_an_entry_that_rises_is_judged_by_the_frames(self):
        one = made()
        starts = self.starts(one)
        starts[1] += 1
        self.assertEqual(check(self.with_starts(one, starts))[0], 9)

    def test_its_check(self):
        one = made()
        place = one.place("frame 0") - 4
        for at in range(place, place + 4):
            self.told(turned(one.data(), at, 2), place + 4, 8, place)
        # An entry changed so that they still rise.
        self.told(turned(one.data(), place - 1, 1), place + 4, 8, place)
        empty = made(FILE_FORM, [], ())
        for at in range(4):
            self.told(turned(empty.data(), 32 + at), 36, 8, 32)

    def test_the_first_is_told(self):
        one = made()
        at = one.place("index")
        data = turned(turned(one.data(), at + 2), one.place("frame 0") - 1)
        self.told(data, at + 3, 7, at)
        data = turned(turned(one.data(), one.place("frame 0") - 1), one.place("frame 0"))
        self.told(data, one.place("frame 0"), 8, one.place("frame 0") - 4)


class Frames(Judge):
    def test_its_first_bytes(self):
        one = made()
        for k in range(5):
            place = one.place(f"frame {k}")
            for at in (0, 1):
                self.told(turned(one.data(), place + at), place + 2, 9, place)

    def test_its_check(self):
        one = made()
        for k in range(5):
            place = one.place(f"frame {k}")
            behind = place + len(one.parts[f"frame {k}"])
            for at in (behind - 2, behind - 1):
                self.told(turned(one.data(), at), behind, 9, place)

    def test_wrong_before_it_ends(self):
        # A kind that there's none of: told with its last bit, 44 + 5 bits.
        one = made()
        part = to_bytes(head(2, 16) + zeros_bits(0) + u(4, 11)) + [0] * 40
        place = one.place("frame 2")
        self.told(one.changed("frame 2", part), place + 7, 9, place)

    def test_more_samples_than_a_block(self):
        one = made()
        place = one.place("frame 1")
        self.told(one.changed("frame 1", to_bytes(head(1, 17) + plain(8, [1] * 17))), place + 6, 9, place)

    def test_of_another_number(self):
        # A frame that's taken, but not frame k: told once it's whole.
        one = made()
        for k in range(5):
            for other in (0, 1, 2, 3, 4, 5, 2 ** 20 - 1):
                if other != k:
                    part = small_frame(other, FILE_FORM, FILE_NUMBERS[16 * k:16 * k + 16])
                    place = one.place(f"frame {k}")
                    self.told(one.changed(f"frame {k}", part), place + len(part), 9, place)

    def test_of_another_length(self):
        one = made()
        for k, n in ((0, 1), (0, 15), (3, 15), (4, 12), (4, 14), (4, 16), (4, 1)):
            part = small_frame(k, FILE_FORM, (FILE_NUMBERS[16 * k:] + [5] * 16)[:n])
            place = one.place(f"frame {k}")
            self.told(one.changed(f"frame {k}", part), place + len(part), 9, place)

    def test_two_changed_places(self):
        one = made()
        first, second = one.parts["frame 0"], one.parts["frame 1"]
        data = one.data()
        place = one.place("frame 0")
        data[place:place + len(first + second)] = second + first
        self.told(data, place + len(second), 9, place)

    def test_not_where_the_index_says(self):
        # Told as soon as what's before ends: behind a frame, or behind a group's spare pieces.
        one = made()
        right = [one.place(f"frame {k}") - one.place("frame 0") for k in range(5)]
        for k in range(1, 5):
            for by in (-1, 1, 2):
                starts = list(right)
                starts[k] += by
                self.told(one.changed("index", index_of(starts)), one.place(f"frame {k}"), 9, one.place(f"frame {k}"))

    def test_bytes_between(self):
        one = made()
        place = one.place("frame 3")
        self.told(one.data()[:place] + [0] + one.data()[place:], place + 2, 9, place)
        # The frame before is one byte longer than the index says.
        longer = small_frame(0, FILE_FORM, [-128, 127] * 8)
        data = one.changed("frame 0", longer)
        self.assertNotEqual(len(longer), len(one.parts["frame 0"]))
        behind = one.place("frame 0") + len(longer)
        self.told(data, behind, 9, behind)

    def test_lost(self):
        one = made()
        self.assertEqual(check(one.changed("frame 1", [])), [9, one.place("frame 1")])
        self.assertEqual(check(one.changed("frame 2", [])), [9, one.place("frame 2")])

    def test_the_first_4096_bytes(self):
        # A run with no end is short while fewer are there, and wrong then.
        begin = head_of([1, 24, 256, 0, 1, 0], 256, 6) + tags_part([]) + index_of([0])
        data = begin + to_bytes(head(0, 256) + zeros_bits(0) + u(4, 2) + u(3, 0) + u(5, 0)) + [0] * 5000
        self.told(data, len(begin) + 4096, 9, len(begin))

    def test_each_byte_turned_over(self):
        one = made()
        for at in range(one.place("frame 0"), one.place("frame 2")):
            for by in (1, 16, 255):
                data = turned(one.data(), at, by)
                self.assertEqual(check(data), judged(data, unframe)[0])
                self.assertIn(check(data)[0], (1, 9))


class Pieces(Judge):
    def needed(self, at, size):
        return next(look for look in (2, 4, 5, 7, size) if at < look)

    def test_each_of_its_bytes(self):
        one = made()
        for g, j in itertools.product(range(3), range(2)):
            name = f"piece {g} {j}"
            size = len(one.parts[name])
            for at in list(range(10)) + [size - 6, size - 5, size - 4, size - 1]:
                place = one.place(name)
                self.told(turned(one.data(), place + at, 3), place + self.needed(at, size), 9, place)

    def test_right_ones_that_should_not_be_there(self):
        one = made()
        frames = frames_of(FILE_FORM, FILE_NUMBERS, small_frame)
        place = one.place("piece 1 0")
        for part, needed in (
            (piece(0, 0, frames[2:4]), 4),
            (piece(257, 0, frames[2:4]), 4),
            (piece(1, 1, frames[2:4]), 5),
            (piece(1, 0, frames[2:4] + [[1] * 100]), 7),
            (piece(1, 0, [frames[2], turned(frames[3], 9)]), len(one.parts["piece 1 0"])),
            (frames[0], 2),
        ):
            self.told(one.changed("piece 1 0", part), place + needed, 9, place)

    def test_two_changed_places(self):
        one = made()
        first, second = one.parts["piece 0 0"], one.parts["piece 0 1"]
        data = one.data()
        place = one.place("piece 0 0")
        data[place:place + len(first + second)] = second + first
        self.told(data, place + 5, 9, place)

    def test_lost(self):
        one = made()
        for name in ("piece 0 0", "piece 0 1", "piece 2 0", "piece 2 1"):
            self.assertEqual(check(one.changed(name, [])), [9, one.place(name)])

    def test_the_last_group_has_fewer_frames(self):
        one = made()
        frames = frames_of(FILE_FORM, FILE_NUMBERS, small_frame)
        self.assertEqual(one.parts["piece 2 1"], piece(2, 1, [frames[4]]))
        part = piece(2, 1, [frames[4], [1]])
        place = one.place("piece 2 1")
        self.told(one.changed("piece 2 1", part), place + len(part), 9, place)


class Ends(Judge):
    def test_the_second_index_the_second_head_the_sum(self):
        one = made()
        for name in ("index again", "head again", "sum"):
            place, size = one.place(name), len(one.parts[name])
            for at in range(size):
                self.told(turned(one.data(), place + at, 5), place + size, 10, place)

    def test_right_in_themselves(self):
        # An index or a head that might stand in another file.
        one = made()
        starts = [one.place(f"frame {k}") - one.place("frame 0") for k in range(5)]
        place = one.place("index again")
        other = index_of(starts[:4] + [starts[4] + 1])
        self.told(one.changed("index again", other), place + len(other), 10, place)
        place = one.place("head again")
        self.told(one.changed("head again", head_of(FILE_FORM, 78, 6)), place + 26, 10, place)
        place = one.place("sum")
        self.told(one.changed("sum", crc([])), place + 4, 10, place)

    def test_of_no_samples(self):
        one = made(FILE_FORM, [], ())
        for name in ("index again", "head again", "sum"):
            place, size = one.place(name), len(one.parts[name])
            self.told(turned(one.data(), place), place + size, 10, place)

    def test_lost(self):
        one = made()
        self.assertEqual(check(one.changed("index again", [])), [10, one.place("index again")])
        self.assertEqual(check(one.changed("head again", [])), [1, len(one.data()) - 26])
        self.assertEqual(check(one.changed("sum", [])), [1, len(one.data()) - 4])

    def test_before_bytes_behind(self):
        one = made()
        data = turned(one.data(), one.place("sum")) + [1, 2, 3]
        self.assertEqual(check(data), [10, one.place("sum")])


class TheFirst(Judge):
    def test_of_any_two(self):
        """One byte of each part turned over: with two of them the first in the file's order is told."""
        one = made(pad=3)
        places = [8] + flat([(one.place(name), one.place(name) + len(part) - 1) for name, part in one.parts.items()])
        single = {place: check(turned(one.data(), place, 4)) for place in places}
        self.assertEqual({told[0] for told in single.values()}, {2, 3, 4, 5, 6, 7, 8, 9, 10})
        for first, second in itertools.combinations(sorted(single), 2):
            data = turned(turned(one.data(), first, 4), second, 4)
            self.assertEqual(check(data), single[first], (first, second))
            self.assertEqual(check(data + [0]), single[first])


class WhatIsToldStays(Judge):
    def stays(self, data):
        """Every beginning: too short up to where the fault is told, and the same from there on."""
        told = None
        for size in range(len(data) + 1):
            answer = check(data[:size])
            self.assertEqual(answer, judged(data[:size], unframe)[0], size)
            if told is not None:
                self.assertEqual(answer, told)
            elif answer[0] == 0:
                self.assertEqual(answer, [0, size])
            elif answer[0] == 1:
                self.assertEqual(answer, [1, size])
            else:
                told = answer

    def test_of_right_ones_and_what_is_behind(self):
        self.stays(made(FILE_FORM, FILE_NUMBERS[:40], FILE_TAGS[:2], 2).data() + [1, 2, 3])
        self.stays(made([2, 16, 16, 4, 1, 1], FILE_NUMBERS[:40], ()).data() + made(FILE_FORM, [], ()).data())

    def test_of_damaged_ones(self):
        rnd = random.Random(84)
        for trial in range(60):
            form = [rnd.randint(1, 2), rnd.randint(4, 24), 16, 2, rnd.randint(1, 3), rnd.randint(0, 2)]
            data = pack(rnd.choice([0, 4]), form, sound(rnd, form, rnd.randint(0, 40)), flat(some_tags(rnd, 3)))[1:]
            if trial % 3 == 0:
                data = turned(data, rnd.randrange(len(data)), rnd.randint(1, 255))
            elif trial % 3 == 1:
                at = rnd.randrange(26, len(data))
                data = data[:at] + data[at + rnd.randint(1, 30):]
            else:
                at = rnd.randrange(26, len(data))
                data = data[:at] + some_bytes(rnd, rnd.randint(1, 9)) + data[at:]
            self.stays(data)

    def test_of_tags_of_all_sorts(self):
        rnd = random.Random(85)
        for trial in range(150):
            tags = flat(some_tags(rnd, 4))
            for change in range(rnd.randint(0, 2)):
                if tags:
                    tags[rnd.randrange(len(tags))] = rnd.choice([0, 1, 2, 3, 61, 97, rnd.randrange(256)])
            bare = number(2, rnd.choice([0, 1, 2, 3, 4, 17])) + tags + [0] * rnd.choice([0, 0, 1, 6])
            self.stays(head_of(FILE_FORM, 0, len(bare) + 4) + bare + crc(bare) + [0] * 8)


class Anything(Judge):
    def test_all_sorts_of_bytes(self):
        rnd = random.Random(86)
        for trial in range(200):
            data = some_bytes(rnd, rnd.choice([0, 7, 8, 9, 30, 300]))
            self.assertEqual(check(data), judged(data, unframe)[0])
            begin = made().data()[:rnd.choice([8, 22, 26, 28, 60, 90])]
            self.assertEqual(check(begin + data), judged(begin + data, unframe)[0])

    def test_many_bytes(self):
        for byte in (0, 255):
            self.assertEqual(check([byte] * 16384), [2, 0])
        self.assertEqual(check(made().data() + [0] * 15000)[0], 11)


class ByItself(unittest.TestCase):
    def test_unchanged_and_the_same_again(self):
        rnd = random.Random(87)
        right = made(pad=5).data()
        for trial in range(80):
            data = list(right) if trial % 4 == 0 else turned(right, rnd.randrange(len(right)), rnd.randint(1, 255))
            data = data[:rnd.randrange(len(data))] if trial % 8 == 7 else data
            by_itself(self, check, [made(FILE_FORM, [1, 2, 3], ()).data()], [data])
            self.assertEqual(len(check(data)), 2)


if __name__ == "__main__":
    unittest.main()
