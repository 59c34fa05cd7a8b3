"""mend: what comes back of damaged bytes, and its refusals."""

import itertools
import random
import unittest

from helper import (EDGE_FORMS, FILE_FORM, FILE_NUMBERS, FILE_TAGS, NO_FORMS, Made, by_itself, closed, flat, frames_of,
                    full_rows, head, long_frame, made, mended, number, piece, piece_of, piece_of_rows, plain, plain_frame,
                    row, small_frame, some_bytes, some_tags, sound, tag, turned, u)
from soundkeeping.keeping import anew, check, frame, mend, pack, unframe

# Three frames of sixteen samples and one of five, all of one group with three pieces.
FORM = [1, 8, 16, 4, 8, 3]
NUMBERS = [t * t % 53 - 20 for t in range(53)]
FRAMES = frames_of(FORM, NUMBERS, small_frame)
PIECES = [piece(0, j, FRAMES) for j in range(3)]
GARBAGE = ([0], [255] * 5, [0x4B], [0x4B, 0x57], [0x4B, 0x50], [0x4B, 0x57, 0, 0, 0], [0x4B, 0x50, 0, 0, 0, 0, 3],
           list(b"soundkeep") * 3)


class Mends(unittest.TestCase):
    def answers(self, n, form, data, numbers, lost=()):
        """lost: of each stretch its first sample and how many; in the numbers they are 0."""
        kept = list(numbers)
        for begin, count in lost:
            kept[begin * form[0]:(begin + count) * form[0]] = [0] * (count * form[0])
        found = n - sum(count for begin, count in lost)
        self.assertEqual(mend(n, form, data), [found, len(lost)] + flat(lost) + [len(kept)] + kept)

    def comes_back(self, data, lost=(), numbers=NUMBERS):
        self.answers(53, FORM, data, numbers, lost)

    def file_comes_back(self, data, lost=()):
        self.answers(77, FILE_FORM, data, FILE_NUMBERS, lost)

    def as_told(self, n, form, data):
        answer = mend(n, form, data)
        self.assertEqual(answer, mended(n, form, data, unframe, anew))
        return answer


class Whole(Mends):
    def test_by_hand(self):
        form = [2, 8, 16, 4, 1, 0]
        numbers = [t % 9 - 4 for t in range(2 * 35)]
        first, second, third = frames_of(form, numbers, small_frame)
        self.assertEqual(mend(35, form, first + second + third), [35, 0, 70] + numbers)
        self.assertEqual(mend(35, form, first + third), [19, 1, 16, 16, 70] + numbers[:32] + [0] * 32 + numbers[64:])
        self.assertEqual(mend(35, form, second), [16, 2, 0, 16, 32, 3, 70] + [0] * 32 + numbers[32:64] + [0] * 6)

    def test_files(self):
        for tags, pad in (((), 0), (FILE_TAGS, 0), (FILE_TAGS, 90)):
            self.file_comes_back(made(tags=tags, pad=pad).data())

    def test_frames_that_are_not_the_least(self):
        data = Made(FILE_FORM, FILE_NUMBERS, (), 0, plain_frame).data()
        self.file_comes_back(data)

    def test_another_order(self):
        for order in range(5):
            self.answers(53, FORM[:3] + [order] + FORM[4:], flat(FRAMES), NUMBERS)

    def test_what_pack_made(self):
        rnd = random.Random(151)
        for trial in range(60):
            form = [rnd.randint(1, 4), rnd.randint(4, 24), rnd.choice([16, 17, 40, 256]), rnd.randint(0, 4),
                    rnd.randint(1, 8), rnd.randint(0, 4)]
            numbers = sound(rnd, form, rnd.choice([0, 1, form[2], form[2] + 1, rnd.randint(0, 150)]))
            data = pack(rnd.choice([0, 4]), form, numbers, flat(some_tags(rnd)))[1:]
            self.answers(len(numbers) // form[0], form, data, numbers)

    def test_at_the_edges_of_forms(self):
        rnd = random.Random(152)
        for form in EDGE_FORMS:
            half = 2 ** (form[1] - 1)
            for n in (1, form[2], form[2] + 1):
                numbers = [rnd.choice([-half, half - 1, 0]) for t in range(n * form[0])]
                self.answers(n, form, pack(0, form, numbers, [])[1:], numbers)

    def test_as_many_numbers_as_can_be(self):
        for form in ([1, 4, 16, 0, 8, 1], [4, 4, 256, 0, 1, 0], [2, 4, 16, 0, 3, 1]):
            numbers = [t % 7 - 3 for t in range(2048)]
            self.answers(2048 // form[0], form, pack(0, form, numbers, [])[1:], numbers)


class NothingThere(Mends):
    def test_no_bytes(self):
        self.comes_back([], [(0, 53)])
        self.assertEqual(mend(1, FORM, []), [0, 1, 0, 1, 1, 0])
        self.assertEqual(mend(2, [3, 8, 16, 4, 1, 0], []), [0, 1, 0, 2, 6] + [0] * 6)
        self.assertEqual(mend(512, [4, 8, 16, 4, 1, 0], []), [0, 1, 0, 512, 2048] + [0] * 2048)

    def test_no_frame_at_all(self):
        for data in GARBAGE:
            self.comes_back(data, [(0, 53)])
            self.comes_back(data * 30, [(0, 53)])
        self.comes_back([0x4B] * 500, [(0, 53)])
        self.comes_back([0x4B, 0x57] * 500, [(0, 53)])

    def test_pieces_alone_that_are_not_enough(self):
        self.comes_back(flat(PIECES), [(0, 53)])

    def test_no_samples(self):
        for data in ([], [1, 2, 3], flat(FRAMES), made().data(), made(FILE_FORM, []).data(), flat(PIECES)):
            for form in (FORM, FILE_FORM, [4, 24, 256, 0, 8, 4]):
                self.assertEqual(mend(0, form, data), [0, 0, 0])

    def test_as_many_bytes_as_can_be(self):
        for unit in ([0], [0x4B], [0x4B, 0x57, 0, 0, 0xF, 0xF0, 0], [0x4B, 0x50, 0, 0, 0, 0x0F, 0xFF]):
            data = (unit * 16384)[:16384]
            self.answers(512, [4, 24, 256, 4, 8, 4], data, [0] * 2048, [(0, 512)])


class OneLost(Mends):
    def test_each_frame_with_each_piece(self):
        for k in range(4):
            frames = flat(FRAMES[:k] + FRAMES[k + 1:])
            for one in PIECES:
                self.comes_back(frames + one)
                self.comes_back(one + frames)
            self.comes_back(frames + flat(PIECES))

    def test_each_frame_without_a_piece(self):
        for k in range(4):
            frames = flat(FRAMES[:k] + FRAMES[k + 1:])
            self.comes_back(frames, [(16 * k, 16 if k < 3 else 5)])

    def test_each_frame_of_a_file(self):
        one = made()
        for k in range(5):
            part = one.parts[f"frame {k}"]
            for bent in ([], [0] * len(part), turned(part, 0), turned(part, len(part) - 1), part[:-1], part[1:]):
                self.file_comes_back(one.changed(f"frame {k}", bent))

    def test_each_byte_of_a_file(self):
        one = made()
        for place in range(len(one.data())):
            self.file_comes_back(turned(one.data(), place, 255))

    def test_each_byte_lost(self):
        data = made().data()
        for place in range(len(data)):
            self.file_comes_back(data[:place] + data[place + 1:])

    def test_each_piece_of_a_file(self):
        one = made()
        for name in one.parts:
            if name.startswith("piece"):
                self.file_comes_back(one.changed(name, []))

    def test_head_tags_indexes_sum(self):
        one = made()
        for name in ("head", "tags", "index", "index again", "head again", "sum"):
            self.file_comes_back(one.changed(name, []))
            self.file_comes_back(one.changed(name, [255] * 90))
        self.file_comes_back(one.data()[one.place("frame 0"):one.place("index again")])

    def test_the_piece_with_the_longest_row_is_needed(self):
        longest = max(range(4), key=lambda k: len(FRAMES[k]))
        self.comes_back(flat(FRAMES[:longest] + FRAMES[longest + 1:]) + PIECES[2])


class SeveralLost(Mends):
    def test_all_choices_of_frames_and_pieces(self):
        for count in range(5):
            for kept in itertools.combinations(range(4), count):
                for pieces in range(8):
                    own = [PIECES[j] for j in range(3) if pieces >> j & 1]
                    data = flat([FRAMES[k] for k in kept] + own)
                    if 4 - count <= len(own):
                        self.comes_back(data)
                    else:
                        self.comes_back(data, self.stretches([k for k in range(4) if k not in kept]))

    def stretches(self, lost):
        found = []
        for k in lost:
            if found and sum(found[-1]) == 16 * k:
                found[-1] = (found[-1][0], found[-1][1] + (16 if k < 3 else 5))
            else:
                found.append((16 * k, 16 if k < 3 else 5))
        return found

    def test_all_of_a_group(self):
        form = [1, 8, 16, 4, 4, 4]
        numbers = [t * 5 % 60 for t in range(64)]
        frames = frames_of(form, numbers, small_frame)
        pieces = [piece(0, j, frames) for j in range(4)]
        self.answers(64, form, flat(pieces), numbers)
        self.answers(64, form, flat(pieces[::-1]), numbers)
        self.answers(64, form, flat(pieces[1:]), numbers, [(0, 64)])
        self.answers(64, form, frames[2] + flat(pieces[1:]), numbers)

    def test_each_group_by_itself(self):
        # Pieces of one group don't help another, and each group may lose as many as it has.
        one = made()
        for losses in itertools.product(((), (0,), (1,), (0, 1)), repeat=2):
            parts = dict(one.parts)
            for g, lost in enumerate(losses):
                for i in lost:
                    parts[f"frame {2 * g + i}"] = []
            parts["frame 4"] = []
            self.file_comes_back(flat(parts.values()))
        for g, begin, count in ((0, 0, 32), (1, 32, 32), (2, 64, 13)):
            parts = {name: part for name, part in one.parts.items() if not name.startswith(f"piece {g}")}
            for k in (2 * g, 2 * g + 1):
                parts.pop(f"frame {k}", None)
            self.file_comes_back(flat(parts.values()), [(begin, count)])

    def test_one_more_than_pieces(self):
        one = made()
        for lost, stretch in ((("frame 0", "frame 1", "piece 0 0"), (0, 32)), (("frame 4", "piece 2 0", "piece 2 1"), (64, 13)),
                              (("frame 2", "piece 1 0", "piece 1 1"), (32, 16)), (("frame 3", "frame 2", "piece 1 1"), (32, 32))):
            data = flat(part for name, part in one.parts.items() if name not in lost)
            self.file_comes_back(data, [stretch])
            for name in lost:
                fewer = [other for other in lost if other != name]
                self.file_comes_back(flat(part for other, part in one.parts.items() if other not in fewer))

    def test_without_pieces(self):
        form = [1, 8, 16, 4, 4, 0]
        self.answers(53, form, flat(FRAMES), NUMBERS)
        self.answers(53, form, flat(FRAMES[1:]) + flat(PIECES), NUMBERS, [(0, 16)])


class Stretches(Mends):
    def kept(self, numbers_of_frames):
        return flat([FRAMES[k] for k in numbers_of_frames])

    def test_none(self):
        self.comes_back(self.kept(range(4)))

    def test_one(self):
        self.comes_back(self.kept([1, 2, 3]), [(0, 16)])
        self.comes_back(self.kept([0, 2, 3]), [(16, 16)])
        self.comes_back(self.kept([0, 1, 3]), [(32, 16)])

    def test_the_last_which_is_shorter(self):
        self.comes_back(self.kept([0, 1, 2]), [(48, 5)])
        self.comes_back(self.kept([1, 2]), [(0, 16), (48, 5)])

    def test_ones_that_meet(self):
        self.comes_back(self.kept([2, 3]), [(0, 32)])
        self.comes_back(self.kept([0, 3]), [(16, 32)])
        self.comes_back(self.kept([0, 1]), [(32, 21)])
        self.comes_back(self.kept([3]), [(0, 48)])
        self.comes_back(self.kept([0]), [(16, 37)])

    def test_several(self):
        self.comes_back(self.kept([1, 3]), [(0, 16), (32, 16)])
        self.comes_back(self.kept([0, 2]), [(16, 16), (48, 5)])
        self.comes_back(self.kept([1]), [(0, 16), (32, 21)])
        self.comes_back(self.kept([2]), [(0, 32), (48, 5)])

    def test_they_meet_over_groups(self):
        form = [1, 8, 16, 4, 2, 0]
        numbers = [t % 90 + 1 for t in range(96)]
        frames = frames_of(form, numbers, small_frame)
        self.answers(96, form, frames[0] + flat(frames[4:]), numbers, [(16, 48)])
        self.answers(96, form, frames[0] + frames[5], numbers, [(16, 64)])

    def test_samples_not_numbers_are_told(self):
        for channels in range(1, 5):
            form = [channels, 8, 16, 4, 2, 0]
            numbers = [t % 90 + 1 for t in range(50 * channels)]
            frames = frames_of(form, numbers, lambda k, form, part: frame(k, form, part)[1:])
            self.answers(50, form, frames[1] + frames[3], numbers, [(0, 16), (32, 16)])
            self.answers(50, form, frames[0] + frames[1] + frames[2], numbers, [(48, 2)])

    def test_every_choice_of_many(self):
        form = [1, 4, 16, 0, 1, 0]
        numbers = [1 + t % 3 for t in range(16 * 7 + 1)]
        frames = frames_of(form, numbers, small_frame)
        for choice in range(256):
            kept = [k for k in range(8) if choice >> k & 1]
            self.as_told(len(numbers), form, flat(frames[k] for k in kept))

    def test_a_sample_that_is_0_is_not_lost(self):
        form = [1, 8, 16, 4, 1, 0]
        frames = frames_of(form, [0] * 40, small_frame)
        self.assertEqual(mend(40, form, flat(frames)), [40, 0, 40] + [0] * 40)
        self.assertEqual(mend(40, form, frames[0] + frames[2]), [24, 1, 16, 16, 40] + [0] * 40)


class Around(Mends):
    def test_bytes_before_between_and_behind(self):
        for junk in GARBAGE[:3] + GARBAGE[-1:]:
            self.comes_back(junk + flat(one + junk for one in FRAMES))
            self.comes_back(junk + flat(one + junk for one in FRAMES[1:] + PIECES[:1]))

    def test_marks_of_frames_and_pieces_before(self):
        for junk in GARBAGE:
            self.comes_back(junk + flat(FRAMES))
            self.comes_back(junk + flat(FRAMES[:3]) + PIECES[2])

    def test_any_order(self):
        rnd = random.Random(153)
        for trial in range(40):
            parts = FRAMES + PIECES
            lost = rnd.sample(range(7), rnd.randint(0, 3))
            kept = [one for place, one in enumerate(parts) if place not in lost]
            rnd.shuffle(kept)
            self.comes_back(flat(kept))

    def test_a_frame_that_ends_too_soon(self):
        self.comes_back(flat(FRAMES)[:-1], [(48, 5)])
        self.comes_back(flat(FRAMES[:3]), [(48, 5)])
        for size in range(len(FRAMES[0])):
            self.comes_back(FRAMES[0][:size], [(0, 53)])

    def test_a_piece_that_ends_too_soon(self):
        for size in range(len(PIECES[0])):
            self.comes_back(flat(FRAMES[1:]) + PIECES[0][:size], [(0, 16)])
        self.comes_back(flat(FRAMES[1:]) + PIECES[0])

    def test_each_byte_of_a_piece(self):
        for place in range(len(PIECES[1])):
            self.comes_back(flat(FRAMES[1:]) + turned(PIECES[1], place, 1), [(0, 16)])

    def test_what_is_before_the_end_of_the_bytes_is_seen(self):
        # A frame's beginning with nothing behind it doesn't hide what begins within it.
        start = closed(head(0, 16) + plain(8, [0] * 16))[:10]
        self.comes_back(start + flat(FRAMES[1:]), [(0, 16)])


class Twice(Mends):
    def other(self, k, by=1):
        n = 16 if k < 3 else 5
        return small_frame(k, FORM, [y + by for y in NUMBERS[16 * k:16 * k + n]])

    def replaced(self, k, by=1):
        return [y + by if t // 16 == k else y for t, y in enumerate(NUMBERS)]

    def test_the_first_frame_counts(self):
        for k in range(4):
            self.comes_back(flat(FRAMES) + self.other(k))
            self.comes_back(self.other(k) + flat(FRAMES), numbers=self.replaced(k))
            self.comes_back(self.other(k, 2) + self.other(k) + flat(FRAMES), numbers=self.replaced(k, 2))
            self.comes_back(flat(FRAMES) + FRAMES[k] + flat(FRAMES))

    def test_the_first_piece_counts(self):
        others = FRAMES[:1] + [self.other(1)] + FRAMES[2:]
        false = piece_of(0, 0, len(PIECES[0]) - 11, [1] * (len(PIECES[0]) - 11))
        lost = FRAMES[0] + flat(FRAMES[2:])
        self.comes_back(lost + PIECES[0] + piece(0, 0, others))
        self.comes_back(lost + piece(0, 0, others) + PIECES[0], numbers=self.replaced(1))
        self.comes_back(lost + PIECES[0] + false)
        self.comes_back(lost + false + PIECES[0], [(16, 16)])

    def test_pieces_twice_are_not_two(self):
        self.comes_back(flat(FRAMES[2:]) + PIECES[1] + PIECES[1], [(0, 32)])
        self.comes_back(flat(FRAMES[2:]) + PIECES[1] + PIECES[1] + PIECES[2])

    def test_the_first_frame_is_the_one_that_others_are_made_with(self):
        # With another frame 0 the piece makes no frame 1 that's right.
        answer = self.as_told(53, FORM, self.other(0) + flat(FRAMES[2:]) + FRAMES[0] + PIECES[0])
        self.assertEqual(answer[:4], [37, 1, 16, 16])
        others = [self.other(0)] + FRAMES[1:]
        self.comes_back(self.other(0) + flat(FRAMES[2:]) + FRAMES[0] + piece(0, 0, others), numbers=self.replaced(0))

    def test_whole_files_one_behind_the_other(self):
        data = made().data()
        self.file_comes_back(data + data)
        self.file_comes_back(data + made(numbers=[1] * 77).data())


class OnesThatAreNotThere(Mends):
    def test_numbers_of_frames(self):
        for k in (4, 5, 8, 100, 1048575):
            one = small_frame(k, FORM, NUMBERS[:16])
            self.comes_back(one + flat(FRAMES))
            self.comes_back(one, [(0, 53)])
        self.comes_back(small_frame(4, FORM, NUMBERS[:5]), [(0, 53)])

    def test_lengths_of_frames(self):
        for k in range(4):
            for n in range(1, 17):
                right = n == (16 if k < 3 else 5)
                one = small_frame(k, FORM, [7] * n)
                answer = self.as_told(53, FORM, one)
                self.assertEqual(answer[0], n if right else 0)

    def test_a_frame_of_another_length_does_not_count_as_the_first(self):
        self.comes_back(small_frame(0, FORM, [7] * 15) + flat(FRAMES))
        self.comes_back(small_frame(3, FORM, [7] * 16) + flat(FRAMES))

    def test_more_samples_than_a_block(self):
        self.comes_back(closed(head(0, 17) + plain(8, [1] * 17)) + flat(FRAMES))

    def test_another_number_of_samples(self):
        # The last frame isn't the one that it should be, so it's lost, and pieces make it no other.
        for n, lost in ((52, (48, 4)), (54, (48, 6)), (64, (48, 16)), (65, (48, 17)), (49, (48, 1))):
            answer = self.as_told(n, FORM, flat(FRAMES + PIECES))
            self.assertEqual(answer, [48, 1] + list(lost) + [n] + NUMBERS[:48] + [0] * (n - 48))
        self.assertEqual(mend(48, FORM, flat(FRAMES + PIECES)), [48, 0, 48] + NUMBERS[:48])
        self.assertEqual(mend(16, FORM, flat(FRAMES)), [16, 0, 16] + NUMBERS[:16])

    def test_groups(self):
        one = made()
        frames = [one.parts[f"frame {k}"] for k in range(5)]
        for g in (3, 4, 256, 65535):
            self.file_comes_back(flat(frames[1:]) + piece(g, 0, frames[:2]), [(0, 16)])
        self.file_comes_back(flat(frames[:4]) + piece(2, 1, frames[4:]))
        self.file_comes_back(flat(frames[1:]) + piece(1, 0, frames[:2]), [(0, 16)])

    def test_a_group_that_another_number_of_samples_would_have(self):
        form = [1, 8, 16, 4, 2, 1]
        numbers = list(range(64))
        frames = frames_of(form, numbers, small_frame)
        second = piece(1, 0, frames[2:])
        self.answers(64, form, flat(frames[:3]) + second, numbers)
        answer = self.as_told(32, form, flat(frames[:1]) + second)
        self.assertEqual(answer[:4], [16, 1, 16, 16])
        # In a piece that isn't there a frame is looked for as elsewhere.
        hidden = piece_of(1, 0, len(frames[1]), frames[1])
        self.answers(32, form, frames[0] + hidden, numbers[:32])
        self.answers(33, form, frames[0] + hidden, numbers[:33], [(16, 17)])

    def test_j(self):
        for j in (3, 4, 7, 255):
            one = piece_of(0, j, len(FRAMES[0]), FRAMES[0])
            self.comes_back(flat(FRAMES[1:]) + one)
        for j in range(3):
            one = piece_of(0, j, len(FRAMES[0]), FRAMES[0])
            self.comes_back(flat(FRAMES[1:]) + one, [(0, 16)])
        right = piece(0, 3, FRAMES)
        self.comes_back(flat(FRAMES[1:]) + right, [(0, 16)])
        self.answers(53, FORM[:5] + [4], flat(FRAMES[1:]) + right, NUMBERS)

    def test_lengths_of_rows(self):
        # Of 2 bytes and of 4,099 there's no piece, so a right one within it is found; of 3 and of 4,098 it's passed over.
        for r in (0, 1, 2):
            self.comes_back(flat(FRAMES[1:]) + piece_of(0, 0, r, [0] * r) + PIECES[0])
        self.comes_back(flat(FRAMES[1:]) + piece_of(0, 0, 3, [0] * 3) + PIECES[0], [(0, 16)])
        for r in (4097, 4098):
            inside = FRAMES[0] + [0] * (r - len(FRAMES[0]))
            self.comes_back(flat(FRAMES[1:]) + piece_of(0, 0, r, inside), [(0, 16)])
        for r in (4099, 4100, 5000, 16000):
            inside = FRAMES[0] + [0] * (r - len(FRAMES[0]))
            self.comes_back(flat(FRAMES[1:]) + piece_of(0, 0, r, inside))

    def test_of_another_form(self):
        for form in ([1, 9, 16, 4, 8, 3], [2, 8, 16, 4, 8, 3], [1, 8, 17, 4, 8, 3]):
            self.as_told(53, form, flat(FRAMES + PIECES))


class WhereTheSearchGoesOn(Mends):
    def holding(self, k, inside):
        """A frame k of 256 numbers, some of whose bytes are those."""
        bits = u(7, 0) + "".join(u(8, byte) for byte in inside)
        bits += "0" * (2048 - len(bits))
        numbers = [(int(bits[at:at + 8], 2) + 128) % 256 - 128 for at in range(0, 2048, 8)]
        return numbers, closed(head(k, 256) + plain(8, numbers))

    def setUp(self):
        self.form = [1, 8, 256, 4, 2, 1]
        self.inside = small_frame(1, self.form, [5] * 256)
        self.numbers, self.outside = self.holding(0, self.inside)

    def test_behind_a_frame(self):
        self.assertIn(bytes(self.inside), bytes(self.outside))
        self.answers(512, self.form, self.outside, self.numbers + [0] * 256, [(256, 256)])

    def test_within_a_frame_that_is_not_taken(self):
        for place in (0, 1, len(self.outside) - 1):
            data = turned(self.outside, place)
            self.answers(512, self.form, data, [0] * 256 + [5] * 256, [(0, 256)])
        self.answers(512, self.form, self.outside[:-1], [0] * 256 + [5] * 256, [(0, 256)])

    def test_within_a_frame_that_is_not_there(self):
        for k in (2, 3, 1048575):
            self.answers(512, self.form, self.holding(k, self.inside)[1], [0] * 256 + [5] * 256, [(0, 256)])

    def test_behind_a_frame_that_stands_twice(self):
        first = small_frame(0, self.form, [7] * 256)
        self.answers(512, self.form, first + self.outside, [7] * 256 + [0] * 256, [(256, 256)])

    def test_behind_a_piece_and_within_one_that_is_not_taken(self):
        one = piece_of(0, 0, len(self.inside), self.inside)
        self.answers(512, self.form, one, [0] * 512, [(0, 512)])
        self.answers(512, self.form, turned(one, len(one) - 1), [0] * 256 + [5] * 256, [(0, 256)])
        self.answers(512, self.form, one[:-1], [0] * 256 + [5] * 256, [(0, 256)])

    def test_behind_a_piece_that_stands_twice(self):
        one = piece_of(0, 0, len(self.inside), self.inside)
        false = piece_of(0, 0, 3, [0] * 3)
        self.answers(512, self.form, false + one, [0] * 512, [(0, 512)])

    def test_a_piece_within_a_frame(self):
        frames = [small_frame(0, self.form, [7] * 256), self.inside]
        own = piece(0, 0, frames)
        numbers, outside = self.holding(0, own)
        self.answers(512, self.form, outside, numbers + [0] * 256, [(256, 256)])
        self.answers(512, self.form, turned(outside, 0) + frames[0], [7] * 256 + [5] * 256)

    def test_right_behind_one_another(self):
        first = small_frame(0, self.form, [7] * 256)
        for data in (first + self.inside, self.inside + first, first + piece(0, 0, [first, self.inside])):
            self.answers(512, self.form, data, [7] * 256 + [5] * 256)


class UnlikeRows(Mends):
    """Of a group those pieces count that have the r of the one of the least j."""

    def setUp(self):
        r = len(PIECES[0]) - 11
        self.long = [piece_of_rows(0, j, full_rows(FRAMES, r + 5)) for j in range(3)]

    def test_a_longer_row_will_do(self):
        for j in range(3):
            self.comes_back(flat(FRAMES[1:]) + self.long[j])
        self.comes_back(flat(FRAMES[3:]) + flat(self.long))

    def test_the_least_j_is_another(self):
        self.comes_back(flat(FRAMES[1:]) + self.long[0] + PIECES[1] + PIECES[2])
        self.comes_back(flat(FRAMES[2:]) + self.long[0] + PIECES[1] + PIECES[2], [(0, 32)])
        self.comes_back(flat(FRAMES[2:]) + PIECES[1] + PIECES[2] + self.long[0], [(0, 32)])
        self.comes_back(flat(FRAMES[2:]) + PIECES[0] + self.long[1] + self.long[2], [(0, 32)])

    def test_the_others_do_not_count(self):
        self.comes_back(flat(FRAMES[2:]) + PIECES[0] + self.long[1] + PIECES[2])
        self.comes_back(flat(FRAMES[2:]) + self.long[0] + PIECES[1] + self.long[2])
        self.comes_back(flat(FRAMES[2:]) + self.long[1] + PIECES[2], [(0, 32)])
        self.comes_back(flat(FRAMES[3:]) + PIECES[0] + self.long[1] + PIECES[2], [(0, 48)])
        self.comes_back(flat(FRAMES[1:]) + PIECES[1] + self.long[2])

    def test_not_the_first_in_the_bytes_but_the_least_j(self):
        false = [piece_of(0, j, 4, [9] * 4) for j in range(3)]
        self.comes_back(flat(FRAMES[1:]) + false[1] + PIECES[0])
        self.comes_back(flat(FRAMES[1:]) + false[0] + PIECES[1] + PIECES[2], [(0, 16)])
        self.comes_back(flat(FRAMES[1:]) + PIECES[1] + false[2])
        self.comes_back(flat(FRAMES[1:]) + PIECES[2] + false[1], [(0, 16)])

    def test_each_group_has_its_own(self):
        one = made()
        parts = {name: part for name, part in one.parts.items() if name not in ("frame 0", "frame 1", "frame 2", "frame 3")}
        self.assertNotEqual(len(parts["piece 0 0"]), len(parts["piece 2 0"]))
        self.file_comes_back(flat(parts.values()))

    def test_the_first_ones_by_j_count(self):
        # Of three pieces for one lost frame the one of the least j counts, wherever it stands.
        r = len(PIECES[0]) - 11
        false = [piece_of(0, j, r, [9] * r) for j in range(3)]
        for others in itertools.permutations((PIECES[0], false[1], false[2])):
            self.comes_back(flat(FRAMES[1:]) + flat(others))
        for others in itertools.permutations((false[0], PIECES[1], PIECES[2])):
            self.comes_back(flat(FRAMES[1:]) + flat(others), [(0, 16)])
        for others in itertools.permutations((PIECES[0], PIECES[1], false[2])):
            self.comes_back(flat(FRAMES[2:]) + flat(others))
        for others in itertools.permutations((PIECES[0], false[1], PIECES[2])):
            self.comes_back(flat(FRAMES[2:]) + flat(others), [(0, 32)])


class MadeAnewButNot(Mends):
    """A frame that's made anew counts if it's taken, whole, as it should be."""

    def made_of(self, k, bent):
        """All frames but k, and a piece that makes those bytes of it."""
        frames = FRAMES[:k] + [bent] + FRAMES[k + 1:]
        return flat(FRAMES[:k] + FRAMES[k + 1:]) + piece(0, 1, frames)

    def lost(self, k, bent):
        self.comes_back(self.made_of(k, bent), [(16 * k, 16 if k < 3 else 5)])

    def test_another_that_is_right(self):
        for k in range(4):
            n = 16 if k < 3 else 5
            numbers = [7] * n
            right = NUMBERS[:16 * k] + numbers + NUMBERS[16 * k + n:]
            self.comes_back(self.made_of(k, small_frame(k, FORM, numbers)), numbers=right)
            self.comes_back(self.made_of(k, plain_frame(k, FORM, numbers)), numbers=right)

    def test_of_another_number(self):
        for k in range(4):
            n = 16 if k < 3 else 5
            for other in (0, 1, 2, 3, 4, 1048575):
                if other != k:
                    self.lost(k, small_frame(other, FORM, NUMBERS[16 * k:16 * k + n]))
        self.lost(0, FRAMES[1])
        self.lost(2, FRAMES[0])

    def test_of_the_number_of_another_lost_one(self):
        for bent in ([FRAMES[1], FRAMES[0]], [FRAMES[1], [1]], [[1], FRAMES[0]]):
            pieces = [piece(0, j, bent + FRAMES[2:]) for j in range(2)]
            self.comes_back(flat(FRAMES[2:] + pieces), [(0, 32)])
        # Frame 3 of the second group, lost as well, in the place of frame 0 of the first.
        one = made()
        false = piece(0, 0, [one.parts["frame 3"], one.parts["frame 1"]])
        data = flat(one.parts[f"frame {k}"] for k in (1, 2, 4)) + false
        self.file_comes_back(data, [(0, 16), (48, 16)])

    def test_of_another_length(self):
        for k in range(4):
            for n in range(1, 17):
                if n != (16 if k < 3 else 5):
                    self.lost(k, small_frame(k, FORM, [7] * n))

    def test_bytes_behind(self):
        for k in range(4):
            self.lost(k, FRAMES[k] + [0])
            self.lost(k, FRAMES[k] + [5, 6])
            self.lost(k, FRAMES[k] + FRAMES[k])

    def test_not_taken(self):
        for k in range(4):
            self.lost(k, FRAMES[k][:-1])
            self.lost(k, [0] + FRAMES[k])
            self.lost(k, [1])
            for place in range(0, len(FRAMES[k]), 3):
                self.lost(k, turned(FRAMES[k], place))

    def test_each_by_itself(self):
        bent = [small_frame(9, FORM, NUMBERS[:16]), FRAMES[1], FRAMES[2] + [0], FRAMES[3]]
        pieces = [piece(0, j, bent) for j in range(3)]
        self.comes_back(FRAMES[3] + flat(pieces), [(0, 16), (32, 16)])
        self.comes_back(bent[0] + flat(pieces), [(0, 53)])
        bent = [FRAMES[0], FRAMES[1], FRAMES[2], turned(FRAMES[3], 5)]
        pieces = [piece(0, j, bent) for j in range(3)]
        self.comes_back(FRAMES[1] + flat(pieces), [(48, 5)])

    def test_no_frames_make_these_pieces(self):
        # As anew says: then none of the lost ones comes back.
        rows = full_rows(FRAMES)
        r = len(rows[0])
        for bad in ([0] * r, number(2, r - 1) + [1] * (r - 2), number(2, 65535) + [1] * (r - 2),
                    number(2, r - 3) + [0] * (r - 3) + [1], number(2, 1) + [0] * (r - 3) + [1]):
            self.comes_back(flat(FRAMES[1:]) + piece_of_rows(0, 2, [bad] + rows[1:]), [(0, 16)])
            pieces = flat(piece_of_rows(0, j, [bad] + rows[1:]) for j in range(2))
            self.comes_back(flat(FRAMES[2:]) + pieces, [(0, 32)])

    def test_one_that_is_there_is_longer_than_the_row(self):
        # Frame 1 is there in a longer form than any that the piece was made of.
        long = plain_frame(1, FORM, NUMBERS[16:32])
        short = [small_frame(k, FORM, [7] * (16 if k < 3 else 5)) for k in range(4)]
        self.assertGreater(len(long), max(len(one) for one in short))
        self.comes_back(long + flat(FRAMES[2:]) + piece(0, 0, short), [(0, 16)])

    def test_the_longest(self):
        form = [1, 24, 16, 4, 2, 1]
        for size in (4095, 4096):
            numbers, long = long_frame(0, size)
            other = small_frame(1, form, [3] * 16)
            own = piece(0, 0, [long, other])
            self.answers(32, form, other + own, numbers + [3] * 16)
            self.answers(32, form, long + own, numbers + [3] * 16)
            self.answers(32, form, long + other, numbers + [3] * 16)
        long = long_frame(0, 4097)[1]
        self.answers(32, form, long + other, [0] * 16 + [3] * 16, [(0, 16)])

    def test_nothing_is_made_of_what_was_made(self):
        # A group's lost frames come of its own pieces, whatever other groups have.
        one = made()
        lost = ("frame 0", "frame 1", "piece 0 0", "frame 2", "frame 3")
        self.file_comes_back(flat(part for name, part in one.parts.items() if name not in lost), [(0, 32)])


class LosesNothing(Mends):
    """P5: as long as no group lost more frames and pieces together than it has pieces."""

    def test_over_many_forms_recordings_and_losses(self):
        rnd = random.Random(154)
        for trial in range(60):
            form = [rnd.randint(1, 4), rnd.randint(4, 24), rnd.choice([16, 17, 40]), rnd.randint(0, 4),
                    rnd.randint(1, 8), rnd.randint(0, 4)]
            numbers = sound(rnd, form, rnd.randint(1, 200))
            one = self.packed(form, numbers, some_tags(rnd))
            for damage in range(4):
                parts = dict(one.parts)
                self.damage(rnd, form, parts)
                data = flat(parts.values())
                self.answers(len(numbers) // form[0], form, data, numbers)

    def packed(self, form, numbers, tags):
        one = Made(form, numbers, tags, 0, lambda k, form, part: frame(k, form, part)[1:])
        self.assertEqual(check(one.data())[0], 0)
        return one

    def damage(self, rnd, form, parts, more=0):
        """Of each group as many frames and pieces as it has pieces, at most, and of all else whatever."""
        frames = sorted((name for name in parts if name.startswith("frame")), key=lambda name: int(name[6:]))
        groups = [frames[at:at + form[4]] for at in range(0, len(frames), form[4])]
        for g, names in enumerate(groups):
            names = names + [name for name in parts if name.startswith(f"piece {g} ")]
            count = min(form[5] + more, len(names)) if rnd.random() < 0.7 else rnd.randint(0, form[5])
            for name in rnd.sample(names, min(count, len(names))):
                parts[name] = self.broken(rnd, parts[name])
        for name in ("head", "tags", "index", "index again", "head again", "sum"):
            if rnd.random() < 0.5:
                parts[name] = self.broken(rnd, parts[name])

    def broken(self, rnd, part):
        place = rnd.randrange(len(part))
        return rnd.choice([[], [0] * len(part), turned(part, place, rnd.randint(1, 255)), part[:place], part[place + 1:],
                           some_bytes(rnd, rnd.randint(0, 50))])

    def test_and_what_more_is_lost_is_as_told(self):
        rnd = random.Random(155)
        for trial in range(60):
            form = [rnd.randint(1, 4), rnd.randint(4, 16), 16, rnd.randint(0, 4), rnd.randint(1, 8), rnd.randint(0, 4)]
            numbers = sound(rnd, form, rnd.randint(1, 150))
            parts = dict(self.packed(form, numbers, some_tags(rnd)).parts)
            self.damage(rnd, form, parts, rnd.randint(0, 3))
            answer = self.as_told(len(numbers) // form[0], form, flat(parts.values()))
            kept = answer[2 + 2 * answer[1] + 1:]
            for t in range(len(numbers) // form[0]):
                sample = kept[t * form[0]:t * form[0] + form[0]]
                self.assertIn(sample, (numbers[t * form[0]:t * form[0] + form[0]], [0] * form[0]))

    def test_every_loss_of_a_full_group(self):
        rnd = random.Random(156)
        for spares in range(1, 5):
            form = [1, 6, 16, 1, 8, spares]
            numbers = row(rnd, 6, 16 * 8 - 3)
            frames = frames_of(form, numbers, lambda k, form, part: frame(k, form, part)[1:])
            parts = frames + [piece(0, j, frames) for j in range(spares)]
            losses = list(itertools.combinations(range(len(parts)), spares))
            for lost in rnd.sample(losses, min(len(losses), 70)):
                data = flat(one for place, one in enumerate(parts) if place not in lost)
                self.answers(len(numbers), form, data, numbers)

    def test_holes_in_a_file(self):
        # Holes that touch at most two parts of each group.
        rnd = random.Random(157)
        one = made()
        for trial in range(150):
            data = one.data()
            for g in range(3):
                names = [name for name in one.parts if name in (f"frame {2 * g}", f"frame {2 * g + 1}")
                         or name.startswith(f"piece {g} ")]
                for name in rnd.sample(names, 2):
                    begin = one.place(name) + rnd.randrange(len(one.parts[name]))
                    end = rnd.randint(begin + 1, one.place(name) + len(one.parts[name]))
                    data[begin:end] = [byte ^ rnd.randint(1, 255) for byte in data[begin:end]]
            self.file_comes_back(data)

    def test_a_frame_that_looks_like_one_elsewhere(self):
        # What looks like a frame in a tag is found first: that's told of no file.
        false = small_frame(0, FILE_FORM, [1] * 16)
        answer = self.as_told(77, FILE_FORM, made(tags=[tag("x", false)]).data())
        self.assertEqual(answer, [77, 0, 77] + [1] * 16 + FILE_NUMBERS[16:])


class Refusals(Mends):
    def test_no_form(self):
        for form in NO_FORMS:
            for n, data in ((0, []), (1, []), (53, flat(FRAMES)), (4294967295, [])):
                self.assertEqual(mend(n, form, data), [-1], form)

    def test_how_many_numbers(self):
        for channels, most in ((1, 2048), (2, 1024), (3, 682), (4, 512)):
            form = [channels, 8, 256, 4, 1, 0]
            self.assertEqual(mend(most, form, [])[:5], [0, 1, 0, most, most * channels])
            for n in (most + 1, 2 * most, 65536, 2 ** 30, 2 ** 31, 4294967295):
                self.assertEqual(mend(n, form, []), [-1])
                self.assertEqual(mend(n, form, made().data()), [-1])


class Anything(Mends):
    def test_all_sorts_of_bytes(self):
        rnd = random.Random(158)
        one = made()
        parts = list(one.parts.values()) + [small_frame(k, FILE_FORM, [k] * n) for k in range(6) for n in (13, 16)]
        parts += [piece(g, j, [some_bytes(rnd, 20), some_bytes(rnd, 9)]) for g in range(4) for j in range(3)]
        for trial in range(200):
            chosen = [rnd.choice(parts) for part in range(rnd.randint(0, 14))]
            chosen = [part if rnd.random() < 0.8 else turned(part, rnd.randrange(len(part))) for part in chosen]
            self.as_told(rnd.choice([77, 77, 77, 76, 61, 16, 32, 90]), FILE_FORM, flat(chosen))


class ByItself(unittest.TestCase):
    def test_unchanged_and_the_same_again(self):
        rnd = random.Random(159)
        between = [53, FORM, flat(FRAMES + PIECES)]
        for trial in range(40):
            data = made().data()
            for damage in range(trial % 4):
                data = turned(data, rnd.randrange(len(data)))
            by_itself(self, mend, between, [77, list(FILE_FORM), data])
        for arguments in ([0, list(FILE_FORM), []], [2049, list(FILE_FORM), []], [5, [], [1]], [5, list(FORM), [75, 87]]):
            by_itself(self, mend, between, arguments)


if __name__ == "__main__":
    unittest.main()
