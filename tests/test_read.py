"""read: the samples that are asked for, whatever is broken elsewhere, and its refusals."""

import random
import unittest

from helper import (EDGE_FORMS, FILE_FORM, FILE_NUMBERS, FILE_TAGS, Made, by_itself, closed, faulty_heads,
                    faulty_indexes, faulty_tags, flat, front_of, head, index_of, long_frame, made, plain_frame, same,
                    samples_told, small_frame, some_bytes, some_tags, sound, turned)
from soundkeeping.keeping import check, pack, read, unframe

STEREO = [2, 10, 16, 2, 3, 1]
STEREO_NUMBERS = [t * t % 301 - 150 for t in range(2 * 109)]


class Reads(unittest.TestCase):
    def tells(self, begin, n, data, form=FILE_FORM, numbers=FILE_NUMBERS):
        part = numbers[begin * form[0]:(begin + n) * form[0]]
        self.assertEqual(len(part), n * form[0])
        self.assertEqual(read(begin, n, data), [form[0], len(part)] + part, (begin, n))

    def refused(self, number, begin, n, data):
        self.assertEqual(read(begin, n, data), [number], (begin, n))


class Right(Reads):
    def test_by_hand(self):
        data = made([2, 8, 16, 4, 1, 0], [1, -2, 3, -4, 5, -6]).data()
        self.assertEqual(read(0, 3, data), [2, 6, 1, -2, 3, -4, 5, -6])
        self.assertEqual(read(1, 1, data), [2, 2, 3, -4])
        self.assertEqual(read(2, 1, data), [2, 2, 5, -6])
        self.assertEqual(read(1, 0, data), [2, 0])

    def test_the_whole_recording(self):
        self.tells(0, 77, made().data())
        self.tells(0, 109, made(STEREO, STEREO_NUMBERS).data(), STEREO, STEREO_NUMBERS)

    def test_one_sample(self):
        data = made().data()
        for begin in range(77):
            self.tells(begin, 1, data)

    def test_none(self):
        for form, numbers in ((FILE_FORM, FILE_NUMBERS), (STEREO, STEREO_NUMBERS)):
            data = made(form, numbers).data()
            for begin in range(len(numbers) // form[0] + 1):
                self.assertEqual(read(begin, 0, data), [form[0], 0])

    def test_of_no_samples(self):
        for channels in range(1, 5):
            data = made([channels, 8, 16, 4, 2, 2], []).data()
            self.assertEqual(read(0, 0, data), [channels, 0])
            self.refused(-3, 0, 1, data)
            self.refused(-3, 1, 0, data)

    def test_every_part(self):
        data = made().data()
        for begin in range(78):
            for n in range(78 - begin):
                self.tells(begin, n, data)

    def test_every_part_that_touches_an_edge_of_a_frame(self):
        data = made(STEREO, STEREO_NUMBERS).data()
        edges = [edge + by for edge in (0, 16, 48, 64, 96, 109) for by in (-1, 0, 1) if 0 <= edge + by <= 109]
        for begin in edges:
            for end in edges:
                if end >= begin:
                    self.tells(begin, end - begin, data, STEREO, STEREO_NUMBERS)

    def test_within_one_frame(self):
        for begin, n in ((0, 15), (0, 16), (1, 15), (3, 9), (16, 16), (17, 14), (64, 13), (65, 12)):
            self.tells(begin, n, made().data())

    def test_over_two_frames_and_over_several_groups(self):
        for begin, n in ((15, 2), (0, 17), (8, 16), (31, 2), (31, 34), (5, 70), (63, 2), (48, 29)):
            self.tells(begin, n, made().data())

    def test_frames_that_are_not_the_least(self):
        self.tells(9, 60, Made(FILE_FORM, FILE_NUMBERS, (), 0, plain_frame).data())
        self.tells(9, 99, Made(STEREO, STEREO_NUMBERS, (), 0, plain_frame).data(), STEREO, STEREO_NUMBERS)

    def test_tags_and_padding(self):
        for tags, pad in (((), 0), ((), 1018), (FILE_TAGS, 0), (FILE_TAGS, 50)):
            self.tells(13, 40, made(tags=tags, pad=pad).data())

    def test_as_many_as_can_be(self):
        for form in ([1, 4, 16, 0, 8, 1], [4, 4, 256, 0, 1, 0], [3, 6, 100, 1, 2, 1]):
            numbers = [t % 5 - 2 for t in range(2048 // form[0] * form[0])]
            data = pack(3, form, numbers, [])[1:]
            count = len(numbers) // form[0]
            for begin, n in ((0, count), (1, count - 1), (0, count - 1), (count - 1, 1), (count, 0)):
                self.tells(begin, n, data, form, numbers)

    def test_at_the_edges_of_forms(self):
        rnd = random.Random(111)
        for form in EDGE_FORMS:
            half = 2 ** (form[1] - 1)
            numbers = [rnd.choice([-half, half - 1, 0, -1]) for t in range((form[2] + 3) * form[0])]
            data = pack(0, form, numbers, [])[1:]
            for begin, n in ((0, form[2] + 3), (form[2] - 1, 2), (form[2], 3), (5, 4)):
                self.tells(begin, n, data, form, numbers)

    def test_all_sorts(self):
        rnd = random.Random(112)
        for trial in range(80):
            form = [rnd.randint(1, 4), rnd.randint(4, 24), rnd.choice([16, 17, 40, 256]), rnd.randint(0, 4),
                    rnd.randint(1, 8), rnd.randint(0, 4)]
            count = rnd.choice([1, form[2], form[2] + 1, rnd.randint(1, 200)])
            numbers = sound(rnd, form, count)
            answer = pack(rnd.choice([0, 7]), form, numbers, flat(some_tags(rnd)))
            if answer != [-8]:
                for part in range(10):
                    begin = rnd.randint(0, count)
                    self.tells(begin, rnd.randint(0, count - begin), answer[1:], form, numbers)


class NotInTheRecording(Reads):
    def test_past_its_end(self):
        data = made().data()
        for begin, n in ((0, 78), (1, 77), (76, 2), (77, 1), (78, 0), (78, 1), (0, 79), (0, 2048), (77, 2048), (16, 62),
                         (4294967295, 0), (4294967295, 1), (4294967295, 2048), (2048, 0), (4294967295 - 2047, 2048)):
            self.refused(-3, begin, n, data)

    def test_samples_not_numbers_count(self):
        data = made(STEREO, STEREO_NUMBERS).data()
        for begin, n in ((0, 110), (109, 1), (108, 2), (110, 0), (0, 218)):
            self.refused(-3, begin, n, data)

    def test_up_to_its_end_and_one_more(self):
        data = made().data()
        for begin in range(78):
            self.tells(begin, 77 - begin, data)
            self.refused(-3, begin, 78 - begin, data)


class TooMany(Reads):
    def test_2048_and_one_more(self):
        numbers = [t % 3 for t in range(2048)]
        data = pack(0, [1, 4, 256, 0, 1, 0], numbers, [])[1:]
        self.assertEqual(read(0, 2048, data), [1, 2048] + numbers)
        for begin in (0, 1, 2048, 4294967295):
            for n in (2049, 2050, 4294967295):
                self.refused(-1, begin, n, data)
        self.refused(-3, 1, 2048, data)


class Faults(Reads):
    def no_front(self, data):
        for begin, n in ((0, 0), (0, 1), (20, 30), (0, 77), (78, 0), (4294967295, 2048)):
            self.refused(-2, begin, n, data)
        self.refused(-1, 0, 2049, data)

    def test_of_the_head(self):
        for data in faulty_heads():
            self.assertIn(check(data)[0], (2, 3, 4))
            self.no_front(data)

    def test_of_the_tags(self):
        for data in faulty_tags():
            self.assertIn(check(data)[0], (5, 6))
            self.no_front(data)

    def test_of_the_index(self):
        for data in faulty_indexes():
            self.assertIn(check(data)[0], (7, 8))
            self.no_front(data)

    def test_each_of_them_is_met(self):
        found = {check(data)[0] for data in faulty_heads() + faulty_tags() + faulty_indexes()}
        self.assertEqual(found, {2, 3, 4, 5, 6, 7, 8})

    def test_it_ends_within_them(self):
        for one in (made(), made(FILE_FORM, [], ()), made(pad=9)):
            data = one.data()
            for size in range(front_of(data, unframe)[0]):
                for begin, n in ((0, 0), (0, 1), (3, 20), (500, 1)):
                    self.refused(-2, begin, n, data[:size])

    def test_the_second_ones_do_not_stand_for_the_first(self):
        one = made()
        self.refused(-2, 0, 1, one.data()[one.place("index again"):])
        self.refused(-2, 0, 1, one.data()[one.place("head again"):])

    def test_nothing(self):
        self.no_front([])


class Elsewhere(Reads):
    """P3: nothing but head, tags, index and the frames that hold the samples bears on the answer."""

    def setUp(self):
        self.one = made()
        self.data = self.one.data()

    def test_every_byte_behind_the_index(self):
        asked = {k: (16 * k, 16 if k < 4 else 13) for k in range(5)}
        for place in range(self.one.place("frame 0"), len(self.data)):
            damaged = turned(self.data, place, 255)
            for k, (begin, n) in asked.items():
                at = self.one.place(f"frame {k}")
                if at <= place < at + len(self.one.parts[f"frame {k}"]):
                    self.refused(-9, begin, n, damaged)
                else:
                    self.tells(begin, n, damaged)

    def test_each_part_lost_to_garbage(self):
        rnd = random.Random(113)
        for name, part in self.one.parts.items():
            if name in ("head", "tags", "index"):
                continue
            for other in ([0] * len(part), [255] * len(part), some_bytes(rnd, len(part)), part[1:] + part[:1]):
                damaged = self.one.changed(name, other)
                for k in range(5):
                    if name != f"frame {k}":
                        self.tells(16 * k + 1, 11, damaged)
                        self.tells(16 * k + 2, 0, damaged)

    def test_all_frames_that_are_not_asked_for(self):
        for k in range(5):
            damaged = list(self.data)
            begin = self.one.place(f"frame {k}")
            end = begin + len(self.one.parts[f"frame {k}"])
            for place in list(range(self.one.place("frame 0"), begin)) + list(range(end, len(damaged))):
                damaged[place] ^= 85
            self.tells(16 * k, 13, damaged)
            for other in range(5):
                if other != k:
                    self.refused(-9, 16 * other, 13, damaged)
            self.refused(-9, 0, 77, damaged)

    def test_none_asked_for_and_all_frames_broken(self):
        damaged = self.data[:self.one.place("frame 0")]
        for tail in ([], [0] * 9, [75, 87] * 100):
            for begin in range(78):
                self.assertEqual(read(begin, 0, damaged + tail), [1, 0])

    def test_it_ends_behind_the_frames_that_are_asked_for(self):
        for k in range(5):
            end = self.one.place(f"frame {k}") + len(self.one.parts[f"frame {k}"])
            behind = min(77, 16 * k + 16)
            for size in (end, end + 1, end + 30):
                self.tells(0, behind, self.data[:size])
                self.tells(behind - 5, 5, self.data[:size])
            self.refused(-9, 0, behind, self.data[:end - 1])
            self.tells(0, 16 * k, self.data[:end - 1])

    def test_second_index_second_head_sum_bytes_behind(self):
        for name in ("index again", "head again", "sum"):
            self.tells(0, 77, self.one.changed(name, []))
            self.tells(0, 77, self.one.changed(name, [0] * 50))
        for behind in ([0], [1] * 100, self.data):
            self.tells(0, 77, self.data + behind)

    def test_frames_of_the_same_group(self):
        # One of a group doesn't need the other, nor the pieces.
        damaged = self.one.changed("frame 2", [0] * len(self.one.parts["frame 2"]))
        self.tells(48, 16, damaged)
        self.tells(0, 32, damaged)
        self.refused(-9, 47, 2, damaged)
        self.refused(-9, 31, 2, damaged)

    def test_bytes_between_frames_that_the_index_counts(self):
        for gap in ([7], [0] * 20, [75, 87] * 30):
            data, starts = [], []
            for k in range(5):
                data += gap
                starts.append(len(data) - len(gap))
                data += self.one.parts[f"frame {k}"]
            front = self.one.parts["head"] + self.one.parts["tags"] + index_of(starts)
            damaged = front + data[len(gap):]
            self.assertEqual(check(damaged)[0], 9)
            self.tells(0, 77, damaged)

    def test_a_frame_that_goes_on_into_what_the_index_gives_the_next(self):
        # Frame 1 isn't looked at, so it may begin within frame 0.
        starts = [0, 1, 2, 3, 4]
        front = self.one.parts["head"] + self.one.parts["tags"] + index_of(starts)
        data = front + self.one.parts["frame 0"]
        self.tells(0, 16, data)
        self.refused(-9, 15, 2, data)

    def test_many_sorts_of_damage(self):
        rnd = random.Random(114)
        for trial in range(300):
            damaged = list(self.data)
            for hole in range(rnd.randint(1, 6)):
                begin = rnd.randrange(self.one.place("frame 0"), len(damaged))
                size = rnd.choice([1, 2, 10, 40])
                damaged[begin:begin + size] = some_bytes(rnd, len(damaged[begin:begin + size]))
            damaged = damaged[:rnd.choice([len(damaged), rnd.randint(self.one.place("frame 0"), len(damaged))])]
            for part in range(6):
                begin = rnd.randint(0, 77)
                n = rnd.randint(0, min(25, 77 - begin))
                answer = read(begin, n, damaged)
                self.assertEqual(answer, samples_told(begin, n, damaged, unframe))
                kept = all(damaged[at:at + len(one)] == one for at, one in self.asked(begin, n))
                self.assertEqual(answer, [1, n] + FILE_NUMBERS[begin:begin + n] if kept else [-9])

    def asked(self, begin, n):
        frames = sorted({t // 16 for t in range(begin, begin + n)})
        return [(self.one.place(f"frame {k}"), self.one.parts[f"frame {k}"]) for k in frames]

    def test_many_files(self):
        rnd = random.Random(115)
        for trial in range(40):
            form = [rnd.randint(1, 4), rnd.randint(4, 24), rnd.choice([16, 17, 33]), rnd.randint(0, 4),
                    rnd.randint(1, 8), rnd.randint(0, 4)]
            numbers = sound(rnd, form, rnd.randint(1, 90))
            data = pack(rnd.choice([0, 5]), form, numbers, flat(some_tags(rnd)))[1:]
            front = front_of(data, unframe)[0]
            for damage in range(12):
                place = rnd.randrange(front, len(data))
                damaged = turned(data, place, rnd.randint(1, 255))
                begin = rnd.randrange(len(numbers) // form[0])
                n = rnd.randint(1, len(numbers) // form[0] - begin)
                answer = read(begin, n, damaged)
                self.assertIn(answer, ([-9], read(begin, n, data)))
                self.assertEqual(answer, samples_told(begin, n, damaged, unframe))


class NotTaken(Reads):
    def broken(self, k, data):
        """Refused just where samples of frame k are asked for."""
        begin, end = 16 * k, min(77, 16 * k + 16)
        for first, n in ((begin, 1), (begin, end - begin), (end - 1, 1), (0, 77), (0, end), (begin, 77 - begin), (0, begin + 1)):
            self.refused(-9, first, n, data)
        self.tells(0, begin, data)
        self.tells(end, 77 - end, data)
        self.assertEqual(read(begin + 1, 0, data), [1, 0])

    def test_damaged(self):
        one = made()
        for k in range(5):
            part = one.parts[f"frame {k}"]
            for place in range(len(part)):
                self.broken(k, one.changed(f"frame {k}", turned(part, place, 16)))

    def test_of_another_number(self):
        one = made()
        for k in range(5):
            for other in (k + 1, (k + 4) % 5, k + 5, 1048575):
                part = small_frame(other, FILE_FORM, FILE_NUMBERS[16 * k:16 * k + 16])
                self.assertEqual(len(part), len(one.parts[f"frame {k}"]))
                self.broken(k, one.changed(f"frame {k}", part))

    def test_another_frame_of_the_file(self):
        one = made(numbers=[5] * 77)
        data = one.changed("frame 1", one.parts["frame 2"])
        self.assertEqual(read(16, 1, data), [-9])
        self.assertEqual(read(32, 45, data), [1, 45] + [5] * 45)

    def test_of_another_length(self):
        # All numbers are the same, so frames of any length have as many bytes.
        one = made(numbers=[5] * 77)
        for k, right in ((0, 16), (3, 16), (4, 13)):
            for n in range(1, 17):
                data = one.changed(f"frame {k}", small_frame(k, FILE_FORM, [5] * n))
                self.assertEqual(len(data), len(one.data()))
                self.assertEqual(read(16 * k, 1, data), [1, 1, 5] if n == right else [-9])
                self.assertEqual(read(0, 16 * k, data), [1, 16 * k] + [5] * (16 * k))

    def test_more_samples_than_a_block(self):
        one = made(numbers=[5] * 77)
        long = closed(head(0, 17) + same(8, 5))
        self.assertEqual(read(0, 1, one.changed("frame 0", long)), [-9])

    def test_not_where_the_index_says(self):
        one = made()
        index = one.parts["index"]
        starts = [int.from_bytes(index[at:at + 3], "big") for at in range(0, 15, 3)]
        for k in range(1, 5):
            for by in (-1, 1, 5):
                bent = starts[:k] + [starts[k] + by] + starts[k + 1:]
                self.broken(k, one.changed("index", index_of(bent)))

    def test_the_index_says_behind_the_end(self):
        one = made()
        starts = [int.from_bytes(one.parts["index"][at:at + 3], "big") for at in range(0, 12, 3)]
        data = one.data()
        first = one.place("frame 0")
        for start in (len(data) - first - 1, len(data) - first, len(data) - first + 1, 65536, 2 ** 24 - 1):
            self.broken(4, one.changed("index", index_of(starts + [start])))

    def test_moved_by_a_byte(self):
        one = made()
        first = one.parts["frame 0"]
        for moved in ([0] + first, first[1:]):
            for k in range(5):
                self.refused(-9, 16 * k, 1, one.changed("frame 0", moved))

    def test_a_lost_frame(self):
        one = made()
        for k in range(5):
            data = one.changed(f"frame {k}", [])
            for other in range(k):
                self.tells(16 * other, 16, data)
            for other in range(k, 5):
                self.refused(-9, 16 * other, 13, data)

    def test_short(self):
        one = made()
        for k in range(5):
            begin = one.place(f"frame {k}")
            for size in range(begin, begin + len(one.parts[f"frame {k}"])):
                self.refused(-9, 16 * k, 1, one.data()[:size])
                self.tells(0, 16 * k, one.data()[:size])

    def test_no_longer_than_4096_bytes(self):
        for size in (4000, 4096, 4097, 5000):
            numbers, long = long_frame(0, size)
            one = Made([1, 24, 16, 4, 1, 0], numbers, (), 0, lambda k, form, part: long)
            for behind in ([], [0] * 5000):
                self.assertEqual(read(0, 16, one.data() + behind), [1, 16] + numbers if size <= 4096 else [-9])


class TheFirstTold(Reads):
    def test_too_many_before_all(self):
        self.refused(-1, 0, 2049, [])
        self.refused(-1, 0, 2049, made().data())
        self.refused(-1, 4294967295, 4294967295, turned(made().data(), 40))

    def test_the_front_before_what_is_not_there(self):
        for data in (faulty_heads()[0], faulty_tags()[0], faulty_indexes()[0]):
            self.refused(-2, 77, 1, data)
            self.refused(-2, 4294967295, 2048, data)

    def test_what_is_not_there_before_a_frame(self):
        one = made()
        damaged = one.data()[:one.place("frame 0")]
        self.refused(-3, 0, 78, damaged)
        self.refused(-3, 77, 1, damaged)
        self.refused(-9, 0, 77, damaged)


class ByItself(unittest.TestCase):
    def test_unchanged_and_the_same_again(self):
        right = made().data()
        between = [0, 2, made(STEREO, STEREO_NUMBERS).data()]
        for data in (right, turned(right, 30, 128), right[:40], right[:-9], turned(right, 120, 3)):
            for begin, n in ((0, 77), (5, 20), (77, 0), (77, 1), (0, 2049)):
                by_itself(self, read, between, [begin, n, data])


if __name__ == "__main__":
    unittest.main()
