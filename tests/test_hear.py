"""hear: what check tells, and what's known of the file by then."""

import random
import unittest

from helper import (FILE_FORM, FILE_NUMBERS, FILE_TAGS, by_itself, crc, flat, head_of, heard, index_of, made, number,
                    piece, small_frame, some_bytes, some_tags, sound, sum_of, tag, tags_part, turned)
from soundkeeping.keeping import check, find, hear, pack, unframe

HEAD = [1, 1, 8, 16, 2, 2, 77, 6 + len(flat(FILE_TAGS))]


class Hears(unittest.TestCase):
    def knows(self, data, told, head, tags, frames, numbers):
        self.assertEqual(hear(data), told + head + [tags, frames, len(numbers)] + numbers)
        self.assertEqual(check(data), told)


class Whole(Hears):
    def test_all_of_it(self):
        data = made().data()
        self.knows(data, [0, len(data)], HEAD, 3, 5, FILE_NUMBERS)

    def test_no_samples(self):
        data = made([4, 24, 256, 0, 8, 4], [], (), 1018).data()
        self.knows(data, [0, len(data)], [1, 4, 24, 256, 8, 4, 0, 1024], 0, 0, [])

    def test_samples_not_numbers_are_told(self):
        numbers = [5, -5, 6, -6, 7, -7]
        data = made([3, 12, 17, 1, 3, 1], numbers, FILE_TAGS[:1]).data()
        self.knows(data, [0, len(data)], [1, 3, 12, 17, 3, 1, 2, 15], 1, 1, numbers)

    def test_bytes_behind(self):
        data = made().data()
        self.knows(data + [7], [11, len(data)], HEAD, 3, 5, FILE_NUMBERS)


class NoHead(Hears):
    def test_nothing(self):
        self.knows([], [1, 0], [0], 0, 0, [])

    def test_a_beginning(self):
        data = made().data()
        for size in range(26):
            self.knows(data[:size], [1, size], [0], 0, 0, [])

    def test_its_faults(self):
        data = made().data()
        self.knows(turned(data, 3), [2, 0], [0], 0, 0, [])
        self.knows(turned(data, 8, 255), [3, 8], [0], 0, 0, [])
        self.knows(turned(data, 24), [4, 22], [0], 0, 0, [])


class SomeTags(Hears):
    def test_a_head_and_no_tags(self):
        data = made().data()
        for size in range(26, 28 + len(FILE_TAGS[0])):
            self.knows(data[:size], [1, size], HEAD, 0, 0, [])
        self.knows(turned(data, 26), [5, 26], HEAD, 0, 0, [])
        self.knows(turned(data, 28, 64), [5, 28], HEAD, 0, 0, [])

    def test_a_beginning(self):
        # A tag counts as soon as its value is whole; an empty one as soon as its length is.
        data = made().data()
        ends = [28 + len(flat(FILE_TAGS[:count])) for count in range(4)]
        for size in range(26, ends[3] + 4):
            count = sum(end <= size for end in ends[1:])
            self.knows(data[:size], [1, size], HEAD, count, 0, [])

    def test_one_that_is_not_right(self):
        data = made().data()
        for count in range(3):
            place = 28 + len(flat(FILE_TAGS[:count]))
            self.knows(turned(data, place + 1, 128), [5, place], HEAD, count, 0, [])
            self.knows(turned(data, place, 128), [5, place], HEAD, count, 0, [])

    def test_padding_and_check(self):
        # All tags are whole and right, though what's behind them isn't.
        one = made(pad=4)
        head = HEAD[:-1] + [HEAD[-1] + 4]
        place = one.place("index")
        for at in range(4):
            self.knows(turned(one.data(), place - 8 + at), [5, place - 8 + at], head, 3, 0, [])
        self.knows(turned(one.data(), place - 1), [6, place - 4], head, 3, 0, [])

    def test_keys_alike(self):
        part = tags_part([tag("a", [1]), tag("b"), tag("a")])
        self.knows(head_of(FILE_FORM, 0, len(part)) + part, [5, 28 + 9], [1, 1, 8, 16, 2, 2, 0, len(part)], 2, 0, [])

    def test_no_room_left(self):
        part = tags_part([tag("a", [1]), tag("b")], 0, 3)
        self.knows(head_of(FILE_FORM, 0, len(part)) + part, [5, 28 + 9], [1, 1, 8, 16, 2, 2, 0, len(part)], 2, 0, [])

    def test_more_than_16(self):
        part = tags_part([tag("k" + sign) for sign in "abcdefghijklmnopq"])
        self.knows(head_of(FILE_FORM, 0, len(part)) + part, [5, 26], [1, 1, 8, 16, 2, 2, 0, len(part)], 0, 0, [])


class SomeFrames(Hears):
    def test_index(self):
        one = made()
        self.knows(turned(one.data(), one.place("index")), [7, one.place("index")], HEAD, 3, 0, [])
        place = one.place("frame 0") - 4
        self.knows(turned(one.data(), place), [8, place], HEAD, 3, 0, [])

    def test_a_beginning(self):
        one = made()
        data = one.data()
        ends = [one.place(f"frame {k}") + len(one.parts[f"frame {k}"]) for k in range(5)]
        for size in range(one.place("index"), len(data)):
            count = sum(end <= size for end in ends)
            self.knows(data[:size], [1, size], HEAD, 3, count, FILE_NUMBERS[:16 * count])

    def test_one_that_is_wrong(self):
        one = made()
        for k in range(5):
            place = one.place(f"frame {k}")
            self.knows(turned(one.data(), place), [9, place], HEAD, 3, k, FILE_NUMBERS[:16 * k])

    def test_one_that_is_another(self):
        one = made()
        for k in range(5):
            place = one.place(f"frame {k}")
            for part in (small_frame(k + 1, FILE_FORM, FILE_NUMBERS[16 * k:16 * k + 16]), small_frame(k, FILE_FORM, [1])):
                self.knows(one.changed(f"frame {k}", part), [9, place], HEAD, 3, k, FILE_NUMBERS[:16 * k])

    def test_one_that_is_elsewhere(self):
        one = made()
        starts = [one.place(f"frame {k}") - one.place("frame 0") for k in range(5)]
        for k in range(1, 5):
            bent = starts[:k] + [starts[k] + 1] + starts[k + 1:]
            data = one.changed("index", index_of(bent))
            self.knows(data, [9, one.place(f"frame {k}")], HEAD, 3, k, FILE_NUMBERS[:16 * k])

    def test_a_spare_piece(self):
        one = made()
        for name, count in (("piece 0 0", 2), ("piece 0 1", 2), ("piece 1 0", 4), ("piece 2 0", 5), ("piece 2 1", 5)):
            place = one.place(name)
            self.knows(turned(one.data(), place + 9), [9, place], HEAD, 3, count, FILE_NUMBERS[:16 * count])

    def test_behind_the_frames(self):
        one = made()
        for name in ("index again", "head again", "sum"):
            place = one.place(name)
            self.knows(turned(one.data(), place + 1), [10, place], HEAD, 3, 5, FILE_NUMBERS)

    def test_channels(self):
        form = [3, 8, 16, 4, 1, 0]
        numbers = [t % 20 for t in range(3 * 40)]
        one = made(form, numbers, ())
        head = [1, 3, 8, 16, 1, 0, 40, 6]
        self.knows(turned(one.data(), one.place("frame 2")), [9, one.place("frame 2")], head, 0, 2, numbers[:96])
        self.knows(one.data(), [0, len(one.data())], head, 0, 3, numbers)

    def test_other_numbers_than_the_sum_says(self):
        # The frames are right by themselves, and so are the pieces made of them.
        numbers = FILE_NUMBERS[:16]
        one = made(FILE_FORM, numbers, ())
        other = numbers[:-1] + [numbers[-1] ^ 1]
        frames = [small_frame(0, FILE_FORM, other)]
        data = one.parts["head"] + one.parts["tags"] + index_of([0]) + frames[0]
        data += piece(0, 0, frames) + piece(0, 1, frames) + index_of([0]) + one.parts["head"]
        self.knows(data + sum_of(8, numbers), [10, len(data)], [1, 1, 8, 16, 2, 2, 16, 6], 0, 1, other)
        self.knows(data + sum_of(8, other), [0, len(data) + 4], [1, 1, 8, 16, 2, 2, 16, 6], 0, 1, other)


class GivesBack(Hears):
    def test_the_recording_and_the_tags(self):
        rnd = random.Random(91)
        for trial in range(150):
            form = [rnd.randint(1, 4), rnd.randint(4, 24), rnd.choice([16, 17, 40, 256]), rnd.randint(0, 4),
                    rnd.randint(1, 8), rnd.randint(0, 4)]
            n = rnd.choice([0, 1, form[2], form[2] + 1, rnd.randint(0, 200)])
            numbers, tags, pad = sound(rnd, form, n), some_tags(rnd), rnd.choice([0, 0, 1, 30])
            answer = pack(pad, form, numbers, flat(tags))
            if answer == [-8]:
                continue
            head = [1] + form[:3] + form[4:] + [n, 6 + len(flat(tags)) + pad]
            self.knows(answer[1:], [0, answer[0]], head, len(tags), -(-n // form[2]), numbers)
            for place, one in enumerate(tags):
                content = one[1 + one[0] + 2:]
                self.assertEqual(find(answer[1:], one[1:1 + one[0]]), [place, len(content)] + content)


class WhatIsKnownStays(unittest.TestCase):
    def known(self, data):
        """Fault and place, then the head, how many tags, how many frames, the numbers."""
        answer = hear(data)
        behind = 10 if answer[2] else 3
        self.assertEqual(answer[behind + 2], len(answer) - behind - 3)
        return answer[:2], answer[3:behind], answer[behind], answer[behind + 1], answer[behind + 3:]

    def stays(self, data):
        before = self.known([])
        for size in range(len(data) + 1):
            self.assertEqual(hear(data[:size]), heard(data[:size], unframe))
            now = self.known(data[:size])
            self.assertEqual(now[1][:len(before[1])], before[1])
            self.assertGreaterEqual(now[2], before[2])
            self.assertGreaterEqual(now[3], before[3])
            self.assertEqual(now[4][:len(before[4])], before[4])
            if before[0][0] > 1:
                self.assertEqual(now, before)
            before = now

    def test_of_every_beginning(self):
        self.stays(made(FILE_FORM, FILE_NUMBERS[:50], FILE_TAGS, 3).data() + [0, 1])
        self.stays(made([2, 16, 16, 4, 1, 1], FILE_NUMBERS[:50], ()).data())

    def test_of_damaged_ones(self):
        rnd = random.Random(92)
        right = made(FILE_FORM, FILE_NUMBERS[:40], FILE_TAGS[:2], 2).data()
        for trial in range(40):
            at = rnd.randrange(20, len(right))
            self.stays((turned(right, at, rnd.randint(1, 255)), right[:at] + right[at + 1:], right[:at] + [0] + right[at:]
                        )[trial % 3])

    def test_of_all_sorts(self):
        rnd = random.Random(93)
        for trial in range(40):
            bare = number(2, rnd.choice([0, 1, 2, 3])) + flat(some_tags(rnd, 3)) + some_bytes(rnd, rnd.choice([0, 0, 1, 5]))
            self.stays(head_of(FILE_FORM, 0, len(bare) + 4) + bare + crc(bare) + [0] * 8)


class ByItself(unittest.TestCase):
    def test_unchanged_and_the_same_again(self):
        rnd = random.Random(94)
        right = made(pad=5).data()
        for trial in range(80):
            data = list(right) if trial % 4 == 0 else turned(right, rnd.randrange(len(right)), rnd.randint(1, 255))
            by_itself(self, hear, [made(FILE_FORM, [1, 2, 3], ()).data()], [data])


if __name__ == "__main__":
    unittest.main()
