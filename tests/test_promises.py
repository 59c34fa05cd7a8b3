"""The promises all together, of forms and recordings of all sorts."""

import random
import unittest

from helper import EDGE_FORMS, flat, front_of, least_frame, rows_of, some_tags, sound, turned
from soundkeeping.keeping import (anew, check, cut, find, frame, hear, join, mend, pack, read, retag, spare, unframe, weigh)


class Kept:
    """A recording and its file."""

    def __init__(self, form, numbers, tags, pad):
        self.form = form
        self.numbers = numbers
        self.samples = len(numbers) // form[0]
        self.tags = tags
        self.pad = pad
        answer = pack(pad, form, numbers, flat(tags))
        self.data = answer[1:] if answer != [-8] else None

    def part(self, begin, n):
        return self.numbers[begin * self.form[0]:(begin + n) * self.form[0]]


def some_kept(rnd):
    form = [rnd.randint(1, 4), rnd.randint(4, 24), rnd.choice([16, 17, 31, 64, 256]), rnd.randint(0, 4), rnd.randint(1, 8),
            rnd.randint(0, 4)]
    n = rnd.choice([0, 1, 2, form[2] - 1, form[2], form[2] + 1, rnd.randint(0, 200)])
    return Kept(form, sound(rnd, form, min(n, 2048 // form[0])), some_tags(rnd), rnd.choice([0, 0, 1, 40]))


def edge_kept(form, rnd):
    half = 2 ** (form[1] - 1)
    numbers = [rnd.choice([-half, half - 1, 0, -1]) for t in range((form[2] + 2) * form[0])]
    return Kept(form, numbers, some_tags(rnd), 0)


class AllTogether(unittest.TestCase):
    def holds(self, rnd, one):
        self.taken_and_given_back(one)
        self.read_and_cut(rnd, one)
        self.retagged(rnd, one)
        self.joined(rnd, one)
        self.told_stays(rnd, one)
        self.read_though_broken(rnd, one)
        self.mended(rnd, one)

    def taken_and_given_back(self, one):
        self.assertEqual(check(one.data), [0, len(one.data)])
        told = hear(one.data)
        size = 6 + len(flat(one.tags)) + one.pad
        self.assertEqual(told[2:10], [1] + one.form[:3] + one.form[4:] + [one.samples, size])
        self.assertEqual(told[10:], [len(one.tags), -(-one.samples // one.form[2]), len(one.numbers)] + one.numbers)
        for place, single in enumerate(one.tags):
            content = single[3 + single[0]:]
            self.assertEqual(find(one.data, single[1:1 + single[0]]), [place, len(content)] + content)

    def read_and_cut(self, rnd, one):
        begin = rnd.randint(0, one.samples)
        for first, n in ((0, one.samples), (begin, rnd.randint(0, one.samples - begin))):
            part = one.part(first, n)
            self.assertEqual(read(first, n, one.data), [one.form[0], len(part)] + part)
            small = cut(first, n, one.data)
            self.assertEqual(small, pack(0, one.form[:3] + [4] + one.form[4:], part, flat(one.tags)))

    def retagged(self, rnd, one):
        tags = some_tags(rnd)
        self.assertEqual(retag(3, one.data, flat(tags)), pack(3, one.form, one.numbers, flat(tags)))
        self.assertEqual(retag(one.pad, retag(3, one.data, flat(tags))[1:], flat(one.tags))[1:], one.data)

    def joined(self, rnd, one):
        begin = rnd.randint(0, one.samples)
        first, second = cut(0, begin, one.data)[1:], cut(begin, one.samples - begin, one.data)[1:]
        self.assertEqual(join(first, second), cut(0, one.samples, one.data))

    def told_stays(self, rnd, one):
        place = rnd.randrange(len(one.data))
        damaged = turned(one.data, place, rnd.randint(1, 255))
        fault = False
        for size in sorted(rnd.sample(range(len(damaged)), 8)):
            told = check(damaged[:size])
            fault = fault or told != [1, size]
            self.assertEqual(told, check(damaged) if fault else [1, size])

    def read_though_broken(self, rnd, one):
        front = front_of(one.data, unframe)[0]
        for damage in range(5):
            damaged = turned(one.data, rnd.randrange(front, len(one.data)), rnd.randint(1, 255))
            for first in range(0, one.samples, one.form[2]):
                n = min(one.form[2], one.samples - first)
                self.assertIn(read(first, n, damaged), ([-9], [one.form[0], n * one.form[0]] + one.part(first, n)))
            # One byte breaks one frame at most.
            broken = [first for first in range(0, one.samples, one.form[2]) if read(first, 1, damaged) == [-9]]
            self.assertLessEqual(len(broken), 1)

    def mended(self, rnd, one):
        whole = [one.samples, 0, len(one.numbers)] + one.numbers
        self.assertEqual(mend(one.samples, one.form, one.data), whole)
        for damage in range(5):
            damaged = turned(one.data, rnd.randrange(len(one.data)), rnd.randint(1, 255))
            answer = mend(one.samples, one.form, damaged)
            if one.form[5] > 0:
                self.assertEqual(answer, whole)
            else:
                self.assertGreaterEqual(answer[0], one.samples - one.form[2])

    def test_of_all_sorts(self):
        rnd = random.Random(161)
        for trial in range(60):
            one = some_kept(rnd)
            if one.data is not None:
                self.holds(rnd, one)

    def test_at_the_edges_of_forms(self):
        rnd = random.Random(162)
        for form in EDGE_FORMS:
            one = edge_kept(form, rnd)
            if one.data is not None:
                self.holds(rnd, one)

    def test_as_many_numbers_as_can_be(self):
        rnd = random.Random(163)
        for form in ([1, 8, 256, 2, 3, 1], [4, 6, 64, 1, 8, 2]):
            self.holds(rnd, Kept(form, [t * t % 25 - 12 for t in range(2048)], some_tags(rnd), 0))


class FramesAndPieces(unittest.TestCase):
    def test_frames_are_the_least_and_come_back(self):
        rnd = random.Random(164)
        for trial in range(25):
            form = [rnd.randint(1, 4), rnd.randint(4, 24), 16, rnd.randint(0, 4), 1, 0]
            n = rnd.randint(1, 16)
            numbers = sound(rnd, form, n)
            answer = frame(trial, form, numbers)
            self.assertEqual(answer[1:], least_frame(trial, form, numbers))
            self.assertEqual(unframe(form, answer[1:]), [answer[0], trial, n] + numbers)

    def test_no_kind_is_smaller_than_the_one_that_is_written(self):
        rnd = random.Random(165)
        for trial in range(40):
            form = [1, rnd.randint(4, 24), 64, 4, 1, 0]
            numbers = sound(rnd, form, rnd.randint(2, 64))
            if len(set(numbers)) > 1:
                least = min(bits for bits in weigh(form[1], numbers) if bits > 0)
                self.assertEqual(frame(0, form, numbers)[0], (44 + least + 7) // 8 + 2)

    def test_lost_frames_come_back_of_the_pieces_of_a_file(self):
        rnd = random.Random(166)
        for trial in range(30):
            form = [rnd.randint(1, 4), rnd.randint(4, 24), 16, rnd.randint(0, 4), rnd.randint(1, 8), rnd.randint(1, 4)]
            frames = [frame(k, form, sound(rnd, form, 16))[1:] for k in range(form[4])]
            pieces = [spare(0, j, rows_of(frames))[1:] for j in range(form[5])]
            lost = rnd.sample(range(form[4]), min(form[4], form[5]))
            rows = rows_of([[] if k in lost else one for k, one in enumerate(frames)])
            self.assertEqual(anew(0, rows, flat(pieces))[1:], rows_of(frames))


if __name__ == "__main__":
    unittest.main()
