"""find: a tag's place and value by its key, and its refusals."""

import random
import unittest

from helper import (FILE_FORM, FILE_NUMBERS, by_itself, crc, flat, head_of, judged, made, number, some_tags, tag,
                    tags_part, turned)
from soundkeeping.keeping import find, pack, unframe

TAGS = [tag("one", [1, 2, 3]), tag("two"), tag("three", [0, 255]), tag("t", list(range(256)))]


def tagged(tags=TAGS, pad=0):
    return made(FILE_FORM, FILE_NUMBERS, tags, pad)


def signs(key):
    return [ord(sign) for sign in key]


class Found(unittest.TestCase):
    def test_each_of_several(self):
        data = tagged().data()
        self.assertEqual(find(data, signs("one")), [0, 3, 1, 2, 3])
        self.assertEqual(find(data, signs("two")), [1, 0])
        self.assertEqual(find(data, signs("three")), [2, 2, 0, 255])
        self.assertEqual(find(data, signs("t")), [3, 256] + list(range(256)))

    def test_padding_has_no_bearing(self):
        for pad in (0, 1, 100):
            self.assertEqual(find(tagged(TAGS, pad).data(), signs("three")), [2, 2, 0, 255])

    def test_sixteen(self):
        tags = [tag("k" + sign, [place]) for place, sign in enumerate("abcdefghijklmnop")]
        data = tagged(tags).data()
        for place, sign in enumerate("abcdefghijklmnop"):
            self.assertEqual(find(data, signs("k" + sign)), [place, 1, place])

    def test_at_the_edges(self):
        for key in ("a", "k" * 32, "!", "~"):
            for size in (0, 1, 1018 - 3 - len(key)):
                self.assertEqual(find(tagged([tag(key, [9] * size)]).data(), signs(key)), [0, size] + [9] * size)

    def test_what_pack_was_given(self):
        rnd = random.Random(101)
        for trial in range(60):
            tags = some_tags(rnd)
            data = pack(trial, FILE_FORM, FILE_NUMBERS[:trial], flat(tags))
            for place, one in enumerate(tags):
                content = one[3 + one[0]:]
                self.assertEqual(find(data[1:], one[1:1 + one[0]]), [place, len(content)] + content)


class NotThere(unittest.TestCase):
    def test_other_keys(self):
        data = tagged().data()
        for key in ("on", "onee", "One", "three ", "tw", "x", "", "=", "one=", "k" * 32, "k" * 33, "k" * 64):
            self.assertEqual(find(data, signs(key)), [-3], key)

    def test_keys_that_cannot_be(self):
        for key in ([0], [255], [61], [0, 0, 0], [32], [127], [255] * 64):
            self.assertEqual(find(tagged().data(), key), [-3])

    def test_no_tags(self):
        for key in ("", "one"):
            self.assertEqual(find(tagged(()).data(), signs(key)), [-3])
            self.assertEqual(find(tagged((), 9).data(), signs(key)), [-3])

    def test_a_value_is_no_key(self):
        data = tagged([tag("a", tag("b", [1]))]).data()
        self.assertEqual(find(data, signs("b")), [-3])
        self.assertEqual(find(data, signs("a")), [0, 5] + tag("b", [1]))


class Faults(unittest.TestCase):
    def refused(self, data):
        for key in ("one", "x", ""):
            self.assertEqual(find(data, signs(key)), [-2])

    def test_it_ends_within_head_or_tags(self):
        one = tagged()
        data = one.data()
        for size in range(one.place("index")):
            self.refused(data[:size])
        for size in range(one.place("index"), len(data)):
            self.assertEqual(find(data[:size], signs("one")), [0, 3, 1, 2, 3])

    def test_of_the_head(self):
        data = tagged().data()
        for place in range(26):
            self.refused(turned(data, place, 64))

    def test_of_the_tags(self):
        one = tagged(TAGS, 6)
        for place in range(26, one.place("index")):
            self.assertIn(judged(turned(one.data(), place, 64), unframe)[0][0], (5, 6))
            self.refused(turned(one.data(), place, 64))

    def test_each_reason(self):
        for part in (
            tags_part(TAGS, 0, 5),
            tags_part(TAGS, 9, 5),
            tags_part(TAGS, 0, 3),
            tags_part([tag("one", [1]), tag("")]),
            tags_part([tag("one", [1]), tag("k" * 33)]),
            tags_part([tag("one", [1]), tag("one", [2])]),
            tags_part([tag("one", [1]), tag("a=b")]),
            tags_part([tag("one", [1]), [1, 97, 0, 9]]),
            tags_part([tag("one", [1])] + [tag("k" + sign) for sign in "abcdefghijklmnop"]),
            tags_part([tag("one", [1]), [0, 0, 1]], 0, 1),
            tags_part([tag("one", [1])])[:-1] + [0],
        ):
            self.refused(head_of(FILE_FORM, 0, len(part)) + part + [0] * 50)

    def test_behind_the_tags_they_have_no_bearing(self):
        one = tagged()
        place = one.place("index")
        data = one.data()
        for tail in ([], [0] * 9, [255] * 300, data[place:][::-1], data[place + 1:]):
            self.assertEqual(find(data[:place] + tail, signs("three")), [2, 2, 0, 255])
            self.assertEqual(find(data[:place] + tail, signs("four")), [-3])
        for at in range(place, len(data), 7):
            self.assertEqual(find(turned(data, at), signs("two")), [1, 0])

    def test_all_sorts(self):
        rnd = random.Random(102)
        for trial in range(200):
            tags = flat(some_tags(rnd, 4))
            if tags and trial % 2:
                tags[rnd.randrange(len(tags))] = rnd.choice([0, 1, 2, 61, rnd.randrange(256)])
            bare = number(2, rnd.choice([0, 1, 2, 3, 4])) + tags + [0] * rnd.choice([0, 1, 6])
            data = head_of(FILE_FORM, 0, len(bare) + 4) + bare + crc(bare)
            told, known = judged(data, unframe)
            for key, content in known["tags"] + [(signs("none"), None)]:
                place = [one for one, other in known["tags"]].index(key) if content is not None else None
                right = [-3] if content is None else [place, len(content)] + content
                self.assertEqual(find(data, key), right if told == [1, len(data)] else [-2])


class ByItself(unittest.TestCase):
    def test_unchanged_and_the_same_again(self):
        right = tagged().data()
        between = [tagged([tag("one", [7])]).data(), signs("one")]
        for data in (right, turned(right, 30, 128), right[:40], right[:-9]):
            for key in (signs("one"), signs("t"), signs("x"), []):
                by_itself(self, find, between, [data, key])


if __name__ == "__main__":
    unittest.main()
