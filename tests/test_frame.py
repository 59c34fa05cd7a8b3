"""frame: the least of the told ways, bit for bit, and its refusals."""

import random
import unittest

from helper import (EDGE_FORMS, FORM, Look, NO_FORMS, by_itself, closed, fixed, head, least_frame, linear, mono, plain,
                    same, some_form, sound, stereo, u, woven)
from soundkeeping.keeping import frame, unframe, weigh


class Frames(unittest.TestCase):
    def is_frame(self, form, numbers, bits, k=0):
        data = closed(bits)
        self.assertEqual(frame(k, form, numbers), [len(data)] + data)

    def is_part(self, depth, numbers, part, order=4):
        self.is_frame(mono(depth, order), numbers, head(0, len(numbers)) + part)

    def looked(self, form, numbers):
        return Look(form, frame(0, form, numbers)[1:])

    def chosen(self, depth, numbers, order=4):
        return self.looked(mono(depth, order), numbers).parts[0]


class ByHand(Frames):
    def test_all_its_bytes(self):
        # 4B57, 20 bits k, 8 bits n - 1; then 0 0000 0101: the same 5 in 4 bits.
        data = [0x4B, 0x57, 0x12, 0x34, 0x50, 0x30, 0x28]
        check = 0xFFFF
        for byte in data:
            for bit in range(7, -1, -1):
                top = (check >> 15) ^ (byte >> bit & 1)
                check = (check << 1 & 0xFFFF) ^ (0x1021 if top else 0)
        self.assertEqual(frame(0x12345, mono(4), [5] * 4), [9] + data + [check >> 8, check & 255])

    def test_number_of_the_frame(self):
        for k in (0, 1, 2 ** 19, 2 ** 20 - 1):
            self.is_frame(mono(4), [7], head(k, 1) + same(4, 7), k)

    def test_samples_from_one_to_a_block(self):
        for block in (16, 17, 100, 256):
            for n in (1, 2, block - 1, block):
                numbers = [1, -2] * (n // 2) + [1] * (n % 2)
                data = frame(3, mono(5, 0, block), numbers)[1:]
                self.assertEqual(unframe(mono(5, 0, block), data), [len(data), 3, n] + numbers)

    def test_ends_on_a_whole_byte(self):
        # 44 bits and a part of 1 + 4 + 7: seven bytes with no bit 0 behind.
        self.is_frame(mono(7), [-5], head(0, 1) + same(7, -5))
        self.assertEqual(frame(0, mono(7), [-5])[0], 9)
        self.assertEqual(frame(0, mono(8), [-5])[0], 10)

    def test_check_of_what_its_known_for(self):
        # The usual trial of this check: the bytes 1 to 9 as signs give 29B1H.
        data = [ord(sign) for sign in "123456789"]
        self.assertEqual(closed("".join(u(8, byte) for byte in data))[-2:], [0x29, 0xB1])


class Zeros(Frames):
    def test_none(self):
        self.is_part(8, [3, 3], same(8, 3))
        self.is_part(8, [1, 100], plain(8, [1, 100]))

    def test_all_0_have_none(self):
        self.is_part(8, [0, 0, 0], same(8, 0, 0))

    def test_every_number_of_them(self):
        for z in range(8):
            self.is_part(8, [-(2 ** z)] * 3, same(8, -(2 ** z), z))

    def test_as_many_as_the_width_lets(self):
        self.is_part(8, [-128], same(8, -128, 7))
        self.is_part(8, [-128, 0], plain(8, [-128, 0], 7))
        self.is_part(24, [-(2 ** 23)], same(24, -(2 ** 23), 23))

    def test_0_among_others(self):
        self.is_part(8, [0, 8, 0, -16], fixed(8, 0, [0, 8, 0, -16], 0, ((0, 0),), 3))

    def test_guesses_are_of_the_shrunk(self):
        ys = [0, 1, 2, 3, 4, 5, 6, 8, 9, 10]
        self.is_part(12, [16 * y for y in ys], fixed(12, 2, [16 * y for y in ys], 0, ((0, 0),), 4), 0)

    def test_of_a_side(self):
        # s is of width depth + 1, and so may have depth zeros: -128 in mode 1 has z 7 of 9 bits.
        found = self.looked(stereo(8), woven([-128, 0], [0, -128]))
        self.assertEqual(found.modes, [0])
        rows = [[-3, 5, 90, -100, 31, 7, -77, 2], [-19, -11, 74, -116, 15, -9, -93, -14]]
        found = self.looked(stereo(8), woven(*rows))
        self.assertEqual(found.modes, [1])
        self.assertEqual((found.parts[1]["kind"], found.parts[1]["z"]), (0, 4))


class Kinds(Frames):
    def test_same(self):
        for number in (-128, -1, 0, 1, 127):
            for n in (1, 2, 16, 256):
                self.assertEqual(self.chosen(8, [number] * n)["kind"], 0)

    def test_plain(self):
        self.is_part(4, [-8, 7, -8, 7], plain(4, [-8, 7, -8, 7]))

    def test_fixed_of_order_0(self):
        numbers = [0, -1, 1, 0, 0, 1, -1, 0, 0, -2, 1]
        self.is_part(16, numbers, fixed(16, 0, numbers))

    def test_fixed_of_order_1(self):
        numbers = [1000 + t + t % 2 for t in range(0, 33, 3)]
        self.assertEqual(self.chosen(16, numbers, 0)["kind"], 3)

    def test_fixed_of_order_2(self):
        numbers = [1000 + 301 * t for t in range(20)]
        # 18 rests of 0: g 31 and v 0 take 11 bits, g 0 would take 23.
        self.is_part(16, numbers, fixed(16, 2, numbers, 0, ((31, 0),)))

    def test_fixed_of_order_3(self):
        numbers = [5 * t * t - 60 * t + 3 for t in range(40)]
        self.is_part(16, numbers, fixed(16, 3, numbers, 0, ((31, 0),)), 0)

    def test_fixed_of_order_4(self):
        numbers = [t * t * t - 900 * t + 1 for t in range(40)]
        self.is_part(24, numbers, fixed(24, 4, numbers, 0, ((31, 0),)), 0)

    def test_fixed_needs_enough_numbers(self):
        for numbers in ([1, 2], [1, 2, 4], [0, 1, 4, 9]):
            self.assertLessEqual(self.chosen(24, numbers)["kind"] - 2, len(numbers))

    def test_linear_of_each_order(self):
        rows = (
            (7, 8, [-4, -27, 8, -16, 19, -30, 22, -23, 36, -46, 38, -39, 61, -72, 62, -70, 104, -115, 104, -125, 127,
                    -128, 127, -128]),
            (8, 16, [3, -6, -1, 11, -14, 0, 25, -37, 8, 56, -98, 42, 118, -253, 157, 234, -638, 515, 414, -1568, 1566,
                     572, -3748, 4515]),
            (9, 12, [674, 89, 491, -1070, 128, 355, 776, -916, -492, 302, 1190, -482, -1064, -158, 1526, 309, -1365,
                     -1014, 1497, 1386, -1113, -2048, 793, 2047]),
            (10, 12, [1, 16, -12, 0, 5, -24, 37, -27, 6, 36, -84, 103, -78, -8, 142, -269, 313, -200, -98, 514, -871,
                      926, -468, -535]),
        )
        for kind, depth, numbers in rows:
            self.assertEqual(self.chosen(depth, numbers)["kind"], kind)
            data = least_frame(0, mono(depth), numbers)
            self.assertEqual(frame(0, mono(depth), numbers), [len(data)] + data)
            # With a lesser order of the form it has to be another.
            for order in range(kind - 6):
                self.assertLessEqual(self.chosen(depth, numbers, order)["kind"], 6 + order)

    def test_linear_by_hand(self):
        # Each number is -2 times the one before: a1 is -2, and -2 * 2^10 the least that twelve bits hold.
        numbers = [(-2) ** t for t in range(18)]
        self.is_part(24, numbers, linear(24, 10, [-2048], numbers, 0, ((31, 0),)))

    def test_shift_and_factor(self):
        # 3 times the one before: 3 * 2^9 is held, 3 * 2^10 isn't.
        numbers = [3 ** t for t in range(14)]
        self.is_part(24, numbers, linear(24, 9, [1536], numbers, 0, ((31, 0),)))
        self.is_part(24, [-y for y in numbers], linear(24, 9, [1536], [-y for y in numbers], 0, ((31, 0),)))

    def test_factors_of_order_2(self):
        # Each is minus the one before less the one before that: 1, 0, -1, 1, 0, -1 ..
        numbers = [1000, 1, -1001] * 20
        self.is_part(16, numbers, linear(16, 11, [-2048, -2048], numbers, 0, ((31, 0),)))

    def test_agrees_with_weigh(self):
        rnd = random.Random(2)
        for trial in range(150):
            depth, order = rnd.randint(4, 24), rnd.randint(0, 4)
            numbers = sound(rnd, mono(depth), rnd.randint(1, 64))
            found = self.chosen(depth, numbers, order)
            weights = weigh(depth, numbers)
            if len(set(numbers)) == 1:
                self.assertEqual(found["kind"], 0)
                continue
            least = min(bits for bits in weights[:6 + order] if bits > 0)
            self.assertEqual(found["bits"], least)
            self.assertEqual(found["kind"], weights.index(least) + 1)


class Rests(Frames):
    def test_v_of_0_only_where_it_is_less(self):
        # Six rests of 0 take 11 bits either way, and the lower g goes first.
        for n, ways in ((8, [(0, None)]), (9, [(31, 0)])):
            found = self.chosen(24, [1000 * t + 7 for t in range(n)])
            self.assertEqual((found["kind"], found["r"], found["ways"]), (4, 0, ways))

    def test_g_of_31_and_v_above_0(self):
        numbers = [5, -6, 7, -8, 4, -5, 6, -7, 7, -8, -8, 7, 6, -6, 5, -7]
        found = self.chosen(24, numbers, 0)
        self.assertEqual((found["kind"], found["ways"]), (2, [(31, 4)]))

    def test_v_of_a_negative_end(self):
        # -8 is held by 4 bits, 8 only by 5.
        numbers = [-8, 7, -7, 6, 7, -8, -8, 7, 7, -6, -8, 7, -7, 7, -8, 5]
        self.assertEqual(self.chosen(24, numbers, 0)["ways"], [(31, 4)])
        numbers[3] = 8
        self.assertEqual(self.chosen(24, numbers, 0)["ways"], [(3, None)])

    def test_g_grows_with_the_numbers(self):
        for g in (0, 2, 5, 9, 14):
            numbers = [3 * 2 ** g // 2, -(2 ** g) // 2 - 1, 0, 1, 2 ** g // 3, 2 ** g * 2]
            found = self.chosen(24, numbers, 0)
            data = least_frame(0, mono(24, 0), numbers)
            self.assertEqual(frame(0, mono(24, 0), numbers), [len(data)] + data)
            self.assertEqual(found["kind"], 2)

    def test_several_groups(self):
        rnd = random.Random(3)
        for r in range(1, 7):
            numbers = []
            for group in range(2 ** r):
                a = 2000 if group % 2 else 1
                numbers += [rnd.randint(-a, a) for t in range(256 // 2 ** r)]
            found = self.chosen(24, numbers, 0)
            self.assertEqual((found["kind"], found["r"], len(found["ways"])), (2, r, 2 ** r))
            data = least_frame(0, mono(24, 0), numbers)
            self.assertEqual(frame(0, mono(24, 0), numbers), [len(data)] + data)

    def test_groups_want_a_multiple(self):
        # The quiet first half would have a group of its own, if only n were even.
        for n, r in ((63, 0), (64, 1), (65, 0), (66, 1), (255, 0)):
            numbers = [t % 2 if t < n // 2 else 400 * (-1) ** t + t for t in range(n)]
            found = self.chosen(16, numbers, 0)
            self.assertEqual((found["kind"], found["r"]), (2, r))

    def test_first_group_with_no_rests(self):
        # Four groups of four: the first has none left behind its four first numbers.
        numbers = [0, 1, 8, 27]
        for rests in ([0] * 4, [900, -871, 880, -905], [0] * 4):
            for e in rests:
                y = numbers
                numbers = numbers + [4 * y[-1] - 6 * y[-2] + 4 * y[-3] - y[-4] + e]
        self.is_part(24, numbers, fixed(24, 4, numbers, 2, ((0, 0), (0, 0), (10, 0), (0, 0))), 0)


class Equals(Frames):
    def test_kinds(self):
        rows = (
            ((1, 2), 6, [1, 0]), ((1, 3), 8, [-5, -10, -12]), ((1, 4), 5, [1, 4, 7, 10]),
            ((1, 5), 5, [2, 0, 1, 5, 10, 15]), ((2, 3), 8, [-2, -3, -3]), ((2, 4), 8, [0, 1, 2, 3, 4]),
            ((2, 5), 6, [5, 1, -1, -1, 2, 9]), ((3, 4), 8, [-4, -8, -11, -16, -20]),
            ((1, 7), 12, [-26, -75, 394, -4, 184, -517, 73, -355, 698, -208, 620, -975, 454, -1036, 1408, -885, 1688,
                          -2048, 1615, -2048, 2047, -2048, 2047, -2048]),
            ((2, 7, 8), 8, [-15, 1] + [0] * 22),
            ((4, 9), 16, [18, 39, -35, 5, 0, -10, -3, -6, -8, -8, -10, -12, -14, -16, -19, -22, -26, -31, -37, -44,
                          -52, -62, -74, -88]),
            ((7, 8), 8, [-2, -2, -3, -4, -4, -5, -4, -7, -5, -10, -9, -13, -13, -16, -17, -22, -23, -30, -32, -42,
                         -48, -59, -68, -84]),
            ((9, 10), 12, [-821, 710, -1505, 1859] + [-2048, 2047] * 10),
        )
        for kinds, depth, numbers in rows:
            weights = weigh(depth, numbers)
            least = min(bits for bits in weights if bits > 0)
            self.assertEqual(tuple(i + 1 for i in range(10) if weights[i] == least), kinds)
            self.assertEqual(self.chosen(depth, numbers)["kind"], kinds[0])

    def test_r(self):
        numbers = [-3, -7, -5, -8, -7, -4, -3, -8, -5, -8, -8, -8, -8, -8, -8, -8]
        one = fixed(4, 1, numbers, 0, ((1, 0),))
        two = fixed(4, 1, numbers, 1, ((2, 0), (0, 0)))
        self.assertEqual(len(one), len(two))
        self.is_part(4, numbers, one)

    def test_g(self):
        rows = (
            (6, (0, 1), [-1, -1, -1, -1, 1, 1, -1, -1]), (8, (1, 2, 3), [-3, 2, 2]), (8, (2, 3, 4), [-5, -5, 4, 5]),
            (4, (0, 1, 31), [1, -2, 1, 1, -1, 1, 1, 0]), (5, (2, 31), [2, 3, -2, 2, 1, 2, 3, 2]),
            (6, (1, 31), [-3, 1, -2, 3, -3, 2, 0, -1, -3, 3, 2, -1]),
        )
        for depth, gs, numbers in rows:
            v = 4 if max(numbers) > 3 or min(numbers) < -4 else 3 if max(numbers) > 1 or min(numbers) < -2 else 2
            texts = [fixed(depth, 0, numbers, 0, ((g, v),)) for g in gs]
            self.assertEqual(len({len(text) for text in texts}), 1)
            self.is_part(depth, numbers, texts[0])

    def test_g_of_no_rests_is_0(self):
        # Three numbers and order 3: no rest is left, every g takes the same five bits.
        self.assertEqual(weigh(24, [5, 7, 100])[4], 1 + 4 + 72 + 3 + 5)

    def test_modes(self):
        rows = (
            ((0, 1), 8, [-4, -2], [-1, -5]), ((0, 1, 2), 8, [1, -1, 0], [1, 0, -1]), ((0, 1, 2, 3), 6, [1, -3], [1, -4]),
            ((0, 1, 3), 8, [0, -2], [3, 2]), ((0, 2), 6, [-1, 0], [0, 0]), ((0, 2, 3), 6, [-2, 1], [-2, 0]),
            ((0, 3), 8, [-1, 5], [5, -3]), ((1, 2), 8, [0, -3], [2, -2]), ((1, 2, 3), 5, [-3, -6], [-3, -6]),
            ((1, 3), 8, [0, 3], [3, 4]), ((2, 3), 8, [-1, -2], [-2, -2]),
        )
        for modes, depth, a, b in rows:
            sides = [self.part_size(depth, a), self.part_size(depth, b),
                     self.part_size(depth + 1, [x - y for x, y in zip(a, b)]),
                     self.part_size(depth, [(x + y) // 2 for x, y in zip(a, b)])]
            sums = [sides[0] + sides[1], sides[0] + sides[2], sides[2] + sides[1], sides[3] + sides[2]]
            self.assertEqual(tuple(m for m in range(4) if sums[m] == min(sums)), modes)
            self.assertEqual(self.looked(stereo(depth, 0), woven(a, b)).modes, [modes[0]])

    def part_size(self, width, numbers):
        return self.chosen(width, numbers, 0)["bits"]


class Modes(Frames):
    def test_each(self):
        noise = random.Random(4)
        a = [noise.randint(-2000, 2000) for t in range(32)]
        b = [noise.randint(-2000, 2000) for t in range(32)]
        low = [x // 100 for x in a]
        rows = (
            (0, a, b),
            (1, low, [x - 900 for x in low]),
            (2, [x + 900 for x in low], low),
            (3, [x // 100 + y for x, y in zip(b, a)], [x // 100 - y for x, y in zip(b, a)]),
        )
        for mode, left, right in rows:
            numbers = woven(left, right)
            data = least_frame(5, stereo(16), numbers)
            self.assertEqual(frame(5, stereo(16), numbers), [len(data)] + data)
            self.assertEqual(self.looked(stereo(16), numbers).modes, [mode])

    def test_by_hand(self):
        a = [4, 1, -3, 7, 5, 0, -8, 2]
        b = [x - 100 for x in a]
        bits = head(0, 8) + u(2, 1) + fixed(24, 0, a, 0, ((2, 0),)) + same(25, 100, 2)
        self.is_frame(stereo(24, 0), woven(a, b), bits)

    def test_second_of_the_pair_is_the_lesser(self):
        b = [0, 1, 0, -1, 0, 0, 1, 0, -1, 0]
        a = [x + 100 for x in b]
        self.is_frame(stereo(24, 0), woven(a, b), head(0, 10) + u(2, 2) + same(25, 100, 2) + fixed(24, 0, b))

    def test_middle(self):
        # a and b go apart, their middle, rounded down, stays.
        a = [900 * x for x in (1, -1, 1, 1, -1, 1, -1, -1)]
        b = [1 - x for x in a]
        found = self.looked(stereo(16, 0), woven(a, b))
        self.assertEqual((found.modes, found.parts[0]["kind"]), ([3], 0))
        data = least_frame(0, stereo(16, 0), woven(a, b))
        self.assertEqual(frame(0, stereo(16, 0), woven(a, b)), [len(data)] + data)

    def test_middle_is_rounded_down(self):
        # (-3 + 0) / 2 is -2, as (-1 + -2) / 2 and (-4 + 1) / 2 are.
        a, b = [-3, -101, -4, 97, -51, 48], [0, 98, 1, -100, 48, -51]
        data = frame(0, stereo(8, 0), woven(a, b))[1:]
        self.assertEqual(Look(stereo(8, 0), data).modes, [3])
        self.assertEqual(data, closed(head(0, 6) + u(2, 3) + same(8, -2, 1) + plain(9, [x - y for x, y in zip(a, b)])))

    def test_side_at_its_ends(self):
        for depth in (4, 24):
            half = 2 ** (depth - 1)
            numbers = woven([-half, half - 1] * 4, [half - 1, -half] * 4)
            data = least_frame(0, stereo(depth), numbers)
            self.assertEqual(frame(0, stereo(depth), numbers), [len(data)] + data)
            self.assertEqual(unframe(stereo(depth), data)[3:], numbers)

    def test_pairs_of_each_number_of_channels(self):
        a = [300, 310, 290, 305]
        rows = [a, [x - 7 for x in a], [5, 6, 7, 5], [9, 10, 11, 9]]
        for channels in (1, 2, 3, 4):
            form = [channels, 12, 16, 0, 1, 0]
            numbers = woven(*rows[:channels])
            found = self.looked(form, numbers)
            self.assertEqual((len(found.modes), len(found.parts)), (channels // 2, channels))
            self.assertEqual(unframe(form, frame(0, form, numbers)[1:])[2:], [4] + numbers)

    def test_pairs_choose_by_themselves(self):
        b = [0, 1, 0, -1, 0, 0, 1, 0, -1, 0]
        form = [4, 24, 16, 0, 1, 0]
        first = [x + 100 for x in b]
        numbers = woven(first, b, b, first)
        bits = head(0, 10) + u(2, 2) + u(2, 1) + same(25, 100, 2) + fixed(24, 0, b) + fixed(24, 0, b) + same(25, -100, 2)
        self.is_frame(form, numbers, bits)

    def test_odd_last_is_alone(self):
        b = [0, 1, 0, -1, 0, 0, 1, 0, -1, 0]
        form = [3, 24, 16, 0, 1, 0]
        numbers = woven([x + 100 for x in b], b, [6] * 10)
        self.is_frame(form, numbers, head(0, 10) + u(2, 2) + same(25, 100, 2) + fixed(24, 0, b) + same(24, 6, 1))


class Many(Frames):
    def test_small_ones(self):
        rnd = random.Random(6)
        for trial in range(400):
            n = rnd.choice([1, 2, 3, 4, 5, 8, 16, rnd.randint(1, 24)])
            form = some_form(rnd, n)
            numbers = sound(rnd, form, n)
            k = rnd.randrange(2 ** 20)
            data = least_frame(k, form, numbers)
            self.assertEqual(frame(k, form, numbers), [len(data)] + data, (k, form, numbers))

    def test_large_ones(self):
        rnd = random.Random(7)
        for trial in range(16):
            n = rnd.choice([64, 96, 128, 256])
            form = some_form(rnd, n)
            numbers = sound(rnd, form, n)
            data = least_frame(trial, form, numbers)
            self.assertEqual(frame(trial, form, numbers), [len(data)] + data, (form, numbers))

    def test_edges_of_forms(self):
        rnd = random.Random(8)
        for form in EDGE_FORMS:
            half = 2 ** (form[1] - 1)
            for n in (1, form[2] if form[2] == 16 else 32):
                numbers = [rnd.choice([-half, half - 1]) for t in range(n * form[0])]
                data = least_frame(0, form, numbers)
                self.assertEqual(frame(0, form, numbers), [len(data)] + data)

    def test_the_most_numbers(self):
        rnd = random.Random(9)
        half = 2 ** 23
        form = [4, 24, 256, 4, 8, 4]
        numbers = [rnd.randint(-half, half - 1) for t in range(1024)]
        answer = frame(2 ** 20 - 1, form, numbers)
        self.assertEqual(unframe(form, answer[1:]), [answer[0], 2 ** 20 - 1, 256] + numbers)
        self.assertLess(answer[0], 4096)

    def test_group_and_spare_have_no_bearing(self):
        numbers = [3, 1, 4, 1, 5, 9, 2, 6]
        one = frame(0, [2, 8, 16, 4, 1, 0], numbers)
        self.assertEqual(frame(0, [2, 8, 256, 4, 8, 4], numbers), one)


class Refusals(unittest.TestCase):
    def test_no_form(self):
        for form in NO_FORMS:
            self.assertEqual(frame(0, form, [0] * 60), [-1], form)

    def test_not_whole_samples(self):
        for channels in (2, 3, 4):
            for more in range(1, channels):
                self.assertEqual(frame(0, [channels, 8, 16, 0, 1, 0], [0] * (channels * 5 + more)), [-1])

    def test_none(self):
        for channels in (1, 2, 3, 4):
            self.assertEqual(frame(0, [channels, 8, 16, 0, 1, 0], []), [-1])

    def test_more_than_a_block(self):
        for channels in (1, 2, 3, 4):
            for block in (16, 100, 255):
                form = [channels, 8, block, 0, 1, 0]
                self.assertEqual(len(frame(0, form, [0] * (block * channels))) > 1, True)
                self.assertEqual(frame(0, form, [0] * (block * channels + channels)), [-1])
        self.assertEqual(frame(0, FORM, [0] * 257), [-1])
        self.assertEqual(frame(0, FORM, [0] * 1024), [-1])

    def test_number_of_the_frame(self):
        self.assertEqual(frame(2 ** 20 - 1, FORM, [0])[0], 11)
        for k in (2 ** 20, 2 ** 20 + 1, 4294967295):
            self.assertEqual(frame(k, FORM, [0]), [-1])

    def test_does_not_fit(self):
        for depth in (4, 5, 16, 23, 24):
            half = 2 ** (depth - 1)
            for number in (-half, half - 1):
                self.assertGreater(frame(0, [1, depth, 16, 4, 1, 0], [0, number, 0])[0], 0)
            for number in (-half - 1, half, -2147483648, 2147483647):
                for place in range(3):
                    numbers = [0, 0, 0]
                    numbers[place] = number
                    self.assertEqual(frame(0, [1, depth, 16, 4, 1, 0], numbers), [-2])

    def test_the_first_told(self):
        self.assertEqual(frame(2 ** 20, FORM, [2147483647]), [-1])
        self.assertEqual(frame(0, [1, 16, 16, 5, 1, 0], [2147483647]), [-1])
        self.assertEqual(frame(0, [2, 16, 16, 4, 1, 0], [2147483647]), [-1])
        self.assertEqual(frame(0, [1, 16, 16, 4, 1, 0], [2147483647] * 17), [-1])


class ByItself(unittest.TestCase):
    def test_unchanged_and_the_same_again(self):
        rnd = random.Random(10)
        for trial in range(30):
            form = some_form(rnd, 20)
            by_itself(self, frame, [0, FORM, [1, 2, 3]], [trial, form, sound(rnd, form, 20)])

    def test_refusals_are_lists_of_their_own(self):
        by_itself(self, frame, [0, FORM, [1, 2, 3]], [0, [], []])


if __name__ == "__main__":
    unittest.main()
