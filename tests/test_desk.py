"""The three promises, through the desk."""

import unittest

from pulsevoice.desk import answers
from tests import known
from tests.helper import (HIGH, LOW, OPEN, SOUNDS, any_frames, ask, codes_in, decode, digest, encode, frame_of,
                          frames_of, hexed, samples_of, wide_frames)

VOICE = SOUNDS["a voice"]
VOICE_FRAMES = [list(bytes.fromhex(text)) for text in known.FRAMES["a voice"]]


class PromiseOne(unittest.TestCase):
    def test_open_alone(self):
        self.assertEqual(answers([0]), [1, 0])

    def test_open_again(self):
        self.assertEqual(answers([0, 0, 0]), [1, 0, 1, 0, 1, 0])

    def test_all_as_at_first_for_coding(self):
        for name in ("a loud voice", "steady -32768", "by turns, runs of 7"):
            before = [encode(part) for part in SOUNDS[name]]
            behind = [encode(part) for part in VOICE]
            answered = ask(OPEN, *before, OPEN, *behind)
            self.assertEqual(answered[len(before) + 1], [0])
            self.assertEqual(answered[len(before) + 2:], ask(OPEN, *behind)[1:])

    def test_all_as_at_first_for_decoding(self):
        before = [decode(frame) for frame in wide_frames()]
        # A lag that is no lag asks for the lag before, so the first frame shows that this is 40 again.
        no_lag = frame_of([20] * 2 + [10] * 2 + [5] * 2 + [3] * 2 + 4 * ([0, 3, 1, 40] + [7, 0, 3] * 4 + [5]))
        behind = [decode(frame) for frame in [no_lag] + VOICE_FRAMES]
        self.assertEqual(ask(OPEN, *before, OPEN, *behind)[len(before) + 2:], ask(OPEN, *behind)[1:])


class PromiseTwo(unittest.TestCase):
    maxDiff = None

    def test_known_frames(self):
        for name, sound in SOUNDS.items():
            with self.subTest(name):
                self.assertEqual([hexed(frame) for frame in frames_of(sound)][-8:], known.FRAMES[name])

    def test_answer_is_0_then_33_bytes(self):
        answered = answers(OPEN + encode(VOICE[0]))
        self.assertEqual(answered[:4], [1, 0, 34, 0])
        self.assertEqual(len(answered), 2 + 35)
        for sound in SOUNDS.values():
            for frame in frames_of(sound):
                self.assertEqual(len(frame), 33)
                self.assertEqual(frame[0] >> 4, 13)
                self.assertTrue(all(type(byte) is int and 0 <= byte <= 255 for byte in frame))

    def test_what_is_kept_is_seen(self):
        for name in ("a voice", "hiss", "steady 32767"):
            frames = frames_of([SOUNDS[name][1]] * 2)
            self.assertNotEqual(frames[0], frames[1])

    def test_lags_and_codes_are_within_bounds(self):
        for sound in SOUNDS.values():
            for frame in frames_of(sound):
                codes = codes_in(frame)
                self.assertTrue(all(40 <= codes[place] <= 120 for place in range(8, 76, 17)))


class PromiseThree(unittest.TestCase):
    maxDiff = None

    def test_frames_made_by_encode(self):
        for name, sound in SOUNDS.items():
            with self.subTest(name):
                self.assertEqual(digest(samples_of(frames_of(sound))), known.HEARD[name])

    def test_known_samples(self):
        self.assertEqual(samples_of(VOICE_FRAMES)[2], known.VOICE_HEARD)

    def test_silence(self):
        heard = samples_of(frames_of(SOUNDS["silence"]))
        self.assertTrue(all(-100 < sample < 100 for row in heard for sample in row))

    def test_voice_comes_back_much_the_same(self):
        heard = sum(samples_of(frames_of(VOICE)), [])
        spoken = sum(VOICE, [])
        loss = sum((one - other) ** 2 for one, other in zip(spoken, heard))
        self.assertLess(10 * loss, sum(one ** 2 for one in spoken))

    def test_every_lag_and_size(self):
        frames = wide_frames()
        codes = [codes_in(frame) for frame in frames]
        self.assertEqual({row[place] for row in codes for place in range(8, 76, 17)}, set(range(128)))
        self.assertEqual({row[place + 3] for row in codes for place in range(8, 76, 17)}, set(range(64)))
        self.assertEqual(digest(samples_of(frames)), known.WIDE_HEARD)

    def test_any_bytes_behind_13(self):
        self.assertEqual(digest(samples_of(any_frames())), known.ANY_HEARD)

    def test_no_lag_is_the_lag_before(self):
        start = [30, 34, 18, 12, 9, 6, 4, 3]
        for low_or_high in (0, 39, 121, 127):
            said = frame_of(start + self.quarter(77) + self.quarter(77) + self.quarter(55) + self.quarter(55))
            unsaid = frame_of(start + self.quarter(77) + self.quarter(low_or_high) + self.quarter(55)
                              + self.quarter(low_or_high))
            self.assertEqual(samples_of([said]), samples_of([unsaid]))
            self.assertEqual(samples_of([said, self.whole(55)])[1], samples_of([said, self.whole(low_or_high)])[1])
            self.assertNotEqual(samples_of([said, self.whole(40)])[1], samples_of([said, self.whole(low_or_high)])[1])

    def test_the_lag_before_is_40_at_first(self):
        for lag in (0, 39, 121, 127):
            self.assertEqual(samples_of([self.whole(lag)]), samples_of([self.whole(40)]))
        self.assertNotEqual(samples_of([self.whole(41)]), samples_of([self.whole(40)]))

    def test_answer_is_0_then_160_samples(self):
        answered = answers(OPEN + decode(VOICE_FRAMES[0]))
        self.assertEqual(answered[:4], [1, 0, 161, 0])
        self.assertEqual(len(answered), 2 + 162)

    def test_samples_have_no_three_lowest_bits(self):
        for row in samples_of(wide_frames() + any_frames()):
            self.assertTrue(all(type(one) is int and LOW <= one <= HIGH and one % 8 == 0 for one in row))

    def test_refusal(self):
        for half in range(16):
            if half != 13:
                for low in (0, 13, 15):
                    self.assertEqual(answers([0] + decode([16 * half + low] + [221] * 32)), [1, 0, 1, -1])

    def test_refusal_leaves_all_as_it_was(self):
        wrong = [decode([first] + frame[1:]) for first, frame in zip((0, 207, 224, 255, 13), wide_frames())]
        plain = [OPEN]
        mixed = [OPEN]
        for part, frame in zip(VOICE, wide_frames()):
            plain += [encode(part), decode(frame)]
            mixed += wrong[:2] + [encode(part)] + wrong[2:] + [decode(frame)]
        kept = [answer for answer in ask(*mixed) if answer != [-1]]
        self.assertEqual(len(ask(*mixed)) - len(kept), 5 * len(VOICE))
        self.assertEqual(kept, ask(*plain))

    def quarter(self, lag):
        return [lag, 2, 1, 38] + [7, 0, 5, 2, 4, 3, 6, 1, 7, 1, 2, 0, 5]

    def whole(self, lag):
        return frame_of([30, 34, 18, 12, 9, 6, 4, 3] + 4 * self.quarter(lag))


class Apart(unittest.TestCase):
    def test_coding_and_decoding_keep_apart(self):
        sound = SOUNDS["a loud voice"]
        frames = wide_frames()[:len(sound)]
        mixed = []
        for part, frame in zip(sound, frames):
            mixed += [encode(part), decode(frame)]
        answered = ask(OPEN, *mixed)[1:]
        self.assertEqual([answer[1:] for answer in answered[0::2]], frames_of(sound))
        self.assertEqual([answer[1:] for answer in answered[1::2]], samples_of(frames))


class Unchangeable(list):
    """A list that tells when it is changed, be it for a while."""

    def refuse(self, *given):
        raise AssertionError("what is handed in was changed")

    __setitem__ = __delitem__ = __iadd__ = __imul__ = refuse
    append = extend = insert = pop = remove = clear = sort = reverse = refuse


class TheInterface(unittest.TestCase):
    def line(self):
        line = [0]
        for part, frame in zip(VOICE, any_frames()):
            line += encode(part) + decode(frame) + decode([1] + frame[1:])
        return line + [0] + encode(VOICE[0])

    def test_what_is_handed_in_stays(self):
        line = self.line()
        copy = list(line)
        answers(line)
        self.assertEqual(line, copy)
        self.assertEqual(answers(Unchangeable(line)), answers(line))

    def test_the_same_each_time(self):
        line = self.line()
        first = answers(line)
        answers(OPEN + encode([HIGH] * 160) + decode([208] + [255] * 32))
        self.assertEqual(answers(line), first)

    def test_what_is_given_back_is_new(self):
        first = answers([0])
        first.append(5)
        self.assertEqual(answers([0]), [1, 0])

    def test_plain_numbers_in_a_plain_list(self):
        answered = answers(self.line())
        self.assertIs(type(answered), list)
        self.assertTrue(all(type(number) is int for number in answered))

    def test_longest_lines(self):
        parts = sum((sound for sound in SOUNDS.values()), [])
        many = [encode(parts[place % len(parts)]) for place in range(299)]
        answered = ask(OPEN, *many)
        self.assertEqual([len(answer) for answer in answered], [1] + [34] * 299)
        self.assertEqual(ask(*[OPEN] * 300), [[0]] * 300)


if __name__ == "__main__":
    unittest.main()
