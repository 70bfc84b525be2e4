"""What the tests share: lines of calls, sounds, frames bit by bit, and answers taken apart."""

import hashlib

from pulsevoice.desk import answers

LOW = -32768
HIGH = 32767

OPEN = [0]

WIDTHS = [6, 6, 5, 5, 4, 4, 3, 3] + 4 * ([7, 2, 2, 6] + 13 * [3])


def encode(samples):
    return [1, len(samples)] + samples


def decode(data):
    return [2, len(data)] + data


def apart(answered):
    """The answers, each a list of its own."""
    out = []
    place = 0
    while place < len(answered):
        count = answered[place]
        out.append(answered[place + 1:place + 1 + count])
        place += 1 + count
    return out


def ask(*calls):
    """The answers to the calls, each apart."""
    line = []
    for call in calls:
        line += call
    return apart(answers(line))


def frames_of(sound):
    """The frames that a new telephone codes of a sound."""
    return [answer[1:] for answer in ask(OPEN, *[encode(part) for part in sound])[1:]]


def samples_of(frames):
    """What a new telephone decodes of frames."""
    return [answer[1:] for answer in ask(OPEN, *[decode(frame) for frame in frames])[1:]]


def digest(rows):
    return hashlib.sha256(repr(rows).encode()).hexdigest()


def hexed(frame):
    return bytes(frame).hex()


def parts(samples):
    return [samples[start:start + 160] for start in range(0, len(samples), 160)]


def noise(count, bound, seed):
    """Numbers from -bound to bound - 1, the same for the same seed."""
    out = []
    for _ in range(count):
        seed = (seed * 1103515245 + 12345) % 2147483648
        out.append((seed >> 8) % (2 * bound) - bound)
    return out


def steady(value, count):
    return parts([value] * (160 * count))


def by_turns(count, run):
    """32767 and -32768 by turns, each for a run of samples."""
    return parts([LOW if (place // run) % 2 else HIGH for place in range(160 * count)])


def voice(count, loudness, seed):
    """A voice in whole numbers: pulses and breath through two resonances, the pitch gliding."""
    breath = noise(160 * count, max(1, loudness // 40), seed)
    out = []
    first = [0, 0]
    second = [0, 0]
    until = 0
    period = 35 + seed % 60
    for sigh in breath:
        push = sigh
        if until == 0:
            push += loudness
            period = 35 + (period - 34) % 100
            until = period
        until -= 1
        first = [(16384 * push + 30000 * first[0] - 15200 * first[1]) >> 14, first[0]]
        second = [(16384 * first[0] + 9000 * second[0] - 13500 * second[1]) >> 14, second[0]]
        out.append(max(LOW, min(HIGH, second[0])))
    return parts(out)


def hiss(count, bound, seed):
    return parts(noise(160 * count, bound, seed))


def frame_of(codes):
    """The 33 bytes of 76 codes, written bit by bit."""
    bits = "1101" + "".join(format(code, f"0{width}b") for width, code in zip(WIDTHS, codes, strict=True))
    return [int(bits[start:start + 8], 2) for start in range(0, 264, 8)]


def codes_in(frame):
    """The 76 codes of 33 bytes, read bit by bit."""
    bits = "".join(format(byte, "08b") for byte in frame)
    out = []
    place = 4
    for width in WIDTHS:
        out.append(int(bits[place:place + width], 2))
        place += width
    return out


def wide_frames():
    """32 frames that no coder made: each lag from 0 to 127, each size from 0 to 63 twice, each grid with each gain."""
    out = []
    pulses = [number + 4 for number in noise(32 * 52, 4, 7)]
    shapes = [number + 32 for number in noise(32 * 8, 32, 8)]
    for frame in range(32):
        codes = [shapes.pop() % 2 ** width for width in WIDTHS[:8]]
        for quarter in range(4):
            number = 4 * frame + quarter
            codes += [number * 37 % 128, number % 4, number // 4 % 4, number * 5 % 64]
            codes += [pulses.pop() for _ in range(13)]
        out.append(frame_of(codes))
    return out


def any_frames():
    """Frames of any bytes behind a first half of 13."""
    out = []
    for seed in range(12):
        row = [number + 128 for number in noise(33, 128, 1000 + seed)]
        out.append([208 + row[0] % 16] + row[1:])
    return out


SOUNDS = {
    "silence": steady(0, 3),
    "steady -32768": steady(LOW, 4),
    "steady 32767": steady(HIGH, 4),
    "by turns, each sample": by_turns(4, 1),
    "by turns, runs of 7": by_turns(4, 7),
    "by turns, runs of 160": by_turns(4, 160),
    "a quiet voice": voice(6, 40, 3),
    "a voice": voice(8, 700, 5),
    "a loud voice": voice(6, 9000, 11),
    "hiss": hiss(4, 300, 17),
    "loud hiss": hiss(4, 32768, 19),
    "a leap behind a long rest": steady(LOW, 60) + steady(HIGH, 2),
    "smallest sounds": hiss(4, 9, 23),
}
