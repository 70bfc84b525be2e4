"""Coding, steps 2 and 3: how the samples resemble themselves, and the eight reflections of that."""

from pulsevoice.measures import ORDER
from pulsevoice.sums import doublings, headroom_shift, low_bits, plus, rounded_product, size

HEADROOM = 4


def lowered(samples, shift):
    """The samples made smaller, so that sums of their products stay within 32 bits."""
    if shift == 0:
        return list(samples)
    return [rounded_product(sample, 1 << (15 - shift)) for sample in samples]


def lifted(samples, shift):
    """The lowered samples shifted up again; 2048 by 4 turns over to -32768, as 16 bits do."""
    return [low_bits(sample << shift) for sample in samples]


def likeness(samples, lag):
    """Twice the sum of each sample times the one that lies lag before it."""
    return 2 * sum([now * before for now, before in zip(samples[lag:], samples)])


def likenesses(samples):
    return [likeness(samples, lag) for lag in range(ORDER + 1)]


def normed(sums):
    shift = doublings(sums[0])
    return [(value << shift) >> 16 for value in sums]


def quotient(part, whole):
    """part / whole in 32768ths; where both are the same, two zeros too, the document says 32767."""
    if part == whole:
        return 32767
    return part * 32768 // whole


def reflection(ahead):
    share = quotient(size(ahead[1]), ahead[0])
    if ahead[1] > 0:
        return -share
    return share


def next_ahead(ahead, behind, turn):
    """The document's p one step on; it is one shorter, as its last number is not needed any more."""
    head = [plus(ahead[0], rounded_product(ahead[1], turn))]
    rest = [plus(far, rounded_product(near, turn)) for far, near in zip(ahead[2:], behind[1:])]
    return head + rest


def next_behind(ahead, behind, turn):
    """The document's k one step on; number 0 only keeps the places the same as in p."""
    head = [behind[0]]
    rest = [plus(near, rounded_product(far, turn)) for far, near in zip(ahead[2:], behind[1:])]
    return head + rest


def reflections(sums):
    """r_1 to r_8 of the nine sums of likeness."""
    found = []
    if sums[0] != 0:
        ahead = normed(sums)
        behind = list(ahead)
        while len(found) < ORDER and ahead[0] >= size(ahead[1]):
            turn = reflection(ahead)
            found.append(turn)
            following = next_ahead(ahead, behind, turn)
            behind = next_behind(ahead, behind, turn)
            ahead = following
    return found + [0] * (ORDER - len(found))


def scale_shift(samples):
    return headroom_shift(samples, HEADROOM)
