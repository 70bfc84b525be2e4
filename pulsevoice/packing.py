"""Step 11: a frame's codes as 33 bytes, and back.

The codes of a frame are one flat list: 8 of the spectrum, then 17 of each
quarter: lag, gain, grid, size and 13 pulses.
"""

MARK = 13
SPECTRUM_WIDTHS = (6, 6, 5, 5, 4, 4, 3, 3)
QUARTER_WIDTHS = (7, 2, 2, 6, 3, 3, 3, 3, 3, 3, 3, 3, 3, 3, 3, 3, 3)
QUARTERS = 4
BITS_BEHIND_MARK = 260


def widths():
    return SPECTRUM_WIDTHS + QUARTER_WIDTHS * QUARTERS


def packed(codes):
    """The 33 bytes of a frame's codes, the mark ahead of them."""
    whole = MARK
    for width, code in zip(widths(), codes):
        whole = (whole << width) | code
    return [(whole >> shift) & 255 for shift in range(BITS_BEHIND_MARK - 4, -1, -8)]


def is_marked(data):
    return data[0] >> 4 == MARK


def unpacked(data):
    """The codes of a frame's 33 bytes, without the mark."""
    whole = 0
    for byte in data:
        whole = (whole << 8) | byte
    codes = []
    left = BITS_BEHIND_MARK
    for width in widths():
        left -= width
        codes.append((whole >> left) & ((1 << width) - 1))
    return codes


def spectrum_part(codes):
    return codes[:len(SPECTRUM_WIDTHS)]


def quarter_parts(codes):
    """The four lists of 17 codes."""
    first = len(SPECTRUM_WIDTHS)
    step = len(QUARTER_WIDTHS)
    return [codes[start:start + step] for start in range(first, len(codes), step)]
