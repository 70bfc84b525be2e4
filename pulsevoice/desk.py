"""The desk: a line of calls about one telephone, and what is answered to them."""

from pulsevoice.coder import Coder
from pulsevoice.decoder import Decoder
from pulsevoice.packing import is_marked

BEGIN = 0
TO_BYTES = 1
TO_SAMPLES = 2

DONE = 0
NOT_A_FRAME = -1


class Telephone:
    """One telephone: what coding keeps and what decoding keeps, apart from each other."""

    def __init__(self):
        self.coder = Coder()
        self.decoder = Decoder()

    def answer(self, call, row):
        if call == TO_BYTES:
            return [DONE] + self.coder.frame_of(row)
        if call == TO_SAMPLES:
            return self.answer_to_frame(row)
        return self.begin()

    def begin(self):
        self.coder = Coder()
        self.decoder = Decoder()
        return [DONE]

    def answer_to_frame(self, data):
        if not is_marked(data):
            return [NOT_A_FRAME]
        return [DONE] + self.decoder.samples_of(data)


def row_at(calls, place):
    """A copy of the row whose count stands at the place."""
    return calls[place + 1:place + 1 + calls[place]]


def answers(calls):
    """For each call in order: how many numbers are answered, then these."""
    telephone = Telephone()
    answered = []
    place = 0
    while place < len(calls):
        call = calls[place]
        place += 1
        row = []
        if call != BEGIN:
            row = row_at(calls, place)
            place += 1 + len(row)
        answer = telephone.answer(call, row)
        answered.append(len(answer))
        answered.extend(answer)
    return answered
