"""Samples read of the frames that hold them, where the index says, whatever is broken elsewhere."""

from soundkeeping.frames import LONGEST, recorded_frame


# A frame that's asked for isn't where the index says.
class Missing(Exception):
    pass


# The front is a file heard up to its index, without a fault. Where no samples are asked for, no frame is looked at.
def read_samples(front, begin, n):
    form = front.head.form
    first = begin // form.block
    behind = form.frame_count(begin + n) if n > 0 else first
    numbers = []
    for k in range(first, behind):
        numbers.extend(frame_numbers(front, k))
    skipped = (begin - first * form.block) * form.channels
    return numbers[skipped:skipped + n * form.channels]


def frame_numbers(front, k):
    begin = front.reading.place + front.starts[k]
    taken = recorded_frame(front.head.form, front.head.samples, front.reading.data[begin:begin + LONGEST])
    if taken is None or taken.k != k:
        raise Missing()
    return taken.numbers
