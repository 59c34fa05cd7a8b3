"""The calls of soundkeep. Each answers one list of whole numbers, or a refusal alone."""

from soundkeeping.bits import Short, Wrong
from soundkeeping.forms import Form, all_fit, is_form
from soundkeeping.frames import read_frame, write_frame
from soundkeeping.parts import kind_bits

# What the number of a frame has to be below.
FRAME_NUMBERS = 1048576
GREATEST_WIDTH = 25
MOST_WEIGHED = 256


def frame(k, form, numbers):
    if not is_form(form) or k >= FRAME_NUMBERS:
        return [-1]
    shape = Form(form)
    if len(numbers) % shape.channels != 0 or not 1 <= len(numbers) // shape.channels <= shape.block:
        return [-1]
    if not all_fit(shape.depth, numbers):
        return [-2]
    written = write_frame(shape, k, numbers)
    return [len(written)] + written


def unframe(form, data):
    if not is_form(form):
        return [-1]
    try:
        taken = read_frame(Form(form), data)
    except Wrong:
        return [-3]
    except Short:
        return [-2]
    return [taken.size, taken.k, taken.n] + taken.numbers


def weigh(w, numbers):
    if not 1 <= w <= GREATEST_WIDTH or not 1 <= len(numbers) <= MOST_WEIGHED:
        return [-1]
    if not all_fit(w, numbers):
        return [-2]
    return kind_bits(w, numbers)
