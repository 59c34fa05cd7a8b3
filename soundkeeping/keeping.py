"""The calls of soundkeep. Each answers one list of whole numbers, or a refusal alone."""

from soundkeeping.bits import Short, Wrong
from soundkeeping.files import with_tags, write_file
from soundkeeping.forms import MOST_NUMBERS, Form, all_fit, is_form
from soundkeeping.frames import read_frame, write_frame
from soundkeeping.judge import hear_beginning, hear_file, hear_front
from soundkeeping.mending import all_numbers, lost_stretches, mended
from soundkeeping.parts import kind_bits
from soundkeeping.reading import Faulty
from soundkeeping.samples import Missing, read_samples
from soundkeeping.spares import MOST_PIECES, Unfit, Unmade, made_anew, read_pieces, read_rows, write_piece, write_rows
from soundkeeping.tags import tag_bytes, write_tags

# What the number of a frame has to be below.
FRAME_NUMBERS = 1048576
# What the number of a group has to be below.
GROUP_NUMBERS = 65536
GREATEST_WIDTH = 25
MOST_WEIGHED = 256
MOST_READ = 2048
LONGEST_FILE = 16384


def counted(data):
    return [len(data)] + data


def file_answer(data):
    return [-8] if len(data) > LONGEST_FILE else counted(data)


def frame(k, form, numbers):
    if not is_form(form) or k >= FRAME_NUMBERS:
        return [-1]
    shape = Form(form)
    if len(numbers) % shape.channels != 0 or not 1 <= len(numbers) // shape.channels <= shape.block:
        return [-1]
    if not all_fit(shape.depth, numbers):
        return [-2]
    return counted(write_frame(shape, k, numbers))


def unframe(form, data):
    if not is_form(form):
        return [-1]
    try:
        taken = read_frame(Form(form), data)
    except Wrong:
        return [-3]
    except Short:
        return [-2]
    return [taken.size, taken.k, taken.n] + taken.numbers


def weigh(w, numbers):
    if not 1 <= w <= GREATEST_WIDTH or not 1 <= len(numbers) <= MOST_WEIGHED:
        return [-1]
    if not all_fit(w, numbers):
        return [-2]
    return kind_bits(w, numbers)


def spare(g, j, rows):
    if g >= GROUP_NUMBERS or j >= MOST_PIECES:
        return [-1]
    try:
        frames = read_rows(rows, 1)
    except Unfit:
        return [-2]
    return counted(write_piece(g, j, frames))


def anew(g, rows, pieces):
    if g >= GROUP_NUMBERS:
        return [-1]
    try:
        frames = read_rows(rows, 0)
        found = read_pieces(g, pieces)
    except Unfit:
        return [-2]
    lost = len([one for one in frames if len(one) == 0])
    if lost == 0:
        return counted(rows)
    if lost > len(found):
        return [-3]
    try:
        return counted(write_rows(made_anew(frames, found[:lost])))
    except Unmade:
        return [-4]


def pack(pad, form, numbers, tags):
    if not is_form(form):
        return [-1]
    shape = Form(form)
    if len(numbers) % shape.channels != 0 or len(numbers) > MOST_NUMBERS:
        return [-1]
    if not all_fit(shape.depth, numbers):
        return [-2]
    try:
        tags_part = write_tags(pad, tags)
    except Faulty:
        return [-3]
    return file_answer(write_file(shape, numbers, tags_part))


def check(data):
    reading = hear_file(data).reading
    return [reading.fault, reading.fault_place]


def hear(data):
    heard = hear_file(data)
    answer = [heard.reading.fault, heard.reading.fault_place] + head_answer(heard.head)
    return answer + [len(heard.tags), heard.frames_taken, len(heard.numbers)] + heard.numbers


def head_answer(head):
    if head is None:
        return [0]
    return [1] + head.form.kept_numbers() + [head.samples, head.tags_size]


def find(file, key):
    heard = hear_beginning(file)
    if heard.reading.fault != 0:
        return [-2]
    for place, tag in enumerate(heard.tags):
        if tag.key == key:
            return [place] + counted(tag.value)
    return [-3]


def read(begin, n, file):
    if n > MOST_READ:
        return [-1]
    front = hear_front(file)
    if front.reading.fault != 0:
        return [-2]
    if begin + n > front.head.samples:
        return [-3]
    try:
        numbers = read_samples(front, begin, n)
    except Missing:
        return [-9]
    return [front.head.form.channels] + counted(numbers)


def retag(pad, file, tags):
    if hear_beginning(file).reading.fault != 0:
        return [-2]
    try:
        tags_part = write_tags(pad, tags)
    except Faulty:
        return [-3]
    heard = hear_file(file)
    if heard.reading.fault != 0:
        return [-9]
    return file_answer(with_tags(heard.head, file, tags_part))


def cut(begin, n, file):
    answer = read(begin, n, file)
    if answer[0] < 0:
        return answer
    return file_answer(repacked(hear_front(file), answer[2:]))


# The file of these numbers, with the form and the tags of the one that was heard.
def repacked(front, numbers):
    return write_file(front.head.form, numbers, write_tags(0, tag_bytes(front.tags)))


def join(a, b):
    first = hear_front(a)
    second = hear_front(b)
    if first.reading.fault != 0 or second.reading.fault != 0:
        return [-2]
    form = first.head.form
    if form.kept_numbers() != second.head.form.kept_numbers():
        return [-3]
    if (first.head.samples + second.head.samples) * form.channels > MOST_NUMBERS:
        return [-1]
    try:
        numbers = read_samples(first, 0, first.head.samples) + read_samples(second, 0, second.head.samples)
    except Missing:
        return [-9]
    return file_answer(repacked(first, numbers))


def mend(n, form, data):
    if not is_form(form) or n * form[0] > MOST_NUMBERS:
        return [-1]
    finds = mended(Form(form), n, data)
    stretches = lost_stretches(finds)
    answer = [n - sum([stretch[1] for stretch in stretches]), len(stretches)]
    for stretch in stretches:
        answer.extend(stretch)
    return answer + counted(all_numbers(finds))
