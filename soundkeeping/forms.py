"""What a form is, and what fits a width."""

# All channels' numbers together.
MOST_NUMBERS = 2048
# Least and greatest of channels, depth, block, order, group, spare.
RANGES = ((1, 4), (4, 24), (16, 256), (0, 4), (1, 8), (0, 4))


class Form:
    def __init__(self, form):
        self.channels = form[0]
        self.depth = form[1]
        self.block = form[2]
        self.order = form[3]
        self.group = form[4]
        self.spare = form[5]

    def frame_count(self, samples):
        return (samples + self.block - 1) // self.block

    def frame_samples(self, k, samples):
        return min(self.block, samples - k * self.block)

    def group_count(self, samples):
        return (self.frame_count(samples) + self.group - 1) // self.group

    # All but the order, which a file doesn't keep.
    def kept_numbers(self):
        return [self.channels, self.depth, self.block, self.group, self.spare]

    def last_of_group(self, k, frame_count):
        return (k + 1) % self.group == 0 or k + 1 == frame_count


def is_form(form):
    if len(form) != len(RANGES):
        return False
    return all([bounds[0] <= number <= bounds[1] for number, bounds in zip(form, RANGES)])


def fits(width, number):
    half = 1 << (width - 1)
    return -half <= number < half


def all_fit(width, numbers):
    return all([fits(width, number) for number in numbers])
