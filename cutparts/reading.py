"""Reads a part's text: its block and its cuts, or the first line at which something is wrong."""

MOST_BYTES = 16384
MOST_CUTS = 64
LARGEST_SIZE = 16
LONGEST_NAME = 12

RIGHT = 0
NOT_FORMED = 1
TOO_MANY_CUTS = 2
CANNOT_STAND = 3
BEYOND_BLOCK = 4


class Block:
    def __init__(self, name, size, grain):
        self.name = name
        self.size = size
        self.grain = grain


class Cut:
    def __init__(self, corner, size):
        self.corner = corner
        self.size = size


class Reading:
    def __init__(self):
        self.too_long = False
        self.fault = None
        self.block = None
        self.cuts = []


def read_text(text):
    reading = Reading()
    if len(text) > MOST_BYTES:
        reading.too_long = True
    else:
        read_lines(reading, parted(text, ord("\n")))
    return reading


def read_lines(reading, lines):
    # Behind the last line feed stands nothing, or a line that is without its own.
    unended = lines.pop()
    for number, line in enumerate(lines):
        why = take_line(reading, line)
        if why != RIGHT:
            reading.fault = (number, why)
            return
    if unended:
        reading.fault = (len(lines), NOT_FORMED)
    elif not lines:
        reading.fault = (0, CANNOT_STAND)


def take_line(reading, line):
    fields = parted(line, ord(" "))
    block = block_from(fields)
    if block is not None:
        return take_block(reading, block)
    cut = cut_from(fields)
    if cut is not None:
        return take_cut(reading, cut)
    return NOT_FORMED


def take_block(reading, block):
    if reading.block is not None:
        return CANNOT_STAND
    reading.block = block
    return RIGHT


# The order of the questions is the order of the reasons: of several that hold, the first is told.
def take_cut(reading, cut):
    if reading.block is None:
        return CANNOT_STAND
    if not lies_within(cut, reading.block):
        return BEYOND_BLOCK
    if len(reading.cuts) == MOST_CUTS:
        return TOO_MANY_CUTS
    reading.cuts.append(cut)
    return RIGHT


def lies_within(cut, block):
    for start, length, limit in zip(cut.corner, cut.size, block.size):
        if start + length > limit:
            return False
    return True


def block_from(fields):
    if len(fields) != 6 or not is_word(fields[0], "part") or not is_name(fields[1]):
        return None
    size = size_from(fields[2:5])
    grain = grain_from(fields[5])
    if size is None or grain is None:
        return None
    return Block(fields[1], size, grain)


def cut_from(fields):
    if len(fields) != 7 or not is_word(fields[0], "cut"):
        return None
    corner = [number_from(field) for field in fields[1:4]]
    size = size_from(fields[4:7])
    if None in corner or size is None:
        return None
    return Cut(corner, size)


def size_from(fields):
    size = [number_from(field) for field in fields]
    for length in size:
        if length is None or length < 1 or length > LARGEST_SIZE:
            return None
    return size


def grain_from(field):
    for grain, sign in enumerate("xyz"):
        if is_word(field, sign):
            return grain
    return None


def number_from(field):
    if not field or not all([is_digit(code) for code in field]):
        return None
    if field[0] == ord("0") and len(field) > 1:
        return None
    number = 0
    for code in field:
        # A number above the largest size is too large wherever it stands, so a long one
        # needs no more than to stay above it.
        number = min(number * 10 + code - ord("0"), LARGEST_SIZE + 1)
    return number


def is_word(field, word):
    return field == [ord(sign) for sign in word]


def is_name(field):
    if len(field) < 1 or len(field) > LONGEST_NAME:
        return False
    return all([is_digit(code) or is_letter(code) for code in field])


def is_digit(code):
    return ord("0") <= code <= ord("9")


def is_letter(code):
    return ord("a") <= code <= ord("z")


def parted(codes, mark):
    stretches = [[]]
    for code in codes:
        if code == mark:
            stretches.append([])
        else:
            stretches[-1].append(code)
    return stretches
