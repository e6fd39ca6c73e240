"""Lines told by radio: their form, their sum, and the bits of their payload."""

from shipradio.writing import LINE_FEED, codes

LONGEST_LINE = 82
FIELDS = 7

CARRIAGE_RETURN = 13
COMMA = 44
ZERO = 48
BACK_QUOTE = 96

SENTENCES = ("VDM", "VDO")
CHANNELS = ("", "A", "B", "1", "2")
SIXTEEN_DIGITS = "0123456789ABCDEF"


class NotALine(Exception):
    pass


class OtherSum(Exception):
    pass


class Sentence:
    def __init__(self, key, parts, which, bits):
        # Parts belong together when their keys are the same.
        self.key = key
        self.parts = parts
        self.which = which
        self.bits = bits


def without_ending(row):
    if row[-2:] == [CARRIAGE_RETURN, LINE_FEED]:
        return row[:-2]
    if row[-1:] in ([LINE_FEED], [CARRIAGE_RETURN]):
        return row[:-1]
    return row


def split_at_commas(line):
    fields = [[]]
    for code in line:
        if code == COMMA:
            fields.append([])
        else:
            fields[-1].append(code)
    return fields


def is_capital(code):
    return ord("A") <= code <= ord("Z")


def is_payload(code):
    return ZERO <= code <= ord("W") or BACK_QUOTE <= code <= ord("w")


def check_head(field):
    if len(field) != 6 or field[0] != ord("!"):
        raise NotALine()
    if not is_capital(field[1]) or not is_capital(field[2]):
        raise NotALine()
    if field[3:] not in [codes(sentence) for sentence in SENTENCES]:
        raise NotALine()


def read_digit(field, least, largest):
    if len(field) != 1 or not ZERO + least <= field[0] <= ZERO + largest:
        raise NotALine()
    return field[0] - ZERO


def check_group(field, parts):
    # Only a message of one part can do without the digit that tells its parts from others.
    if field != [] or parts > 1:
        read_digit(field, 0, 9)


def check_channel(field):
    if field not in [codes(channel) for channel in CHANNELS]:
        raise NotALine()


def check_payload(field):
    if field == [] or not all([is_payload(code) for code in field]):
        raise NotALine()


def check_tail(field):
    if len(field) != 4 or field[1] != ord("*"):
        raise NotALine()


def read_sum(digits):
    sixteen = codes(SIXTEEN_DIGITS)
    if digits[0] not in sixteen or digits[1] not in sixteen:
        raise NotALine()
    return sixteen.index(digits[0]) * 16 + sixteen.index(digits[1])


def sum_of(line):
    total = 0
    for code in line[1:-3]:
        total = total ^ code
    return total


def bits_of(payload, uncounted):
    bits = []
    for code in payload:
        # The eight characters ahead of the back quote stand for nothing.
        value = code - ZERO if code < BACK_QUOTE else code - ZERO - 8
        for place in (32, 16, 8, 4, 2, 1):
            bits.append(value // place % 2)
    return bits[:len(bits) - uncounted]


def read_sentence(row):
    line = without_ending(row)
    fields = split_at_commas(line)
    if len(line) > LONGEST_LINE or len(fields) != FIELDS:
        raise NotALine()
    check_head(fields[0])
    parts = read_digit(fields[1], 1, 9)
    which = read_digit(fields[2], 1, parts)
    check_group(fields[3], parts)
    check_channel(fields[4])
    check_payload(fields[5])
    check_tail(fields[6])
    uncounted = read_digit(fields[6][:1], 0, 5 if which == parts else 0)
    # The form is held to its end before the sums are compared: it is refused ahead of them.
    if read_sum(fields[6][2:]) != sum_of(line):
        raise OtherSum()
    key = (tuple(fields[0][3:]), tuple(fields[3]), tuple(fields[4]))
    return Sentence(key, parts, which, bits_of(fields[5], uncounted))
