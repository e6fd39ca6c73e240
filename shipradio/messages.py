"""Messages: bits are taken apart into what they tell of a ship."""

from shipradio.writing import written_number, written_text

LEAST_BITS = 40
LARGEST_SHIP = 999999999

LARGEST_X = 108000000
LARGEST_Y = 54000000
UNKNOWN_X = 108600000
UNKNOWN_Y = 54600000

BLANK = 32


class NoMessage(Exception):
    pass


class Message:
    def __init__(self, bits):
        self.bits = bits
        self.ship = self.unsigned(8, 30)
        self.told = {}

    def unsigned(self, start, width):
        value = 0
        for bit in self.bits[start:start + width]:
            value = value * 2 + bit
        return value

    def signed(self, start, width):
        # The highest bit counts below 0, and the doubling brings it to its place.
        value = -self.bits[start]
        for bit in self.bits[start + 1:start + width]:
            value = value * 2 + bit
        return value

    def letters(self, start, length):
        text = []
        for at in range(start, start + 6 * length, 6):
            code = self.unsigned(at, 6)
            if code == 0:
                break
            text.append(code + 64 if code < 32 else code)
        while text[-1:] == [BLANK]:
            text.pop()
        return text

    def tell(self, word, number):
        self.told[word] = written_number(number)

    def tell_number(self, word, start, width, unknown, largest=None):
        number = self.unsigned(start, width)
        if number == unknown:
            return
        if largest is not None and number > largest:
            raise NoMessage()
        self.tell(word, number)

    def tell_text(self, word, start, length):
        text = self.letters(start, length)
        if text != []:
            self.told[word] = written_text(text)


def check_length(message, lengths):
    if len(message.bits) not in lengths:
        raise NoMessage()


def tell_place(message, start):
    x = message.signed(start, 28)
    y = message.signed(start + 28, 27)
    if x == UNKNOWN_X and y == UNKNOWN_Y:
        return
    if abs(x) > LARGEST_X or abs(y) > LARGEST_Y:
        raise NoMessage()
    message.tell("x", x)
    message.tell("y", y)


def tell_way(message, speed_start, course_start):
    message.tell_number("speed", speed_start, 10, 1023)
    message.tell_number("course", course_start, 12, 3600, 3600)
    message.tell_number("heading", course_start + 12, 9, 511, 359)


def tell_sizes(message, start):
    message.tell_number("bow", start, 9, 0)
    message.tell_number("stern", start + 9, 9, 0)
    message.tell_number("port", start + 18, 6, 0)
    message.tell_number("starboard", start + 24, 6, 0)


def tell_date(message, start):
    message.tell_number("month", start, 4, 0, 12)
    message.tell_number("day", start + 4, 5, 0)
    message.tell_number("hour", start + 9, 5, 24, 24)
    message.tell_number("minute", start + 14, 6, 60, 60)


def tell_turn(message, start):
    turn = message.signed(start, 8)
    if turn != -128:
        message.tell("turn", turn)


def tell_kinds_1_2_3(message):
    check_length(message, (168,))
    message.tell_number("status", 38, 4, 15)
    tell_turn(message, 42)
    tell_place(message, 61)
    tell_way(message, 50, 116)


def tell_kind_4(message):
    check_length(message, (168,))
    message.tell_number("year", 38, 14, 0)
    tell_date(message, 52)
    message.tell_number("second", 72, 6, 60, 60)
    tell_place(message, 79)


def tell_kind_5(message):
    check_length(message, (424, 422))
    message.tell_number("imo", 40, 30, 0)
    message.tell_text("call", 70, 7)
    message.tell_text("name", 112, 20)
    message.tell_number("kind", 232, 8, 0)
    tell_sizes(message, 240)
    tell_date(message, 274)
    message.tell_number("draught", 294, 8, 0)
    message.tell_text("to", 302, 20)


def tell_kind_18(message):
    check_length(message, (168,))
    tell_place(message, 57)
    tell_way(message, 46, 112)


def tell_kind_24(message):
    half = message.unsigned(38, 2)
    if half == 0:
        check_length(message, (160, 168))
        message.tell_text("name", 40, 20)
    elif half == 1:
        check_length(message, (168,))
        message.tell_number("kind", 40, 8, 0)
        message.tell_text("call", 90, 7)
        tell_sizes(message, 132)
    else:
        raise NoMessage()


def tell_by_kind(message):
    kind = message.unsigned(0, 6)
    if kind in (1, 2, 3):
        tell_kinds_1_2_3(message)
    elif kind == 4:
        tell_kind_4(message)
    elif kind == 5:
        tell_kind_5(message)
    elif kind == 18:
        tell_kind_18(message)
    elif kind == 24:
        tell_kind_24(message)
    else:
        raise NoMessage()


def read_message(bits):
    if len(bits) < LEAST_BITS:
        raise NoMessage()
    message = Message(bits)
    if message.ship > LARGEST_SHIP:
        raise NoMessage()
    tell_by_kind(message)
    return message
