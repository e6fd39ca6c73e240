"""What the tests share: messages, lines and calls are built here, and answers are taken apart."""

from shipradio.ships import answers

PLAIN_ROOM = 512
ALL_ROOM = 1048576
PAYLOAD_SIGNS = "0123456789:;<=>?@ABCDEFGHIJKLMNOPQRSTUVW`abcdefghijklmnopqrstuvw"
TEXT_SIGNS = "@ABCDEFGHIJKLMNOPQRSTUVWXYZ[\\]^_ !\"#$%&'()*+,-./0123456789:;<=>?"
NO_X = 108600000
NO_Y = 54600000


def number(value, width):
    return format(value % (1 << width), "0%db" % width)


def text(value, length):
    """The six-bit signs of value, with @ (0) behind it."""
    return "".join(number(TEXT_SIGNS.index(sign), 6) for sign in value.ljust(length, "@"))


def place(x=NO_X, y=NO_Y):
    return number(x, 28) + number(y, 27)


def sizes(bow=0, stern=0, port=0, starboard=0):
    return number(bow, 9) + number(stern, 9) + number(port, 6) + number(starboard, 6)


def date(month=0, day=0, hour=24, minute=60):
    return number(month, 4) + number(day, 5) + number(hour, 5) + number(minute, 6)


def head(kind, ship):
    # The two bits behind the kind tell nothing; both are set, so that a reader that takes them in is seen.
    return number(kind, 6) + "11" + number(ship, 30)


def moving(ship=1, kind=1, status=15, turn=-128, speed=1023, course=3600, heading=511, **where):
    bits = head(kind, ship) + number(status, 4) + number(turn, 8) + number(speed, 10) + "1" + place(**where)
    return bits + number(course, 12) + number(heading, 9) + "1" * 31


def station(ship=1, year=0, second=60, where=None, **when):
    bits = head(4, ship) + number(year, 14) + date(**when) + number(second, 6) + "1"
    return bits + place(**(where or {})) + "1" * 34


def voyage(ship=1, imo=0, call="", name="", kind=0, draught=0, to="", around=None, length=424, **when):
    bits = head(5, ship) + "11" + number(imo, 30) + text(call, 7) + text(name, 20) + number(kind, 8)
    bits = bits + sizes(**(around or {})) + "1111" + date(**when) + number(draught, 8) + text(to, 20) + "11"
    return bits[:length]


def small_moving(ship=1, speed=1023, course=3600, heading=511, **where):
    bits = head(18, ship) + "1" * 8 + number(speed, 10) + "1" + place(**where)
    return bits + number(course, 12) + number(heading, 9) + "1" * 35


def small_name(ship=1, name="", length=160):
    return (head(24, ship) + "00" + text(name, 20) + "1" * 8)[:length]


def small_still(ship=1, kind=0, call="", **around):
    return head(24, ship) + "01" + number(kind, 8) + "1" * 42 + text(call, 7) + sizes(**around) + "1" * 6


def armoured(bits):
    """The payload of bits, and how many bits at its end don't count (these are set)."""
    spare = -len(bits) % 6
    bits = bits + "1" * spare
    return "".join(PAYLOAD_SIGNS[int(bits[at:at + 6], 2)] for at in range(0, len(bits), 6)), spare


def sum_of(inner):
    total = 0
    for sign in inner:
        total = total ^ ord(sign)
    return total


def framed(inner):
    return "!%s*%02X" % (inner, sum_of(inner))


def sentence(payload, spare=0, parts=1, which=1, digit="", channel="A", kind="VDM", talker="AI"):
    return framed("%s%s,%s,%s,%s,%s,%s,%s" % (talker, kind, parts, which, digit, channel, payload, spare))


def whole(bits, **others):
    """One line with all of the bits."""
    payload, spare = armoured(bits)
    return sentence(payload, spare, **others)


def split(bits, parts=2, digit="1", **others):
    """The bits in so many lines."""
    payload, spare = armoured(bits)
    lines = []
    for which in range(1, parts + 1):
        piece = payload[len(payload) * (which - 1) // parts:len(payload) * which // parts]
        left = spare if which == parts else 0
        lines.append(sentence(piece, left, parts=parts, which=which, digit=digit, **others))
    return lines


def line(row, now=0, most=PLAIN_ROOM):
    codes = [ord(sign) for sign in row] if isinstance(row, str) else list(row)
    return [1, now, len(codes), most, len(codes)] + codes


def bare_line(count, most=PLAIN_ROOM, now=0):
    """A line call with no bytes, as where count isn't from 0 to 1024."""
    return [1, now, count, most, 0]


def listing(most=ALL_ROOM):
    return [2, most]


def taken_apart(answered):
    """Each answer as its number, or as the text of its bytes; the counts are held on the way."""
    found = []
    at = 0
    while at < len(answered):
        end = at + 1 + answered[at]
        answer = answered[at + 1:end]
        if not 1 <= len(answer) or end > len(answered):
            raise AssertionError("counts don't fit: %r" % (answered,))
        if len(answer) > 1 and answer[0] != len(answer) - 1:
            raise AssertionError("not as many bytes as told: %r" % (answer,))
        found.append(answer[0] if len(answer) == 1 else "".join(chr(code) for code in answer[1:]))
        at = end
    return found


def ask(*calls):
    joined = []
    for call in calls:
        joined.extend(call)
    if len(calls) > 300 or len(joined) > 30000:
        raise AssertionError("more is handed in than the document lets")
    return taken_apart(answers(joined))


def told(bits):
    """What a message of these bits answers, in as many lines as it needs."""
    if len(bits) <= 300:
        return ask(line(whole(bits)))[-1]
    return ask(*[line(row) for row in split(bits)])[-1]
