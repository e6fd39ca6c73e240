"""Promise 2: the refusals -1, -2 and -3, and what they leave as it was."""

import unittest

from radio import (
    ask, armoured, bare_line, framed, line, listing, moving, sentence, split, sum_of, voyage, whole,
)

GOOD = whole(moving(ship=5, status=3))
TOLD = "5 status=3\n"
PAYLOAD = armoured(moving(ship=5, status=3))[0]


class Limits(unittest.TestCase):
    def test_count(self):
        for count in (-2147483648, -1, 1025, 2147483647):
            self.assertEqual(ask(bare_line(count)), [-1], count)

    def test_count_at_its_ends_is_let(self):
        self.assertEqual(ask(line("")), [-2])
        self.assertEqual(ask(line("0" * 1024)), [-2])

    def test_most(self):
        for most in (-2147483648, -1, 0, 511, 1048577, 2147483647):
            self.assertEqual(ask(line(GOOD, most=most), listing()), [-1, 0], most)

    def test_most_at_its_ends_is_let(self):
        for most in (512, 513, 1048575, 1048576):
            self.assertEqual(ask(line(GOOD, most=most)), [TOLD], most)

    def test_a_wrong_count_comes_ahead_of_the_form(self):
        self.assertEqual(ask(line("no line", most=511)), [-1])

    def test_nothing_happens_not_to_the_time_either(self):
        first, second = split(voyage(ship=7))
        for refused in (bare_line(-1, now=500), bare_line(1025, now=500), line(second, now=500, most=511)):
            self.assertEqual(ask(line(first), refused, line(second, now=60)), [0, -1, "7\n"])


class Form(unittest.TestCase):
    def refused(self, row):
        self.assertEqual(ask(line(row)), [-2], row)

    def taken(self, row):
        self.assertEqual(ask(line(row)), [TOLD], row)

    def test_endings(self):
        for ending in ("", "\r\n", "\n", "\r"):
            self.taken(GOOD + ending)

    def test_wrong_endings(self):
        for ending in ("\n\r", "\n\n", "\r\r", "\r\r\n", "\r\n\n", "\r\n\r\n", " ", "\0", " \r\n", "0"):
            self.refused(GOOD + ending)

    def test_an_ending_alone(self):
        for ending in ("\r\n", "\n", "\r"):
            self.refused(ending)

    def test_nothing_stands_ahead(self):
        for ahead in (" ", "\n", "\r\n", "!", "\\g:1-2-3*00\\"):
            self.refused(ahead + GOOD)

    def test_length(self):
        # 14 signs stand ahead of the payload and 5 behind it.
        for ending in ("", "\r\n", "\n", "\r"):
            self.assertEqual(ask(line(sentence("0" * 63) + ending)), [-5])
            self.assertEqual(ask(line(sentence("0" * 64) + ending)), [-2])
            self.assertEqual(ask(line(sentence("0" * 64, channel="") + ending)), [-5])
            self.assertEqual(ask(line(sentence("0" * 65, channel="") + ending)), [-2])

    def test_a_long_line_comes_ahead_of_its_sum(self):
        self.refused(sentence("0" * 64)[:-2] + "00")

    def test_bytes_out_of_reach(self):
        for code in (0, 10, 13, 31, 127, 128, 160, 255):
            for at in range(len(GOOD)):
                row = [ord(sign) for sign in GOOD]
                row[at] = code
                if at < len(GOOD) - 1 or code not in (10, 13):
                    self.assertEqual(ask(line(row)), [-2], (code, at))

    def test_cut_short(self):
        for end in range(len(GOOD)):
            self.refused(GOOD[:end])

    def test_first_sign(self):
        for sign in "$ \"#A":
            self.refused(sign + GOOD[1:])

    def test_short_heads(self):
        rest = GOOD[6:-3]
        for short in ("!", "!A", "!AI", "!AIV", "!AIVD", "!VDM", ""):
            self.refused(short + rest + "*%02X" % sum_of(short[1:] + rest))

    def test_empty_fields(self):
        self.refused(",,,,,,")
        self.refused("!,,,,,,*%02X" % sum_of(",,,,,,"))

    def test_talker(self):
        for talker in ("AA", "AZ", "ZA", "ZZ", "BS"):
            self.taken(sentence(PAYLOAD, talker=talker))
        for talker in ("", "A", "AIA", "ai", "aI", "Ai", "@A", "A@", "[A", "A[", "A1", "1A", "A "):
            self.refused(sentence(PAYLOAD, talker=talker))

    def test_kind(self):
        for kind in ("VDM", "VDO"):
            self.taken(sentence(PAYLOAD, kind=kind))
        for kind in ("", "VD", "VDMM", "VDN", "VDP", "VDL", "vdm", "VdM", "ADM", "VAM", "VSD"):
            self.refused(sentence(PAYLOAD, kind=kind))

    def test_parts(self):
        self.assertEqual(ask(line(sentence("0", parts=9, which=1, digit="1"))), [0])
        for parts in ("", "0", ":", "10", "01", "/", "A", " ", "-1", "1 "):
            self.refused(sentence(PAYLOAD, parts=parts, digit="1"))

    def test_which(self):
        for which in ("", "0", "2", "9", "/", ":", "01", "A", " "):
            self.refused(sentence(PAYLOAD, parts=1, which=which, digit="1"))
        for parts in range(2, 10):
            self.assertEqual(ask(line(sentence("0", parts=parts, which=parts, digit="1"))), [-4])
            self.refused(sentence("0", parts=parts, which=parts + 1 if parts < 9 else ":", digit="1"))
            self.refused(sentence("0", parts=parts, which=0, digit="1"))

    def test_digit(self):
        for digit in ("", "0", "1", "9"):
            self.taken(sentence(PAYLOAD, digit=digit))
        for digit in ("/", ":", "10", "00", "A", " "):
            self.refused(sentence(PAYLOAD, digit=digit))

    def test_more_parts_than_one_have_a_digit(self):
        for digit in ("0", "9"):
            self.assertEqual(ask(line(sentence("0", parts=2, digit=digit))), [0])
        for which in (1, 2):
            for digit in ("", " ", "A", "12"):
                self.refused(sentence("0", parts=2, which=which, digit=digit))

    def test_channel(self):
        for channel in ("A", "B", "1", "2", ""):
            self.taken(sentence(PAYLOAD, channel=channel))
        for channel in ("C", "@", "0", "3", "a", "b", "AA", "AB", "12", " "):
            self.refused(sentence(PAYLOAD, channel=channel))

    def test_payload(self):
        for sign in "09:?@AVW`aw":
            self.assertEqual(ask(line(sentence(sign))), [-5], sign)
        self.refused(sentence(""))
        for code in range(32, 127):
            sign = chr(code)
            if not ("0" <= sign <= "W" or "`" <= sign <= "w"):
                self.refused(sentence(sign))
                self.refused(sentence(PAYLOAD + sign))
                self.refused(sentence(sign + PAYLOAD))

    def test_bits_that_do_not_count(self):
        self.taken(sentence(PAYLOAD, spare=0))
        for spare in range(1, 6):
            self.assertEqual(ask(line(sentence(PAYLOAD, spare=spare))), [-5])
            self.assertEqual(ask(line(sentence(PAYLOAD + "w", spare=spare))), [-5])
        for spare in ("", "/", "6", "9", ":", "00", "01", "A", " "):
            self.refused(sentence(PAYLOAD, spare=spare))

    def test_bits_that_do_not_count_only_in_the_last_part(self):
        for spare in range(1, 6):
            self.refused(sentence("0", spare, parts=2, which=1, digit="1"))
            self.refused(sentence("0", spare, parts=3, which=2, digit="1"))
            self.assertEqual(ask(line(sentence("0", spare, parts=2, which=2, digit="1"))), [-4])

    def test_commas(self):
        inner = GOOD[1:-3]
        for at, sign in enumerate(inner):
            if sign == ",":
                self.refused(framed(inner[:at] + inner[at + 1:]))
                self.refused(framed(inner[:at] + ";" + inner[at + 1:]))
                self.refused(framed(inner[:at] + ",," + inner[at + 1:]))
        self.refused(framed(inner + ","))
        self.refused(framed("," + inner))

    def test_star(self):
        for star in ("", "+", "**", " *", "* "):
            self.refused(GOOD.replace("*", star))

    def test_digits_of_the_sum(self):
        for digits in ("", "0", "000", "0G", "G0", "0g", "0a", "a0", "0f", "/0", "0:", ":0", "0@", "@0", " 0", "0 "):
            self.refused(GOOD[:-2] + digits)

    def test_small_letters_of_the_right_sum(self):
        for row in SUMS_WITH_LETTERS:
            self.assertEqual(ask(line(row)), [-5])
            self.refused(row[:-2] + row[-2:].lower())


class Sum(unittest.TestCase):
    def test_another_sum(self):
        right = sum_of(GOOD[1:-3])
        for value in range(256):
            answer = TOLD if value == right else -3
            self.assertEqual(ask(line(GOOD[:-2] + "%02X" % value)), [answer], value)

    def test_each_byte_counts(self):
        for talker in ("AJ", "BI"):
            self.assertEqual(ask(line("!" + talker + GOOD[3:])), [-3])
        self.assertEqual(ask(line(GOOD.replace(",A,", ",B,"))), [-3])
        self.assertEqual(ask(line(GOOD.replace(",0*", ",1*"))), [-3])

    def test_the_sum_comes_ahead_of_the_part(self):
        row = sentence("0", parts=2, which=2, digit="1")
        self.assertEqual(ask(line(row), line(row[:-2] + "00")), [-4, -3])

    def test_the_sum_comes_ahead_of_the_message(self):
        row = sentence("0")
        self.assertEqual(ask(line(row), line(row[:-2] + "00")), [-5, -3])

    def test_first_part_with_another_sum_does_not_wait(self):
        first, second = split(voyage(ship=7))
        self.assertEqual(ask(line(first[:-2] + "00"), line(second)), [-3, -4])


class AsItWas(unittest.TestCase):
    WRONG = (("no line", -2), ("", -2), (GOOD[:-2] + "00", -3))

    def test_ships_stay(self):
        other = whole(moving(ship=5, status=4))
        for wrong, answer in self.WRONG + ((other + "x", -2), (other[:-2] + "00", -3)):
            self.assertEqual(ask(line(GOOD), line(wrong), listing()), [TOLD, answer, TOLD])

    def test_what_waits_stays(self):
        first, second = split(voyage(ship=7))
        for wrong, answer in self.WRONG + ((first[:-2] + "00", -3), (second[:-2] + "00", -3), (second + "x", -2)):
            self.assertEqual(ask(line(first), line(wrong), line(second)), [0, answer, "7\n"])

    def test_the_time_goes_on(self):
        first, second = split(voyage(ship=7))
        for wrong, answer in self.WRONG:
            self.assertEqual(ask(line(first), line(wrong, now=60), line(second)), [0, answer, "7\n"])
            self.assertEqual(ask(line(first), line(wrong, now=61), line(second)), [0, answer, -4])


SUMS_WITH_LETTERS = [
    row for row in (sentence(sign) for sign in "0123456789:;<=>?@ABCDEFGHIJKLMNO") if row[-1:] in "ABCDEF"
]


if __name__ == "__main__":
    unittest.main()
