"""Promise 2: parts that wait, are dropped and are forgotten."""

import unittest

from radio import ask, armoured, line, listing, moving, sentence, small_name, split, voyage, whole

FIRST, SECOND = split(voyage(ship=7, imo=9))
TOLD = "7 imo=9\n"


def first_of(digit, channel="A", kind="VDM"):
    return split(voyage(ship=7, imo=9), digit=digit, channel=channel, kind=kind)[0]


def second_of(digit, channel="A", kind="VDM"):
    return split(voyage(ship=7, imo=9), digit=digit, channel=channel, kind=kind)[1]


class Together(unittest.TestCase):
    def test_each_number_of_parts(self):
        for parts in range(2, 10):
            rows = split(small_name(ship=3, name="A NAME OF A SHIP"), parts=parts)
            self.assertEqual(len(rows), parts)
            wanted = [0] * (parts - 1) + ['3 name="A NAME OF A SHIP"\n']
            self.assertEqual(ask(*[line(row) for row in rows]), wanted)

    def test_only_the_bits_of_the_last_part_do_not_count(self):
        payload, spare = armoured(small_name(ship=3, name="AB"))
        self.assertEqual(spare, 2)
        for cut in (1, 13, 26):
            rows = (sentence(payload[:cut], 0, 2, 1, "4"), sentence(payload[cut:], 2, 2, 2, "4"))
            self.assertEqual(ask(line(rows[0]), line(rows[1])), [0, '3 name="AB"\n'])

    def test_what_is_whole_waits_no_more(self):
        self.assertEqual(ask(line(FIRST), line(SECOND), line(SECOND)), [0, TOLD, -4])

    def test_what_is_no_right_message_waits_no_more(self):
        first = sentence("0", parts=2, which=1, digit="1")
        last = sentence("0", parts=2, which=2, digit="1")
        self.assertEqual(ask(line(first), line(last), line(last), listing()), [0, -5, -4, 0])

    def test_the_two_letters_do_not_matter(self):
        rows = (split(voyage(ship=7, imo=9), talker="AI")[0], split(voyage(ship=7, imo=9), talker="BS")[1])
        self.assertEqual(ask(line(rows[0]), line(rows[1])), [0, TOLD])

    def test_endings_do_not_matter(self):
        self.assertEqual(ask(line(FIRST + "\r\n"), line(SECOND + "\r")), [0, TOLD])

    def test_a_message_of_one_part_leaves_what_waits(self):
        single = whole(moving(ship=5, status=3), digit="1")
        self.assertEqual(ask(line(FIRST), line(single), line(SECOND)), [0, "5 status=3\n", TOLD])

    def test_a_wrong_message_of_one_part_leaves_what_waits(self):
        self.assertEqual(ask(line(FIRST), line(sentence("0", digit="1")), line(SECOND)), [0, -5, TOLD])


class Apart(unittest.TestCase):
    def apart(self, other):
        first = line(first_of("1"))
        self.assertEqual(ask(first, line(second_of(**other)), line(second_of("1"))), [0, -4, TOLD])
        both = ask(first, line(first_of(**other)), line(second_of("1")), line(second_of(**other)))
        self.assertEqual(both, [0, 0, TOLD, TOLD])

    def test_kind(self):
        self.apart({"digit": "1", "kind": "VDO"})

    def test_digit(self):
        for digit in "02345678":
            self.apart({"digit": digit})

    def test_channel(self):
        for channel in ("B", "1", "2", ""):
            self.apart({"digit": "1", "channel": channel})

    def test_no_channel_is_a_channel(self):
        rows = split(voyage(ship=7, imo=9), channel="")
        self.assertEqual(ask(line(rows[0]), line(rows[1])), [0, TOLD])

    def test_a_digit_and_a_channel_alike_in_sign(self):
        rows = (first_of("1", channel="2"), first_of("2", channel="1"))
        self.assertEqual(ask(line(rows[0]), line(rows[1]), line(second_of("1", channel="2"))), [0, 0, TOLD])


class Misfits(unittest.TestCase):
    def test_nothing_waits(self):
        self.assertEqual(ask(line(SECOND), line(SECOND)), [-4, -4])

    def test_not_the_next_part(self):
        rows = [line(row) for row in split(voyage(ship=7, imo=9), parts=4)]
        self.assertEqual(ask(rows[0], rows[2]), [0, -4])
        self.assertEqual(ask(rows[0], rows[3]), [0, -4])
        self.assertEqual(ask(rows[0], rows[1], rows[1]), [0, 0, -4])
        self.assertEqual(ask(rows[0], rows[1], rows[3]), [0, 0, -4])
        self.assertEqual(ask(rows[0], rows[1], rows[2], rows[1]), [0, 0, 0, -4])

    def test_a_misfit_drops_what_waits(self):
        rows = [line(row) for row in split(voyage(ship=7, imo=9), parts=4)]
        self.assertEqual(ask(rows[0], rows[2], rows[1]), [0, -4, -4])
        self.assertEqual(ask(rows[0], rows[1], rows[1], rows[2]), [0, 0, -4, -4])

    def test_of_another_number_of_parts(self):
        two = [line(row) for row in split(voyage(ship=7, imo=9), parts=2)]
        three = [line(row) for row in split(voyage(ship=7, imo=9), parts=3)]
        self.assertEqual(ask(two[0], three[1], two[1]), [0, -4, -4])
        self.assertEqual(ask(three[0], two[1], three[1]), [0, -4, -4])

    def test_a_misfit_leaves_what_waits_elsewhere(self):
        calls = (line(first_of("1")), line(first_of("2")), line(sentence("0", 0, 3, 3, "2")))
        self.assertEqual(ask(*calls, line(second_of("2")), line(second_of("1"))), [0, 0, -4, -4, TOLD])

    def test_a_misfit_leaves_the_ships(self):
        good = line(whole(moving(ship=5, status=3)))
        self.assertEqual(ask(good, line(SECOND), listing()), ["5 status=3\n", -4, "5 status=3\n"])


class Anew(unittest.TestCase):
    def test_a_first_part_begins_anew(self):
        other = split(voyage(ship=8, imo=5))
        self.assertEqual(ask(line(FIRST), line(other[0]), line(other[1])), [0, 0, "8 imo=5\n"])

    def test_what_waited_so_is_dropped(self):
        three = [line(row) for row in split(voyage(ship=7, imo=9), parts=3)]
        self.assertEqual(ask(three[0], three[1], three[0], three[2]), [0, 0, 0, -4])
        self.assertEqual(ask(three[0], three[1], three[0], three[1], three[2]), [0, 0, 0, 0, TOLD])

    def test_of_another_number_of_parts(self):
        three = [line(row) for row in split(voyage(ship=7, imo=9), parts=3)]
        self.assertEqual(ask(three[0], line(FIRST), line(SECOND)), [0, 0, TOLD])

    def test_the_wait_begins_anew(self):
        calls = (line(FIRST, now=0), line(FIRST, now=50))
        self.assertEqual(ask(*calls, line(SECOND, now=110)), [0, 0, TOLD])
        self.assertEqual(ask(*calls, line(SECOND, now=111)), [0, 0, -4])


class Eight(unittest.TestCase):
    def begun(self, count, step=0):
        return [line(first_of(str(digit)), now=digit * step) for digit in range(count)]

    def test_eight_wait(self):
        calls = self.begun(8) + [line(second_of(str(digit))) for digit in range(8)]
        self.assertEqual(ask(*calls), [0] * 8 + [TOLD] * 8)

    def test_the_ninth_takes_the_place_of_the_first(self):
        for step in (0, 1):
            calls = self.begun(9, step) + [line(second_of(str(digit))) for digit in range(9)]
            self.assertEqual(ask(*calls), [0] * 9 + [-4] + [TOLD] * 8)

    def test_the_tenth_takes_the_place_of_the_second(self):
        calls = self.begun(10) + [line(second_of(str(digit))) for digit in range(10)]
        self.assertEqual(ask(*calls), [0] * 10 + [-4] * 2 + [TOLD] * 8)

    def test_one_begun_anew_has_waited_least(self):
        calls = self.begun(8) + [line(first_of("0")), line(first_of("8"))]
        asked = [line(second_of(digit)) for digit in "0182"]
        self.assertEqual(ask(*calls, *asked), [0] * 10 + [TOLD, -4, TOLD, TOLD])

    def test_one_begun_anew_takes_no_other_place(self):
        calls = self.begun(8) + [line(first_of("3"))] + [line(second_of(str(digit))) for digit in range(8)]
        self.assertEqual(ask(*calls), [0] * 9 + [TOLD] * 8)

    def test_one_that_went_on_has_still_waited_longest(self):
        rows = [line(row) for row in split(voyage(ship=7, imo=9), parts=3, digit="0")]
        others = self.begun(9)[1:]
        calls = [rows[0]] + others[:7] + [rows[1]] + others[7:] + [rows[2], line(second_of("1"))]
        self.assertEqual(ask(*calls), [0] * 10 + [-4, TOLD])

    def test_one_that_is_whole_makes_room(self):
        calls = self.begun(8) + [line(second_of("5")), line(first_of("8")), line(second_of("0"))]
        self.assertEqual(ask(*calls), [0] * 8 + [TOLD, 0, TOLD])

    def test_one_that_is_dropped_makes_room(self):
        calls = self.begun(8) + [line(sentence("0", 0, 3, 3, "5")), line(first_of("8")), line(second_of("0"))]
        self.assertEqual(ask(*calls), [0] * 8 + [-4, 0, TOLD])

    def test_one_that_is_forgotten_makes_room(self):
        calls = [line(first_of("0"), now=0)] + [line(first_of(digit), now=30) for digit in "1234567"]
        calls = calls + [line(first_of("8"), now=61)] + [line(second_of(digit), now=61) for digit in "12345678"]
        self.assertEqual(ask(*calls), [0] * 9 + [TOLD] * 8)


class Time(unittest.TestCase):
    def test_60_ago_and_more(self):
        for begun in (0, 1, 1000, 4294967295 - 61):
            calls = line(FIRST, now=begun)
            self.assertEqual(ask(calls, line(SECOND, now=begun + 60)), [0, TOLD])
            self.assertEqual(ask(calls, line(SECOND, now=begun + 61)), [0, -4])

    def test_the_first_part_counts_not_the_last_heard(self):
        rows = split(voyage(ship=7, imo=9), parts=3)
        calls = (line(rows[0], now=0), line(rows[1], now=50))
        self.assertEqual(ask(*calls, line(rows[2], now=60)), [0, 0, TOLD])
        self.assertEqual(ask(*calls, line(rows[2], now=61)), [0, 0, -4])

    def test_another_right_line_moves_the_time_on(self):
        for other, answer in ((whole(moving(ship=5)), "5\n"), (sentence("0"), -5), (second_of("9"), -4)):
            self.assertEqual(ask(line(FIRST), line(other, now=60), line(SECOND)), [0, answer, TOLD])
            self.assertEqual(ask(line(FIRST), line(other, now=61), line(SECOND)), [0, answer, -4])

    def test_a_time_that_goes_back_stays(self):
        calls = (line(whole(moving(ship=5)), now=1000), line(FIRST, now=0))
        self.assertEqual(ask(*calls, line(SECOND, now=1060)), ["5\n", 0, TOLD])
        self.assertEqual(ask(*calls, line(SECOND, now=1061)), ["5\n", 0, -4])
        self.assertEqual(ask(*calls, line(SECOND, now=0)), ["5\n", 0, TOLD])

    def test_list_has_no_time(self):
        self.assertEqual(ask(line(FIRST), listing(), line(SECOND, now=60)), [0, 0, TOLD])


if __name__ == "__main__":
    unittest.main()
