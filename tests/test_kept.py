"""Promises 2 and 3: what is kept of each ship, how many ships, and the list."""

import unittest

from radio import (
    answers, ask, line, listing, moving, small_moving, small_name, small_still, split, station, voyage, whole,
)

AROUND = {"bow": 1, "stern": 2, "port": 3, "starboard": 4}


def heard(ship, now=0, **words):
    return line(whole(moving(ship=ship, **words)), now=now)


def listed(*calls):
    return ask(*calls, listing())[-1]


def numbers(lines):
    return [int(row.split(" ")[0]) for row in lines.splitlines()]


class Newest(unittest.TestCase):
    def test_one_message(self):
        self.assertEqual(listed(heard(5, status=3)), "5 status=3\n")

    def test_all_words_in_their_order(self):
        calls = [line(row) for row in split(voyage(
            5, imo=6, call="CA", name="NA", kind=7, draught=8, to="TO", around=AROUND, month=9, day=10, hour=11,
            minute=12))]
        calls.append(line(whole(station(5, year=13, second=14, where={"x": 15, "y": 16}))))
        calls.append(heard(5, status=1, turn=2, speed=3, course=4, heading=6, x=-7, y=-8))
        wanted = (
            '5 name="NA" call="CA" imo=6 kind=7 bow=1 stern=2 port=3 starboard=4 draught=8 to="TO"'
            " status=1 turn=2 speed=3 course=4 heading=6 x=-7 y=-8"
            " year=13 month=9 day=10 hour=11 minute=12 second=14\n")
        self.assertEqual(listed(*calls), wanted)

    def test_each_word_anew(self):
        words = {"status": 3, "turn": 4, "speed": 5, "course": 6, "heading": 7, "x": 8, "y": 9}
        for word in words:
            newer = dict(words)
            newer[word] = 2
            wanted = "5" + "".join(" %s=%d" % pair for pair in newer.items()) + "\n"
            self.assertEqual(listed(heard(5, **words), heard(5, **newer)), wanted)

    def test_what_is_not_told_stays(self):
        older = heard(5, status=3, turn=4, speed=5, course=6, heading=7, x=8, y=9)
        wanted = "5 status=3 turn=4 speed=5 course=6 heading=7 x=8 y=9\n"
        self.assertEqual(listed(older, heard(5)), wanted)
        self.assertEqual(listed(older, heard(5, speed=0)), wanted.replace("speed=5", "speed=0"))

    def test_an_empty_text_leaves_the_older(self):
        older = line(whole(small_name(5, "OLD")))
        self.assertEqual(listed(older, line(whole(small_name(5, "")))), '5 name="OLD"\n')
        self.assertEqual(listed(older, line(whole(small_name(5, "NEW")))), '5 name="NEW"\n')

    def test_kinds_share_their_words(self):
        calls = (
            heard(5, speed=1, course=2, heading=3, x=4, y=5),
            line(whole(small_moving(5, speed=6, course=7, heading=8, x=9, y=10))),
            line(whole(station(5, where={"x": 11, "y": 12}, month=1, day=2, hour=3, minute=4))),
            line(whole(small_still(5, kind=1, call="A", **AROUND))),
            *[line(row) for row in split(voyage(5, call="B", month=5, day=6, hour=7, minute=8))],
        )
        wanted = (
            '5 call="B" kind=1 bow=1 stern=2 port=3 starboard=4 speed=6 course=7 heading=8 x=11 y=12'
            " month=5 day=6 hour=7 minute=8\n")
        self.assertEqual(listed(*calls), wanted)

    def test_line_tells_this_message_alone(self):
        self.assertEqual(ask(heard(5, status=3), heard(5, turn=4)), ["5 status=3\n", "5 turn=4\n"])

    def test_newest_is_the_last_that_came_also_at_a_time_gone_back(self):
        self.assertEqual(listed(heard(5, now=100, status=3), heard(5, now=50, status=4)), "5 status=4\n")

    def test_ships_are_apart(self):
        self.assertEqual(listed(heard(5, status=3), heard(6, turn=4)), "5 status=3\n6 turn=4\n")

    def test_nothing_known_is_kept_too(self):
        self.assertEqual(listed(heard(5)), "5\n")

    def test_vdo_is_kept_as_vdm(self):
        self.assertEqual(listed(line(whole(moving(5, status=3), kind="VDO"))), "5 status=3\n")


class Most(unittest.TestCase):
    def test_256_ships(self):
        self.assertEqual(numbers(listed(*[heard(ship) for ship in range(256)])), list(range(256)))

    def test_one_more_with_one_heard_longest_ago(self):
        for oldest in (0, 100, 255):
            calls = [heard(oldest, now=1)]
            calls = calls + [heard(ship, now=2) for ship in range(256) if ship != oldest]
            calls.append(heard(999, now=3))
            wanted = [ship for ship in range(256) if ship != oldest] + [999]
            self.assertEqual(numbers(listed(*calls)), wanted)

    def test_one_more_with_several_alike(self):
        calls = [heard(ship, now=1) for ship in range(300, 44, -1)]
        self.assertEqual(numbers(listed(*calls, heard(7, now=1))), [7] + list(range(46, 301)))
        self.assertEqual(numbers(listed(*calls, heard(7, now=2), heard(8, now=2))), [7, 8] + list(range(47, 301)))

    def test_the_least_goes_also_if_it_is_the_newest_of_those_alike(self):
        calls = [heard(ship, now=1) for ship in range(255)] + [heard(999, now=0), heard(1000, now=0)]
        self.assertEqual(numbers(listed(*calls)), list(range(1, 255)) + [999, 1000])

    def test_the_least_of_those_heard_longest_ago_alone(self):
        calls = [heard(ship, now=1) for ship in range(199, 149, -1)] + [heard(ship, now=2) for ship in range(100)]
        calls = calls + [heard(ship, now=3) for ship in range(200, 306)]
        self.assertEqual(len(calls), 256)
        got = numbers(listed(*calls, heard(999, now=3)))
        self.assertEqual(got, list(range(100)) + list(range(151, 306)) + [999])

    def test_one_heard_again_is_not_the_one_heard_longest_ago(self):
        calls = [heard(ship, now=1) for ship in range(256)] + [heard(0, now=2), heard(999, now=2)]
        self.assertEqual(numbers(listed(*calls)), [0] + list(range(2, 256)) + [999])

    def test_one_known_takes_no_place(self):
        calls = [heard(ship, now=1) for ship in range(256)] + [heard(200, now=2, status=1)]
        self.assertEqual(numbers(listed(*calls)), list(range(256)))

    def test_no_right_message_is_not_heard(self):
        calls = [heard(ship, now=ship) for ship in range(256)]
        calls = calls + [heard(0, now=300, heading=400), heard(999, now=300)]
        self.assertEqual(numbers(listed(*calls)), list(range(1, 256)) + [999])
        calls = calls[:256] + [heard(999, now=300, heading=400)]
        self.assertEqual(numbers(listed(*calls)), list(range(256)))

    def test_a_time_gone_back_is_heard_at_the_time_that_stays(self):
        calls = [heard(ship, now=10) for ship in range(255)] + [heard(255, now=0), heard(999, now=10)]
        self.assertEqual(numbers(listed(*calls)), list(range(1, 256)) + [999])

    def test_a_ship_that_went_is_forgotten(self):
        calls = [heard(0, now=0, status=3)] + [heard(ship, now=1) for ship in range(1, 257)]
        got = ask(*calls, heard(0, now=2, turn=5), listing())
        self.assertEqual(got[-1].splitlines()[0], "0 turn=5")
        self.assertEqual(numbers(got[-1]), [0] + list(range(2, 257)))


class List(unittest.TestCase):
    def test_no_ship(self):
        for most in (0, 1, 1048576):
            self.assertEqual(answers(listing(most)), [1, 0])

    def test_the_numbers_that_are_answered(self):
        wanted = [ord(sign) for sign in "5 status=3\n"]
        self.assertEqual(answers(heard(5, status=3)), [12, 11] + wanted)
        self.assertEqual(answers(heard(5, status=3) + listing()), ([12, 11] + wanted) * 2)

    def test_by_their_numbers(self):
        ships = (10, 9, 999999999, 0, 100, 2, 99, 1)
        self.assertEqual(numbers(listed(*[heard(ship) for ship in ships])), sorted(ships))

    def test_most(self):
        for most in (-2147483648, -1, 1048577, 2147483647):
            self.assertEqual(ask(listing(most)), [-1])
            self.assertEqual(ask(heard(5), listing(most)), ["5\n", -1])
        for most in (512, 1048575, 1048576):
            self.assertEqual(ask(heard(5), listing(most)), ["5\n", "5\n"])

    def test_more_than_most(self):
        calls = (heard(5, status=3), heard(6, status=3))
        lines = "5 status=3\n6 status=3\n"
        for most in (len(lines), len(lines) + 1):
            self.assertEqual(ask(*calls, listing(most))[-1], lines)
        for most in (0, 1, len(lines) // 2, len(lines) - 1):
            self.assertEqual(ask(*calls, listing(most))[-1], -6)

    def test_a_refusal_leaves_the_list(self):
        first, second = split(voyage(ship=7))
        for most, answer in ((-1, -1), (1048577, -1), (0, -6), (10, -6)):
            got = ask(heard(5, status=3), line(first), listing(most), line(second), listing())
            self.assertEqual(got, ["5 status=3\n", 0, answer, "7\n", "5 status=3\n7\n"])

    def test_list_leaves_the_list(self):
        self.assertEqual(ask(heard(5), listing(), listing()), ["5\n"] * 3)

    def test_many_long_lines(self):
        calls = []
        for ship in range(97):
            for row in split(voyage(999999000 + ship, imo=9, name="A" * 20, to="B" * 20)):
                calls.append(line(row))
        lines = listed(*calls)
        self.assertEqual(len(lines), 97 * len('999999000 name="%s" imo=9 to="%s"\n' % ("A" * 20, "B" * 20)))


if __name__ == "__main__":
    unittest.main()
