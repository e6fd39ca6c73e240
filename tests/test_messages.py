"""Promise 2: what a right message is, and what it tells."""

import unittest

from radio import (
    NO_X, NO_Y, TEXT_SIGNS, ask, head, line, listing, moving, number, sentence, small_moving, small_name, small_still,
    split, station, told, voyage, whole,
)

HEARD = (
    ("!AIVDM,1,1,,B,177KQJ5000G?tO`K>RA1wUbN0TKH,0*5C",
     "477553000 status=5 turn=0 speed=0 course=510 heading=181 x=-73407500 y=28549700\n"),
    ("!AIVDM,1,1,,A,403OviQuMGCqWrRO9>E6fE700@GO,0*4D",
     "3669702 x=-45811417 y=22130260 year=2007 month=5 day=14 hour=19 minute=57 second=39\n"),
    ("!AIVDM,2,1,1,A,55?MbV02;H;s<HtKR20EHE:0@T4@Dn2222222216L961O5Gf0NSQEp6ClRp8,0*1C", 0),
    ("!AIVDM,2,2,1,A,88888888880,2*25",
     '351759000 name="EVER DIADEM" call="3FOF8" imo=9134270 kind=70 bow=225 stern=70 port=1 starboard=31'
     ' draught=122 to="NEW YORK" month=5 day=15 hour=14 minute=0\n'),
    ("!AIVDM,1,1,,A,B52K>;h00Fc>jpUlNV@ikwpUoP06,0*4C",
     "338087471 speed=1 course=796 x=-44443279 y=24410724\n"),
    ("!AIVDM,1,1,,A,H42O55i18tMET00000000000000,2*6D", '271041815 name="PROGUY"\n'),
    ("!AIVDM,1,1,,A,H42O55lt0000000D3nink000?050,0*40", '271041815 call="TC6163" kind=60 stern=15 starboard=5\n'),
)


class Heard(unittest.TestCase):
    def test_lines_heard_by_radio(self):
        self.assertEqual(ask(*[line(row) for row, answer in HEARD]), [answer for row, answer in HEARD])


class Whole(unittest.TestCase):
    """For each kind all that it can tell, in the order of the words."""

    def test_1_2_3(self):
        for kind in (1, 2, 3):
            bits = moving(987654321, kind, status=8, turn=-5, speed=123, course=2345, heading=271, x=-1234567, y=765432)
            wanted = "987654321 status=8 turn=-5 speed=123 course=2345 heading=271 x=-1234567 y=765432\n"
            self.assertEqual(told(bits), wanted)

    def test_4(self):
        bits = station(
            2, year=2026, month=11, day=16, hour=5, minute=52, second=33, where={"x": 7654321, "y": -234567})
        wanted = "2 x=7654321 y=-234567 year=2026 month=11 day=16 hour=5 minute=52 second=33\n"
        self.assertEqual(told(bits), wanted)

    def test_5(self):
        around = {"bow": 300, "stern": 21, "port": 13, "starboard": 14}
        for length in (424, 422):
            bits = voyage(
                999999999, imo=1073741823, call="AB1CD2E", name="TWENTY SIGNS OF NAME", kind=255, draught=254,
                to="TWENTY SIGNS TO PORT", around=around, month=12, day=31, hour=23, minute=59, length=length)
            wanted = (
                '999999999 name="TWENTY SIGNS OF NAME" call="AB1CD2E" imo=1073741823 kind=255'
                ' bow=300 stern=21 port=13 starboard=14 draught=254 to="TWENTY SIGNS TO PORT"'
                " month=12 day=31 hour=23 minute=59\n")
            self.assertEqual(told(bits), wanted)

    def test_18(self):
        bits = small_moving(18, speed=77, course=1, heading=9, x=55, y=-66)
        self.assertEqual(told(bits), "18 speed=77 course=1 heading=9 x=55 y=-66\n")

    def test_24_name(self):
        for length in (160, 168):
            bits = small_name(24, "TWENTY SIGNS OF NAME", length)
            self.assertEqual(told(bits), '24 name="TWENTY SIGNS OF NAME"\n')

    def test_24_else(self):
        bits = small_still(24, kind=36, call="AB1CD2E", bow=511, stern=510, port=63, starboard=62)
        self.assertEqual(told(bits), '24 call="AB1CD2E" kind=36 bow=511 stern=510 port=63 starboard=62\n')

    def test_nothing_known(self):
        for bits in (moving(6), station(6), voyage(6), small_moving(6), small_name(6), small_still(6)):
            self.assertEqual(told(bits), "6\n")


class Numbers(unittest.TestCase):
    def each(self, build, word, shown, hidden, wrong):
        for value in shown:
            self.assertEqual(told(build(**{word: value})), "1 %s=%d\n" % (word, value), (build, word))
        for value in hidden:
            self.assertEqual(told(build(**{word: value})), "1\n", (build, word, value))
        for value in wrong:
            self.assertEqual(told(build(**{word: value})), -5, (build, word, value))

    def test_status(self):
        self.each(moving, "status", range(15), (15,), ())

    def test_turn(self):
        self.each(moving, "turn", (-127, -126, -1, 0, 1, 126, 127), (-128,), ())

    def test_way(self):
        for build in (moving, small_moving):
            self.each(build, "speed", (0, 1, 511, 512, 1022), (1023,), ())
            self.each(build, "course", (0, 1, 2048, 3599), (3600,), (3601, 3602, 4095))
            self.each(build, "heading", (0, 1, 256, 359), (511,), (360, 361, 510))

    def test_date_of_4(self):
        self.each(station, "year", (1, 2026, 9999, 16383), (0,), ())
        self.each(station, "second", (0, 1, 59), (60,), (61, 62, 63))

    def test_date(self):
        for build in (station, voyage):
            self.each(build, "month", (1, 12), (0,), (13, 14, 15))
            self.each(build, "day", (1, 30, 31), (0,), ())
            self.each(build, "hour", (0, 1, 23), (24,), (25, 30, 31))
            self.each(build, "minute", (0, 1, 59), (60,), (61, 62, 63))

    def test_voyage(self):
        self.each(voyage, "imo", (1, 9134270, 1073741823), (0,), ())
        self.each(voyage, "kind", (1, 255), (0,), ())
        self.each(voyage, "draught", (1, 255), (0,), ())

    def test_small_kind(self):
        self.each(small_still, "kind", (1, 255), (0,), ())

    def test_sizes(self):
        def around(**size):
            return voyage(around=size)
        for build in (around, small_still):
            for word in ("bow", "stern"):
                self.each(build, word, (1, 256, 511), (0,), ())
            for word in ("port", "starboard"):
                self.each(build, word, (1, 32, 63), (0,), ())


class Place(unittest.TestCase):
    BUILDERS = (moving, small_moving, lambda **where: station(where=where))

    def test_known(self):
        for build in self.BUILDERS:
            for x in (-108000000, -107999999, -1, 0, 1, 107999999, 108000000):
                for y in (-54000000, -53999999, -1, 0, 1, 53999999, 54000000):
                    self.assertEqual(told(build(x=x, y=y)), "1 x=%d y=%d\n" % (x, y))

    def test_not_known(self):
        for build in self.BUILDERS:
            self.assertEqual(told(build(x=NO_X, y=NO_Y)), "1\n")

    def test_beyond(self):
        for build in self.BUILDERS:
            for x in (-134217728, -NO_X, -108000001, 108000001, NO_X - 1, NO_X, NO_X + 1, 134217727):
                self.assertEqual(told(build(x=x, y=0)), -5, x)
                self.assertEqual(told(build(x=x, y=54000000)), -5, x)
            for y in (-67108864, -NO_Y, -54000001, 54000001, NO_Y - 1, NO_Y, NO_Y + 1, 67108863):
                self.assertEqual(told(build(x=0, y=y)), -5, y)
                self.assertEqual(told(build(x=108000000, y=y)), -5, y)

    def test_not_known_is_both_together(self):
        for build in self.BUILDERS:
            for x, y in ((NO_X, NO_Y - 1), (NO_X - 1, NO_Y), (-NO_X, NO_Y), (NO_X, -NO_Y), (-NO_X, -NO_Y)):
                self.assertEqual(told(build(x=x, y=y)), -5, (x, y))


class Texts(unittest.TestCase):
    BUILDERS = (
        ("name", lambda value: voyage(name=value), 20),
        ("call", lambda value: voyage(call=value), 7),
        ("to", lambda value: voyage(to=value), 20),
        ("to", lambda value: voyage(to=value, length=422), 20),
        ("name", lambda value: small_name(name=value), 20),
        ("name", lambda value: small_name(name=value, length=168), 20),
        ("call", lambda value: small_still(call=value), 7),
    )

    def each(self, value, shown):
        for word, build, length in self.BUILDERS:
            wanted = '1 %s="%s"\n' % (word, shown) if shown else "1\n"
            self.assertEqual(told(build(value)), wanted, (word, value))

    def test_each_sign(self):
        for sign in TEXT_SIGNS[1:]:
            self.each("A" + sign + "Z", "A" + sign + "Z")

    def test_empty(self):
        self.each("", "")

    def test_blanks_alone(self):
        for count in (1, 2, 7):
            self.each(" " * count, "")
        for word, build, length in self.BUILDERS:
            self.assertEqual(told(build(" " * length)), "1\n")

    def test_up_to_a_0(self):
        self.each("AB@CD", "AB")
        self.each("@ABCD", "")
        self.each("A@B@C", "A")

    def test_blanks_at_the_end(self):
        self.each("AB  ", "AB")
        self.each("AB     ", "AB")
        self.each("AB @C", "AB")
        self.each("  @C", "")

    def test_blanks_elsewhere(self):
        self.each(" A B", " A B")
        self.each("  A ", "  A")

    def test_quotes_stay(self):
        self.each('"A"', '"A"')
        self.each('"', '"')

    def test_full_length(self):
        for word, build, length in self.BUILDERS:
            value = "ABCDEFGHIJKLMNOPQRST"[:length]
            self.assertEqual(told(build(value)), '1 %s="%s"\n' % (word, value))


class Lengths(unittest.TestCase):
    def lengths(self, bits, right):
        """Every length up to four signs beyond the longest one."""
        longest = max(right)
        bits = (bits + "0" * 24)[:longest + 24]
        for length in range(1, longest + 25):
            answer = told(bits[:length])
            self.assertEqual(answer, "1\n" if length in right else -5, length)

    def test_1_2_3(self):
        for kind in (1, 2, 3):
            self.lengths(moving(kind=kind), (168,))

    def test_4(self):
        self.lengths(station(), (168,))

    def test_5(self):
        self.lengths(voyage(), (424, 422))

    def test_18(self):
        self.lengths(small_moving(), (168,))

    def test_24(self):
        self.lengths(small_name(length=168), (160, 168))
        self.lengths(small_still(), (168,))

    def test_the_longest_message_there_can_be(self):
        rows = [sentence("1" * 63, 0, 9, which, "1", channel="") for which in range(1, 10)]
        self.assertEqual(ask(*[line(row) for row in rows], listing()), [0] * 8 + [-5, 0])


class Kinds(unittest.TestCase):
    def test_kinds_that_are_not_told(self):
        for kind in range(64):
            if kind not in (1, 2, 3, 4, 5, 18, 24):
                for length in (40, 160, 168, 422, 424):
                    bits = (number(kind, 6) + moving()[6:] + "0" * 256)[:length]
                    self.assertEqual(told(bits), -5, (kind, length))

    def test_24_of_another_half(self):
        for half in ("10", "11"):
            for length in (40, 160, 168):
                bits = (head(24, 1) + half + "0" * 128)[:length]
                self.assertEqual(told(bits), -5, (half, length))

    def test_the_two_bits_behind_the_kind_tell_nothing(self):
        for middle in ("00", "01", "10", "11"):
            bits = moving(ship=9, status=1)
            self.assertEqual(told(bits[:6] + middle + bits[8:]), "9 status=1\n")


class ShipNumbers(unittest.TestCase):
    def test_right(self):
        for ship in (0, 1, 2, 123456789, 536870912, 999999998, 999999999):
            for build in (moving, station, voyage, small_moving, small_name, small_still):
                self.assertEqual(told(build(ship=ship)), "%d\n" % ship)

    def test_10_to_the_9_and_more(self):
        for ship in (1000000000, 1000000001, 1073741823):
            for build in (moving, station, voyage, small_moving, small_name, small_still):
                self.assertEqual(told(build(ship=ship)), -5)


class NotKept(unittest.TestCase):
    def test_no_right_message_leaves_the_ships(self):
        good = line(whole(moving(ship=1, status=3)))
        wrong = (
            moving(status=4, heading=360), moving(status=4, x=0, y=NO_Y), station(year=2026, second=61),
            moving(status=4)[:162], moving(ship=1000000000, status=4), small_moving(speed=5, course=3601),
        )
        for bits in wrong:
            self.assertEqual(ask(good, line(whole(bits)), listing()), ["1 status=3\n", -5, "1 status=3\n"])

    def test_no_right_message_in_parts_leaves_the_ships(self):
        good = line(whole(moving(ship=1, status=3)))
        rows = [line(row) for row in split(voyage(ship=1, imo=5, month=13))]
        self.assertEqual(ask(good, *rows, listing()), ["1 status=3\n", 0, -5, "1 status=3\n"])


if __name__ == "__main__":
    unittest.main()
