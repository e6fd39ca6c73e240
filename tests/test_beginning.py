"""Promise 1: at first nothing is known, nothing waits, the time is 0."""

import unittest

from radio import answers, ask, line, listing, moving, split, voyage, whole


class Beginning(unittest.TestCase):
    def test_no_calls_no_answers(self):
        self.assertEqual(answers([]), [])

    def test_list_as_the_first_call_is_empty(self):
        self.assertEqual(answers(listing(0)), [1, 0])

    def test_another_part_as_the_first_line_fits_nothing(self):
        for row in split(voyage(), parts=3)[1:]:
            self.assertEqual(ask(line(row)), [-4])

    def test_the_time_is_0(self):
        first, second = split(voyage(ship=7))
        self.assertEqual(ask(line(first, now=0), line(second, now=60)), [0, "7\n"])
        self.assertEqual(ask(line(first, now=0), line(second, now=61)), [0, -4])

    def test_the_second_time_is_as_the_first(self):
        first, second = split(voyage(ship=7))
        calls = line(first, now=4294967295) + line(whole(moving(ship=5, status=3)))
        once = answers(calls)
        self.assertEqual(answers(line(second)), [1, -4])
        self.assertEqual(answers(listing()), [1, 0])
        self.assertEqual(answers(calls), once)
        self.assertEqual(ask(line(first, now=0), line(second, now=61)), [0, -4])


if __name__ == "__main__":
    unittest.main()
