"""The interface: what is handed in and given back, and what is let alone."""

import contextlib
import io
import sys
import unittest

from radio import answers, bare_line, line, listing, moving, sentence, split, station, voyage, whole

CALLS = (
    line(whole(moving(ship=5, status=3, x=1, y=2)) + "\r\n", now=4294967295)
    + line(split(voyage(ship=6, name="A"))[0])
    + line(split(voyage(ship=6, name="A"))[1])
    + line(whole(station(ship=7, year=2026)), most=1048576)
    + line("no line") + line("!*00") + line(sentence("0")) + line(sentence("0", 0, 2, 2, "3"))
    + line(whole(moving())[:-2] + "00") + line(whole(moving()), most=0)
    + bare_line(-1) + bare_line(1025) + line([0, 255, 10, 13])
    + listing() + listing(1) + listing(-1)
)


class Locked(list):
    """A list that can't be changed, not for a while either."""

    def locked(self, *anything):
        raise AssertionError("what is handed in was changed")

    append = clear = extend = insert = pop = remove = reverse = sort = locked
    __setitem__ = __delitem__ = __iadd__ = __imul__ = locked


class HandedIn(unittest.TestCase):
    def test_the_same_after_as_before(self):
        calls = list(CALLS)
        answers(calls)
        self.assertEqual(calls, CALLS)

    def test_not_changed_for_a_while_either(self):
        self.assertEqual(answers(Locked(CALLS)), answers(list(CALLS)))

    def test_what_is_given_back_is_new(self):
        calls = []
        answers(calls).append(1)
        self.assertEqual(answers(calls), [])
        answers(list(CALLS)).clear()
        self.assertEqual(answers(list(CALLS)), answers(list(CALLS)))


class GivenBack(unittest.TestCase):
    def test_a_list_of_whole_numbers(self):
        answered = answers(list(CALLS))
        self.assertIs(type(answered), list)
        self.assertEqual({type(number) for number in answered}, {int})

    def test_each_answer_with_how_many_numbers_it_has(self):
        calls = line(whole(moving(ship=5))) + line("") + listing() + listing(0) + listing(1048576)
        self.assertEqual(answers(calls), [3, 2, 53, 10, 1, -2, 3, 2, 53, 10, 1, -6, 3, 2, 53, 10])

    def test_each_refusal_alone(self):
        calls = (
            bare_line(-1), line(""), line(sentence("0")[:-2] + "00"), line(sentence("0", 0, 2, 2, "3")),
            line(sentence("0")), line(sentence("0", 0, 2, 1, "3")), listing(-1),
        )
        self.assertEqual([answers(call) for call in calls], [[1, -1], [1, -2], [1, -3], [1, -4], [1, -5], [1, 0], [1, -1]])

    def test_300_calls(self):
        calls = line(whole(moving(ship=5))) * 299 + listing()
        self.assertLessEqual(len(calls), 30000)
        self.assertEqual(answers(calls), [3, 2, 53, 10] * 300)

    def test_bytes_that_look_like_calls(self):
        calls = line([2, 0, 1, 0, 0, 512, 0]) + listing(0) + line([1] * 1024) + listing(0)
        self.assertEqual(answers(calls), [1, -2, 1, 0, 1, -2, 1, 0])


class LetAlone(unittest.TestCase):
    def test_nothing_is_printed_read_or_imported(self):
        before = sorted(sys.modules)
        printed = io.StringIO()
        events = []
        watching = [True]

        def watch(event, details):
            if watching[0]:
                events.append(event)

        sys.addaudithook(watch)
        with contextlib.redirect_stdout(printed), contextlib.redirect_stderr(printed):
            events.clear()
            answers(list(CALLS))
            seen = list(events)
        watching[0] = False
        self.assertEqual(printed.getvalue(), "")
        self.assertEqual(sorted(sys.modules), before)
        self.assertEqual([event for event in seen if event in ("open", "import", "exec", "compile")], [])

    def test_no_deep_calls(self):
        limit = sys.getrecursionlimit()
        depth = 0
        frame = sys._getframe()
        while frame is not None:
            depth = depth + 1
            frame = frame.f_back
        sys.setrecursionlimit(depth + 30)
        try:
            answered = answers(list(CALLS) * 15)
        finally:
            sys.setrecursionlimit(limit)
        self.assertEqual(answered[:2], answers(list(CALLS))[:2])


if __name__ == "__main__":
    unittest.main()
