"""The interface: one flat list in, one flat list out, and nothing else."""

import builtins
import contextlib
import io
import unittest
from unittest import mock

import pairsevent.desk
from pairsevent.desk import answers
from tests.helper import adjust, appeal, ask, average, foul, line, new, passed, played, remove, result, round_robin
from tests.helper import ruling, sit, unsit

STORY = [
    passed(1, 1, 1), new(6, 8), sit(1, 1, 1, 2, 1, 2), sit(1, 2, 3, 4, 1, 2), sit(2, 1, 1, 3, 3, 2),
    unsit(2, 1), result(1, 1, 1, [1, 620, 2, -100]), played(1, 2, 1, 4, 3, 1, 1, 9), passed(1, 1, 2),
    average(1, 2, 2, 60, 40), foul(1, 1, 1, 3), sit(3, 1, 5, 6), appeal(1, 1, 1), remove(1, 1, 1),
    ruling(1, 1, 1, [1, 50]), remove(1, 1, 1), adjust(6, -250), adjust(7, 1), result(1, 1, 1, []),
]
TOLD = [
    1, -3, 1, 0, 1, 0, 1, 0, 1, 0,
    1, 0, 1, 0, 2, 0, 100, 1, 0,
    1, 0, 1, 0, 1, -4, 1, 0, 1, -12,
    1, 0, 1, 0, 1, 0, 1, -5, 1, -1,
]


class Frozen(list):
    """A list that may be read, but not changed even for a while."""

    def refuse(self, *what, **more):
        raise AssertionError("what is handed in was changed")

    append = extend = insert = pop = remove = clear = sort = reverse = refuse
    __setitem__ = __delitem__ = __iadd__ = __imul__ = refuse


class Interface(unittest.TestCase):
    def test_flat_list_out(self):
        self.assertEqual(answers(line(STORY)), TOLD)

    def test_one_call(self):
        self.assertEqual(answers([0, 2, 1]), [1, 0])
        self.assertEqual(answers([0, 1, 1]), [1, -1])
        self.assertEqual(answers([2, 1, 1]), [1, -3])

    def test_whole_numbers_in_a_list(self):
        told = answers(line(STORY))
        self.assertIs(type(told), list)
        for number in told:
            self.assertIs(type(number), int)

    def test_list_handed_in_is_as_it_was(self):
        calls = line(STORY)
        before = list(calls)
        told = answers(calls)
        self.assertEqual(calls, before)
        self.assertIsNot(told, calls)

    def test_list_handed_in_is_not_changed_for_a_while_either(self):
        self.assertEqual(answers(Frozen(line(STORY))), TOLD)

    def test_what_is_given_back_may_be_changed(self):
        answers(line(STORY)).clear()
        self.assertEqual(answers(line(STORY)), TOLD)

    def test_same_list_twice(self):
        calls = line(STORY)
        self.assertEqual(answers(calls), answers(calls))

    def test_nothing_is_kept(self):
        answers(line([new(), sit(1, 1, 1, 2), passed(1, 1, 1), appeal(1, 1, 1)]))
        self.assertEqual(ask(adjust(1, 1)), [[-3]])
        self.assertEqual(ask(new(), passed(1, 1, 1), sit(1, 1, 1, 2)), [[0], [-11], [0]])

    def test_nothing_is_printed_read_or_imported(self):
        calls = line(STORY)
        out = io.StringIO()
        with contextlib.redirect_stdout(out), contextlib.redirect_stderr(out):
            with mock.patch.object(builtins, "open", side_effect=AssertionError), \
                    mock.patch.object(builtins, "input", side_effect=AssertionError), \
                    mock.patch.object(builtins, "__import__", side_effect=AssertionError):
                told = pairsevent.desk.answers(calls)
        self.assertEqual(told, TOLD)
        self.assertEqual(out.getvalue(), "")


class LongLine(unittest.TestCase):
    def test_400_calls(self):
        seated = round_robin(19)
        calls = [new()] + seated[:199] + [passed(*call[1:3], call[5]) for call in seated[:199]] + [unsit(1, 1)]
        self.assertEqual(len(calls), 400)
        self.assertEqual(answers(line(calls)), [1, 0] * 399 + [1, -4])

    def test_400_calls_with_the_longest_rows(self):
        calls = [result(40, 20, 40, [1000, -20000] * 10) for k in range(400)]
        self.assertEqual(answers(line(calls)), [1, -1] * 400)

    def test_400_events(self):
        self.assertEqual(answers(line([new()] * 400)), [1, 0] * 400)

    def test_400_contracts(self):
        calls = [new(), sit(1, 1, 1, 2, 1, 40)] + [played(1, 1, 1 + k % 40, 7, 4, 2, 0, 0) for k in range(398)]
        told = ask(*calls)
        self.assertEqual(told[:2], [[0], [0]])
        self.assertEqual(told[2], [0, -7000])
        self.assertEqual(told[3], [0, -7600])
        self.assertEqual(len(told), 400)


if __name__ == "__main__":
    unittest.main()
