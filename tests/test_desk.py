"""The interface: one flat list in, one flat list out, and nothing else."""

import builtins
import contextlib
import io
import pathlib
import unittest
from unittest import mock

import pairsevent.desk
from pairsevent.desk import answers
from tests.helper import adjust, appeal, appeals, ask, average, changes, foul, line, met, missing, mitchell, new, passed
from tests.helper import played, post, posted, remove, result, round_robin, ruling, score, sheet, sit, sittings
from tests.helper import standings, total, unsit
from tests.model import model_answers

STORY = [
    passed(1, 1, 1), new(6, 8), sit(1, 1, 1, 2, 1, 2), sit(1, 2, 3, 4, 1, 2), sit(2, 1, 1, 3, 3, 2),
    unsit(2, 1), result(1, 1, 1, [1, 620, 2, -100]), played(1, 2, 1, 4, 3, 1, 1, 9), passed(1, 1, 2),
    average(1, 2, 2, 60, 40), foul(1, 1, 1, 3), sit(3, 1, 5, 6), appeal(1, 1, 1), remove(1, 1, 1),
    ruling(1, 1, 1, [1, 50]), remove(1, 1, 1), adjust(6, -250), adjust(7, 1), result(1, 1, 1, []),
    total(1), total(6), standings(), post(),
    posted(1), posted(2), score(1, 4), score(2, 3),
    sheet(2), sheet(3), met(2, 1), sittings(3),
    missing(), changes(), appeals(), total(41),
]
TOLD = [
    1, -3, 1, 0, 1, 0, 1, 0, 1, 0,
    1, 0, 1, 0, 2, 0, 100, 1, 0,
    1, 0, 1, 0, 1, -4, 1, 0, 1, -12,
    1, 0, 1, 0, 1, 0, 1, -5, 1, -1,
    5, 0, 1, 1, 2, 5000, 4, 0, -5, 2, 0, 13, 0, 1, 3, 6000, 2, 1, 5000, 2, 2, 5000, 4, 4, 4000, 2, 0, 1,
    13, 0, 1, 3, 6000, 2, 1, 5000, 2, 2, 5000, 4, 4, 4000, 1, -15, 3, 0, 0, 1, 3, 0, 6, 5,
    11, 0, 1, 2, 0, 1, 1, 3, 4, 0, 6, 5, 1, 0, 3, 0, 1, 1, 7, 0, 1, 2, 0, 4, 1, 2,
    4, 0, 1, 1, 1, 2, 0, 8, 1, 0, 1, -1,
]


class Frozen(list):
    """A list that may be read, but not changed even for a while."""

    def refuse(self, *what, **more):
        raise AssertionError("what is handed in was changed")

    append = extend = insert = pop = remove = clear = sort = reverse = refuse
    __setitem__ = __delitem__ = __iadd__ = __imul__ = refuse


class Interface(unittest.TestCase):
    def test_flat_list_out(self):
        self.assertEqual(answers(line(STORY)), TOLD)

    def test_one_call(self):
        self.assertEqual(answers([0, 2, 1]), [1, 0])
        self.assertEqual(answers([0, 1, 1]), [1, -1])
        self.assertEqual(answers([2, 1, 1]), [1, -3])

    def test_whole_numbers_in_a_list(self):
        told = answers(line(STORY))
        self.assertIs(type(told), list)
        for number in told:
            self.assertIs(type(number), int)

    def test_list_handed_in_is_as_it_was(self):
        calls = line(STORY)
        before = list(calls)
        told = answers(calls)
        self.assertEqual(calls, before)
        self.assertIsNot(told, calls)

    def test_list_handed_in_is_not_changed_for_a_while_either(self):
        self.assertEqual(answers(Frozen(line(STORY))), TOLD)

    def test_what_is_given_back_may_be_changed(self):
        answers(line(STORY)).clear()
        self.assertEqual(answers(line(STORY)), TOLD)

    def test_same_list_twice(self):
        calls = line(STORY)
        self.assertEqual(answers(calls), answers(calls))

    def test_nothing_is_kept(self):
        answers(line([new(), sit(1, 1, 1, 2), passed(1, 1, 1), appeal(1, 1, 1)]))
        self.assertEqual(ask(adjust(1, 1)), [[-3]])
        answers(line([new(), adjust(1, 7), post()]))
        self.assertEqual(ask(posted(1), standings(), changes()), [[-3], [-3], [-3]])
        self.assertEqual(ask(new(), posted(1), post(), changes(), total(1)), [[0], [-15], [0, 1], [0, 0], [0, 0, 1, 0]])
        self.assertEqual(ask(new(), passed(1, 1, 1), sit(1, 1, 1, 2)), [[0], [-11], [0]])

    def test_nothing_is_printed_read_or_imported(self):
        calls = line(STORY)
        out = io.StringIO()
        with contextlib.redirect_stdout(out), contextlib.redirect_stderr(out):
            with mock.patch.object(builtins, "open", side_effect=AssertionError), \
                    mock.patch.object(builtins, "input", side_effect=AssertionError), \
                    mock.patch.object(builtins, "__import__", side_effect=AssertionError):
                told = pairsevent.desk.answers(calls)
        self.assertEqual(told, TOLD)
        self.assertEqual(out.getvalue(), "")


class Readme(unittest.TestCase):
    def test_example(self):
        text = (pathlib.Path(__file__).parent.parent / "README.md").read_text(encoding="utf-8")
        example, told = text.split("```python\n")[1].split("```")[0].split("\n\nanswers(")[1].split(")\n# ")
        self.assertEqual(answers(eval(example)), eval(told))


class LongLine(unittest.TestCase):
    def test_400_calls(self):
        seated = round_robin(19)
        calls = [new()] + seated[:199] + [passed(*call[1:3], call[5]) for call in seated[:199]] + [unsit(1, 1)]
        self.assertEqual(len(calls), 400)
        self.assertEqual(answers(line(calls)), [1, 0] * 399 + [1, -4])

    def test_400_calls_of_a_large_event(self):
        seated = [new()] + mitchell(20, 1, 9)
        entered = [result(1, t, b, [1 + t * b % 7, 10 * (t * b % 13), b, 60])
                   for t in range(1, 21) for b in range(1, 10)]
        calls = seated + entered + [total(1), sheet(9), standings()]
        calls += [post()] * 50 + [posted(50)] + [standings()] * 145
        self.assertEqual(len(calls), 400)
        told = ask(*calls)
        expected = model_answers(calls[:204])
        self.assertEqual(told[:204], expected)
        self.assertEqual(len(expected[-1]), 1 + 3 * 40)
        self.assertEqual(told[204:254], [[0, k] for k in range(1, 51)])
        self.assertEqual(told[254:], [expected[-1]] * 146)

    def test_400_calls_that_ask(self):
        for call in (total(40), standings(), post(), posted(50), score(40, 40), sheet(40), met(1, 40), sittings(40),
                     missing(), changes(), appeals()):
            self.assertEqual(answers(line([call] * 400)), [1, -3] * 400)

    def test_400_calls_with_the_longest_rows(self):
        calls = [result(40, 20, 40, [1000, -20000] * 10) for k in range(400)]
        self.assertEqual(answers(line(calls)), [1, -1] * 400)

    def test_400_calls_with_the_heaviest_rows(self):
        calls = [new()] + mitchell(20, 1, 19)
        calls += [result(1, t, b, [1000, t, 1000 - t, b, 1000 - b, 20000, 999, -20000])
                  for b in range(1, 20) for t in range(1, 21)][:378]
        calls += [standings()]
        self.assertEqual(len(calls), 400)
        told = ask(*calls)
        self.assertEqual(told[:399], [[0]] * 399)
        self.assertEqual(sorted(told[399][2::3]), list(range(1, 41)))
        self.assertEqual(answers(line(calls)), answers(line(calls)))

    def test_400_events(self):
        self.assertEqual(answers(line([new()] * 400)), [1, 0] * 400)

    def test_400_contracts(self):
        calls = [new(), sit(1, 1, 1, 2, 1, 40)] + [played(1, 1, 1 + k % 40, 7, 4, 2, 0, 0) for k in range(398)]
        told = ask(*calls)
        self.assertEqual(told[:2], [[0], [0]])
        self.assertEqual(told[2], [0, -7000])
        self.assertEqual(told[3], [0, -7600])
        self.assertEqual(len(told), 400)


if __name__ == "__main__":
    unittest.main()
