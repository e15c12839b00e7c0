"""The form of calls and answers, and what's so of every call (C6, the interface)."""

import unittest

import barfigures.desk
from helper import PRINT, answer_all, figures, held, item, point, take

SMALL = "pin A 0 0\ncrank B A 1\n"
LOOSE = "pin A 0 0\npin B 4 0\ncrank C A 4\ndyad D C 3 B 3\n"


class Form(unittest.TestCase):
    def check(self, calls, expected):
        before = list(calls)
        found = barfigures.desk.answers(calls)
        self.assertEqual(found, expected)
        self.assertEqual(calls, before)
        self.assertIs(type(found), list)
        self.assertEqual({type(number) for number in found} - {int}, set())

    def test_no_calls(self):
        self.check([], [])

    def test_each_call(self):
        text = list(SMALL.encode())
        start = [0, len(text)] + text
        self.check(start, [1, 2])
        self.check(start + [1], [1, 2, 2 + len(text), len(text), len(text)] + text)
        self.check(start + [2, 1], [1, 2, 6, 0, 4, 1, 0, 1, 0])
        self.check(start + [3, 0, 1], [1, 2, 1, 1])
        self.check(start + [4, 1, 1], [1, 2, 4, 1, 1, 0, 0])
        self.check(start + [5, 0, 1, 0, 1, 0], [1, 2, 4, 0, 2, 0x3FF0000000000000, 0])
        self.check(start + [5, 1, 0, 0, 1, 0], [1, 2, 4, 0, 2, 0xBFF0000000000000, 0])

    def test_lists_of_several(self):
        text = list(LOOSE.encode())
        self.check([0, len(text)] + text + [4, 0, 1, 4, 1, 1], [1, 4, 5, 0, 0, 2, 0, 1, 5, 2, 2, 0, 1, 0])

    def test_refusals(self):
        text = list(LOOSE.encode())
        self.check([0, 0], [3, -6, 1, 0])
        self.check([0, 2, 112, 112], [3, -6, 1, 1])
        self.check([0, 2049] + [0] * 2049, [1, -2])
        self.check([0, len(text)] + text + [2, 4, 3, 0, 4, 4, 0, 0], [1, 4, 1, -4, 1, -4, 1, -1])
        self.check([0, len(text)] + text + [5, 0, 0, 0, 0, 0, 5, 1, 1, 0, 4, 0, 5, 0, 1, 0, 0, 0],
                   [1, 4, 1, -1, 1, -4, 1, -3])

    def test_many_calls(self):
        self.check(take(SMALL) + [3, 0, 1] * 399, [1, 2] + [1, 1] * 399)


class WithoutALinkage(unittest.TestCase):
    def test_every_call_but_take(self):
        big = 2 ** 63 - 1
        calls = [PRINT, item(0), item(big), held(0, 0), held(big, big), figures(1, 1), figures(0, 0),
                 figures(big, -big), point(1, 1, 0, 0, 0), point(0, 0, big, big, big)]
        self.assertEqual(answer_all(*calls), [[-9]] * len(calls))
        self.assertEqual(answer_all(take("x"), *calls)[1:], [[-9]] * len(calls))


class NothingIsKept(unittest.TestCase):
    def test_from_one_list_to_the_next(self):
        self.assertEqual(answer_all(take(SMALL), PRINT)[0], [2])
        self.assertEqual(answer_all(PRINT), [[-9]])

    def test_questions_change_nothing(self):
        questions = [PRINT, item(3), item(99), held(0, 3), figures(1, 1), figures(0, 1), figures(0, 0),
                     point(1, 1, 1, 3, 2), point(0, 1, 1, 3, 2)]
        answers = answer_all(take(LOOSE), *questions, *questions)
        self.assertEqual(answers[1:1 + len(questions)], answers[1 + len(questions):])

    def test_the_newest_linkage_counts(self):
        answers = answer_all(take(SMALL), figures(0, 1), take(LOOSE), figures(0, 1), take(SMALL), figures(0, 1))
        self.assertEqual(answers[1], [1, 1, 0, 0])
        self.assertEqual(answers[3], [0, 0, 2, 0, 1])
        self.assertEqual(answers[5], [1, 1, 0, 0])


if __name__ == "__main__":
    unittest.main()
