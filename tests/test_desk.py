"""The form of calls and answers, and what's so of every call (C6, the interface)."""

import unittest

import barfigures.desk
from helper import MIRROR, PRINT, alike, answer_all, far, figures, held, item, point, side, take, way

SMALL = "pin A 0 0\ncrank B A 1\n"
# At (1, 1) D's way to A leads down to the left.
LEFT_DOWN = 20
LOOSE = "pin A 0 0\npin B 4 0\ncrank C A 4\ndyad D C 3 B 3\n"


class Form(unittest.TestCase):
    def check(self, calls, expected):
        before = list(calls)
        found = barfigures.desk.answers(calls)
        self.assertEqual(found, expected)
        self.assertEqual(calls, before)
        self.assertIs(type(found), list)
        self.assertEqual({type(number) for number in found} - {int}, set())

    def test_no_calls(self):
        self.check([], [])

    def test_each_call(self):
        text = list(SMALL.encode())
        start = [0, len(text)] + text
        self.check(start, [1, 2])
        self.check(start + [1], [1, 2, 2 + len(text), len(text), len(text)] + text)
        self.check(start + [2, 1], [1, 2, 6, 0, 4, 1, 0, 1, 0])
        self.check(start + [3, 0, 1], [1, 2, 1, 1])
        self.check(start + [4, 1, 1], [1, 2, 4, 1, 1, 0, 0])
        self.check(start + [5, 0, 1, 0, 1, 0], [1, 2, 4, 0, 2, 0x3FF0000000000000, 0])
        self.check(start + [5, 1, 0, 0, 1, 0], [1, 2, 4, 0, 2, 0xBFF0000000000000, 0])
        self.check(start + [6, 1, 1, 0, 0, 1, 2], [1, 2, 1, 0])
        self.check(start + [7, 1, 1, 0, 0, 1, 1, 0], [1, 2, 1, 1])
        self.check(start + [8, 1, 1, 0, 0, 1, 1], [1, 2, 1, 1])
        self.check(start + [9, 1, 1, 0, 0, 1, 5], [1, 2, 3, 0, 1, 8])
        self.check(start + [10], [1, 2, 1, 2])

    def test_lists_of_several(self):
        text = list(LOOSE.encode())
        self.check([0, len(text)] + text + [4, 0, 1, 4, 1, 1], [1, 4, 5, 0, 0, 2, 0, 1, 5, 2, 2, 0, 1, 0])

    def test_refusals(self):
        text = list(LOOSE.encode())
        self.check([0, 0], [3, -6, 1, 0])
        self.check([0, 2, 112, 112], [3, -6, 1, 1])
        self.check([0, 2049] + [0] * 2049, [1, -2])
        self.check([0, len(text)] + text + [2, 4, 3, 0, 4, 4, 0, 0], [1, 4, 1, -4, 1, -4, 1, -1])
        self.check([0, len(text)] + text + [5, 0, 0, 0, 0, 0, 5, 1, 1, 0, 4, 0, 5, 0, 1, 0, 0, 0],
                   [1, 4, 1, -1, 1, -4, 1, -3])
        self.check([0, len(text)] + text + [9, 1, 1, 0, 0, 0, 1, 9, 1, 1, 0, 0, 0, 6, 8, 1, 1, 4, 0, 1, 2],
                   [1, 4, 1, -5, 1, -1, 1, -3])
        self.check([10, 6, 1, 1, 0, 0, 0, 0, 7, 1, 1, 0, 0, 0, 0, 0, 8, 1, 1, 0, 0, 0, 0, 9, 1, 1, 0, 0, 0, 1],
                   [1, -9] * 5)

    def test_many_calls(self):
        self.check(take(SMALL) + [3, 0, 1] * 399, [1, 2] + [1, 1] * 399)
        self.check(take(SMALL) + [10] * 399, [1, 2] + [1, 2] * 399)
        self.check(take(LOOSE) + [9, 1, 1, 0, 3, 0, 5] * 399, [1, 4] + [3, 0, 1, LEFT_DOWN] * 399)


class EveryKind(unittest.TestCase):
    """All eleven kinds of calls in one list, take after take."""

    text = list(b"pin A 0 0\npin B 6 1\npin G 6 0\ncrank C A 5\ndyad D A 5 G 5\nrider R A D 1/5 2/5\n")
    mirrored = list(b"pin A 0 0\npin B 6 -1\npin G 6 0\ncrank C A 5\ndyad D A 5 G 5\nrider R A D 1/5 -2/5\n")
    # At (1, 2) the crank's pin is at (3, 4), and there is D on side 0: R is at (-1, 2).
    one, two, minus_one = 0x3FF0000000000000, 0x4000000000000000, 0xBFF0000000000000
    # Before and after mirror, with its place and its side; the answers of figures to way.
    questions = [2, 5, 3, 0, 5, 3, 1, 5, 4, 1, 2, 5, 1, 2, 0, 5, 0, 6, 1, 2, 0, 1, 4, 4, 7, 1, 2, 0, 3, 0, 4, 2,
                 8, 1, 2, 0, 0, 1, 4, 9, 1, 2, 0, 0, 5, 4]
    replies = [6, 0, 4, 3, 0, 4, 1, 1, 1, 1, 0, 5, 2, 2, 0, 1, 0, 4, 0, 2, minus_one, two, 1, 2, 1, 1,
               1, 2, 3, 0, 1, 5]
    mirrored_questions = [2, 5, 3, 0, 5, 3, 1, 5, 4, -1, 2, 5, -1, 2, 1, 5, 0, 6, -1, 2, 1, 1, 4, 4,
                          7, -1, 2, 1, 3, 0, 4, 2, 8, -1, 2, 1, 0, 1, 4, 9, -1, 2, 1, 0, 5, 4]
    mirrored_replies = [6, 0, 4, 3, 0, 4, 1, 1, 1, 1, 0, 5, 2, 2, 0, 1, 0, 4, 0, 2, minus_one, two + (1 << 63), 1, 2,
                        1, 1, 1, 0, 3, 0, 1, 10]

    def test_all(self):
        small = list(SMALL.encode())
        length, longer = len(self.text), len(self.mirrored)
        calls = [1, 10, 0, length] + self.text + [1] + self.questions
        expected = [1, -9, 1, -9, 1, 6, 2 + length, length, length] + self.text + self.replies
        calls += [10, 1] + self.mirrored_questions
        expected += [1, 6, 2 + longer, longer, longer] + self.mirrored + self.mirrored_replies
        calls += [0, 1, 120, 10, 1] + self.questions
        expected += [3, -6, 1, 0, 1, 6, 2 + length, length, length] + self.text + self.replies
        calls += [0, len(small)] + small + [1, 4, 1, 2, 10, 1, 2, 5]
        expected += [1, 2, 2 + len(small), len(small), len(small)] + small + [4, 1, 1, 0, 0, 1, 2]
        expected += [2 + len(small), len(small), len(small)] + small + [1, -4]
        before = list(calls)
        for _ in range(2):
            self.assertEqual(barfigures.desk.answers(calls), expected)
            self.assertEqual(calls, before)


class WithoutALinkage(unittest.TestCase):
    def test_every_call_but_take(self):
        big = 2 ** 63 - 1
        calls = [PRINT, item(0), item(big), held(0, 0), held(big, big), figures(1, 1), figures(0, 0),
                 figures(big, -big), point(1, 1, 0, 0, 0), point(0, 0, big, big, big), far(1, 1, 0, 0, 0, 0),
                 far(0, 0, big, big, big, big), alike(1, 1, 0, 0, 0, 0, 0), alike(0, 0, big, big, big, big, big),
                 side(1, 1, 0, 0, 0, 0), side(0, 0, big, big, big, big), way(1, 1, 0, 0, 0, 1),
                 way(0, 0, big, big, big, big), MIRROR]
        self.assertEqual(answer_all(*calls), [[-9]] * len(calls))
        self.assertEqual(answer_all(take("x"), *calls)[1:], [[-9]] * len(calls))


class NothingIsKept(unittest.TestCase):
    def test_from_one_list_to_the_next(self):
        self.assertEqual(answer_all(take(SMALL), PRINT)[0], [2])
        self.assertEqual(answer_all(PRINT), [[-9]])

    def test_questions_change_nothing(self):
        questions = [PRINT, item(3), item(99), held(0, 3), figures(1, 1), figures(0, 1), figures(0, 0),
                     point(1, 1, 1, 3, 2), point(0, 1, 1, 3, 2), far(1, 1, 1, 3, 2, 3), alike(1, 1, 1, 3, 2, 1, 0),
                     side(1, 1, 1, 3, 2, 0), way(1, 1, 1, 3, 2, 5), way(1, 1, 1, 3, 3, 5), way(0, 1, 1, 3, 2, 5)]
        answers = answer_all(take(LOOSE), *questions, *questions)
        self.assertEqual(answers[1:1 + len(questions)], answers[1 + len(questions):])

    def test_the_newest_linkage_counts(self):
        answers = answer_all(take(SMALL), figures(0, 1), take(LOOSE), figures(0, 1), take(SMALL), figures(0, 1))
        self.assertEqual(answers[1], [1, 1, 0, 0])
        self.assertEqual(answers[3], [0, 0, 2, 0, 1])
        self.assertEqual(answers[5], [1, 1, 0, 0])


if __name__ == "__main__":
    unittest.main()
