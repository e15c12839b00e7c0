"""The refusals of all calls of a figure: which, and in which order (C6)."""

import unittest

from helper import MIRROR, PRINT, alike, answer_all, answer_last, far, figures, held, item, point, side, take, way

BIG = 2 ** 63 - 1
# D's circles cross at (0, 1), touch at no place, and miss at (1, 0); there are lines 0 to 3.
TEXT = "pin A 0 0\npin B 4 0\ncrank C A 1\ndyad D C 2 B 2\n"
TOUCHING = "pin A 0 0\npin B 4 0\ncrank C A 1\ndyad D C 1 B 2\n"
LOOSE = "pin A 0 0\npin B 4 0\ncrank C A 4\ndyad D C 3 B 3\n"
NO_PLACES = ((0, 0), (100, 1), (1, 100), (-100, 1), (1, -100), (BIG, 1), (1, -BIG), (-BIG, BIG))
NO_SIDES = (2, 3, 4, 2 ** 32, 2 ** 62, BIG - 1, BIG)


class Kind:
    """A call of a figure: how many lines it has, and the numbers behind these that are let and that aren't."""

    def __init__(self, build, lines, fit=(), unfit=()):
        self.build = build
        self.lines = lines
        self.fit = fit
        self.unfit = unfit

    def call(self, place, sides, lines=None, last=None):
        lines = [0, 3, 1, 2][:self.lines] if lines is None else lines
        behind = list(self.fit[:1]) if last is None else [last]
        return self.build(*place, sides, *lines, *behind)


KINDS = (Kind(point, 1, (0, 1, 2, 3), (4, 5, BIG)), Kind(far, 2, (3, 0, BIG)), Kind(alike, 4), Kind(side, 3),
         Kind(way, 2, (1, 2, 3, 4, 5), (0, 6, BIG)))


class OfAFigure(unittest.TestCase):
    def check(self, text, expected, calls):
        answers = answer_all(take(text), PRINT, *calls, PRINT)
        for call, answer in zip(calls, answers[2:-1], strict=True):
            self.assertEqual(answer, [expected], call)
        self.assertEqual(answers[1], answers[-1])

    def lines_with(self, kind, line):
        """The line in each place, and in all."""
        for k in range(kind.lines):
            yield [line if k == at else 0 for at in range(kind.lines)]
        yield [line] * kind.lines

    def test_what_is_let(self):
        for kind in KINDS:
            for last in kind.fit or (None,):
                for sides in (0, 1):
                    answer = answer_last(take(TEXT), kind.call((0, 1), sides, last=last))
                    self.assertGreaterEqual(answer[0], 0, (kind.build, last))

    def test_no_linkage_before_all_else(self):
        calls = [kind.call(place, sides, [line] * kind.lines, last) for kind in KINDS
                 for place, sides, line, last in (((0, 1), 0, 0, None), ((0, 0), BIG, BIG, None))]
        calls += [kind.call((0, 0), BIG, [BIG] * kind.lines, last) for kind in KINDS for last in kind.unfit]
        self.assertEqual(answer_all(*calls), [[-9]] * len(calls))
        self.assertEqual(answer_all(take(TEXT[:-1]), *calls)[1:], [[-9]] * len(calls))

    def test_no_place(self):
        for kind in KINDS:
            self.check(TEXT, -1, [kind.call(place, 0) for place in NO_PLACES])

    def test_no_place_before_the_rest(self):
        for kind in KINDS:
            self.check(TEXT, -1, [kind.call(place, 0, [4] * kind.lines) for place in NO_PLACES])
            self.check(TEXT, -1, [kind.call(place, sides) for place in NO_PLACES for sides in NO_SIDES])
            self.check(TEXT, -1, [kind.call((0, 0), BIG, lines) for lines in self.lines_with(kind, BIG)])

    def test_the_last_number_before_the_rest(self):
        for kind in KINDS:
            for last in kind.unfit:
                self.check(TEXT, -1, [kind.call((0, 1), sides, lines, last) for sides in (0, 2, BIG)
                                      for lines in self.lines_with(kind, 4)])
                self.check(TEXT, -1, [kind.call((0, 1), 0, last=last), kind.call((1, 0), 0, last=last)])

    def test_no_such_line(self):
        for kind in KINDS:
            for line in (4, 5, 24, BIG):
                self.check(TEXT, -4, [kind.call((0, 1), 0, lines) for lines in self.lines_with(kind, line)])

    def test_no_such_line_before_sides(self):
        for kind in KINDS:
            for sides in NO_SIDES:
                self.check(TEXT, -4, [kind.call((0, 1), sides, lines) for lines in self.lines_with(kind, 4)])
            self.check(TEXT, -4, [kind.call((1, 0), 0, lines) for lines in self.lines_with(kind, 4)])
            self.check(LOOSE, -4, [kind.call((0, 1), 0, lines) for lines in self.lines_with(kind, 4)])

    def test_sides_that_do_not_close(self):
        for kind in KINDS:
            self.check(TEXT, -3, [kind.call((0, 1), sides) for sides in NO_SIDES])
            self.check(TEXT, -3, [kind.call((1, 0), sides) for sides in (0, 1) + NO_SIDES])
            self.check(LOOSE, -3, [kind.call((0, 1), sides) for sides in (0, 1) + NO_SIDES])
            self.check(TEXT[:TEXT.index("dyad")], -3, [kind.call((0, 1), sides, [0] * kind.lines)
                                                       for sides in (1,) + NO_SIDES])

    def test_sides_that_do_not_close_where_circles_touch(self):
        for kind in KINDS:
            self.check(TOUCHING, -3, [kind.call((0, 1), sides) for sides in NO_SIDES])

    def test_sides_that_close_but_are_not_told(self):
        self.assertEqual(answer_last(take(TOUCHING), figures(0, 1)), [1, 1, 0, 0])
        for kind in KINDS:
            for last in kind.fit or (None,):
                answers = answer_all(take(TOUCHING), *[kind.call((0, 1), sides, last=last) for sides in (0, 1)])[1:]
                self.assertEqual(answers[0], answers[1])
                self.assertGreaterEqual(answers[0][0], 0)

    def test_one_point_behind_all_else(self):
        self.check(TEXT, -5, [way(0, 1, sides, i, i, m) for sides in (0, 1) for i in range(4) for m in (1, 5)])
        self.check(TEXT, -3, [way(0, 1, 2, 0, 0, 1), way(1, 0, 0, 3, 3, 5)])
        self.check(TEXT, -4, [way(0, 1, 0, 4, 4, 1)])
        self.check(TEXT, -1, [way(0, 1, 0, 0, 0, 0), way(0, 1, 0, 0, 0, 6), way(0, 0, 0, 0, 0, 1)])


class OfTheOthers(unittest.TestCase):
    def check(self, expected, *calls):
        answers = answer_all(take(TEXT), PRINT, *calls, PRINT)
        self.assertEqual(answers[2:-1], [[expected]] * len(calls))
        self.assertEqual(answers[1], answers[-1])

    def test_no_linkage(self):
        calls = [PRINT, item(0), item(BIG), held(0, 0), held(BIG, 0), figures(1, 1), figures(0, 0), MIRROR]
        self.assertEqual(answer_all(*calls), [[-9]] * len(calls))

    def test_no_place(self):
        self.check(-1, *[figures(*place) for place in NO_PLACES])

    def test_no_such_line(self):
        self.check(-4, item(4), item(BIG), held(4, 0), held(0, 4), held(BIG, BIG), held(3, BIG))


if __name__ == "__main__":
    unittest.main()
