"""mirror: the mirrored linkage's own text, and its figures at mirrored places (C1, C2, C3, C5)."""

import random
import unittest

from helper import (MIRROR, PRINT, Sketch, alike, answer_all, answer_last, far, figures, held, item, lines_of, point,
                    side, take, told, way)
from test_figures import random_linkage

SIGN = 1 << 63

TEXT = ("pin A 0 0\npin B 7 12\npin B1 -7 -12\npin C 999 999\npin C2 -999 -999\npin C3 3 -1\n"
        "crank D A 5\ndyad E D 6 B 9\nrider R A B 1 2\nrider R1 A B 1 -2\nrider R2 B A -1 0\n"
        "rider R3 D E 1/2 2/3\nrider R4 E D -1/2 -2/3\nrider R5 B1 C3 -7/20 999/20\nrider R6 A D 999 -999\n")
MIRRORED = ("pin A 0 0\npin B 7 -12\npin B1 -7 12\npin C 999 -999\npin C2 -999 999\npin C3 3 1\n"
            "crank D A 5\ndyad E D 6 B 9\nrider R A B 1 -2\nrider R1 A B 1 2\nrider R2 B A -1 0\n"
            "rider R3 D E 1/2 -2/3\nrider R4 E D -1/2 2/3\nrider R5 B1 C3 -7/20 -999/20\nrider R6 A D 999 999\n")
# D's circles touch at (0, 1) and at (0, -1).
TOUCHING = "pin A 0 0\npin B 4 0\npin H 3 3\ncrank C A 1\ndyad D C 1 B 2\ndyad E D 3 H 3\ndyad F E 4 C 4\n"


def mirrored(text):
    """The text that print tells behind mirror."""
    return bytes(answer_last(take(text), MIRROR, PRINT)[2:]).decode()


class Text(unittest.TestCase):
    def check(self, text, expected):
        numbers = list(expected.encode())
        answers = answer_all(take(text), MIRROR, PRINT)
        self.assertEqual(answers[1:], [[text.count("\n")], [len(numbers), len(numbers)] + numbers])
        self.assertEqual(answer_last(take(expected)), [expected.count("\n")])

    def test_pins_and_riders(self):
        self.check(TEXT, MIRRORED)
        self.check(MIRRORED, TEXT)

    def test_one_line_of_each(self):
        start = "pin A 0 0\ncrank B A 9\n"
        self.check(start, start)
        for word, other in (("5", "-5"), ("10", "-10"), ("999", "-999"), ("1", "-1")):
            self.check(start + f"pin P {word} {word}\n", start + f"pin P {word} {other}\n")
            self.check(start + f"pin P {other} {other}\n", start + f"pin P {other} {word}\n")
        self.check(start + "pin P 5 0\n", start + "pin P 5 0\n")
        self.check(start + "pin P -5 0\n", start + "pin P -5 0\n")
        for word, other in (("5", "-5"), ("1/2", "-1/2"), ("999/20", "-999/20"), ("10", "-10"), ("0", "0")):
            for along in ("0", "1/2", "-1/2", "-7"):
                self.check(start + f"rider P A B {along} {word}\n", start + f"rider P A B {along} {other}\n")
                self.check(start + f"rider P A B {along} {other}\n", start + f"rider P A B {along} {word}\n")

    def test_lengths_and_names_stay(self):
        text = "pin Z99 1 0\npin Z 2 0\ncrank Z1 Z99 999\ndyad Z2 Z1 1 Z 999\ndyad Z3 Z1 12 Z2 10\n"
        self.check(text, text)

    def test_twice(self):
        for text in (TEXT, MIRRORED, TOUCHING):
            answers = answer_all(take(text), MIRROR, MIRROR, PRINT)
            self.assertEqual(answers[2], [text.count("\n")])
            self.assertEqual(answers[3][2:], list(text.encode()))
            self.assertEqual(mirrored(mirrored(text)), text)

    def test_the_longest_text(self):
        text = "pin A10 -100 -100\npin B10 -999 -999\ncrank C10 A10 999\n"
        text += "".join(f"rider D{k} A10 B10 -999/20 999/20\n" for k in range(10, 31))
        self.assertEqual(text.count("\n"), 24)
        self.check(text, text.replace(" -100\n", " 100\n").replace(" -999\n", " 999\n").replace(" 999/", " -999/"))


class Afterwards(unittest.TestCase):
    """A linkage that was mirrored is just like one that was taken."""

    def questions(self, text, place):
        lines = range(text.count("\n"))
        some = list(lines)[-4:]
        return ([PRINT, figures(*place), figures(0, 0)] + [item(i) for i in range(len(lines) + 1)]
                + [held(i, j) for i in lines for j in some]
                + [point(*place, sides, i, mode) for sides in (0, 1, 2) for i in some for mode in (0, 1, 4)]
                + [far(*place, sides, i, 0, 5) for sides in (0, 1, 2) for i in some]
                + [alike(*place, 0, i, 0, i, 1) for i in some]
                + [side(*place, 0, i, 0, 1) for i in some] + [way(*place, 0, i, 0, 5) for i in some])

    def test_as_if_its_text_was_taken(self):
        for text in (TEXT, MIRRORED, TOUCHING):
            for place in ((1, 2), (0, 1), (-3, 7)):
                questions = self.questions(text, place)
                after = answer_all(take(text), MIRROR, *questions)[2:]
                self.assertEqual(after, answer_all(take(mirrored(text)), *questions)[1:])
                twice = answer_all(take(text), MIRROR, MIRROR, *questions)[3:]
                self.assertEqual(twice, answer_all(take(text), *questions)[1:])

    def test_items_and_pieces_stay(self):
        lines = range(TEXT.count("\n"))
        questions = [item(i) for i in lines] + [held(i, j) for i in lines for j in lines]
        before_and_after = answer_all(take(TEXT), *questions, MIRROR, *questions)[1:]
        self.assertEqual(before_and_after[:len(questions)], before_and_after[len(questions) + 1:])

    def test_a_take_behind_it(self):
        answers = answer_all(take(TEXT), MIRROR, take(TOUCHING), PRINT, take("x"), MIRROR, PRINT)
        self.assertEqual(answers[3][2:], list(TOUCHING.encode()))
        self.assertEqual(answers[4], [-6, 1, 0])
        self.assertEqual(answers[6][2:], list(TOUCHING.replace("H 3 3", "H 3 -3").encode()))


class WithoutALinkage(unittest.TestCase):
    def test_it_refuses(self):
        self.assertEqual(answer_all(MIRROR, PRINT, MIRROR), [[-9], [-9], [-9]])
        self.assertEqual(answer_all(take("pin"), MIRROR, PRINT), [[-6, 1, 3], [-9], [-9]])

    def test_nothing_is_changed_by_that(self):
        answers = answer_all(MIRROR, take(TEXT), PRINT)
        self.assertEqual(answers[1:], [[TEXT.count("\n")], [len(TEXT), len(TEXT)] + list(TEXT.encode())])


class MirroredFigures(unittest.TestCase):
    """At (-a, b) what's told of the mirrored linkage is what was told at (a, b), left and right changed."""

    def check(self, chance, text, a, b):
        dyads = text.count("dyad")
        every = (1 << dyads) - 1
        old_told, old_loose = told(text, a, b)
        sketches = {sides: Sketch(text, a, b, sides) for sides in old_told}
        new_told, new_loose = told(mirrored(text), -a, b)
        changed = [sides ^ every & ~sum(1 << k for k in sketches[sides].touching) for sides in old_told]
        self.assertEqual(new_told, sorted(changed), (text, a, b))
        self.assertEqual(new_loose, sorted(sides ^ every for sides in old_loose), (text, a, b))
        for old, new in zip(old_told, changed):
            for mode in range(4):
                self.check_points(text, a, b, old, new, mode)
            self.check_measures(chance, sketches[old], text, a, b, old, new)

    def check_points(self, text, a, b, old, new, mode):
        lines = range(text.count("\n"))
        # What isn't above a number isn't below its counterpart.
        mirrored_mode = {1: 2, 2: 1}.get(mode, mode)
        before = answer_all(take(text), *[point(a, b, old, i, mode) for i in lines])[1:]
        before_y = answer_all(take(text), *[point(a, b, old, i, mirrored_mode) for i in lines])[1:]
        after = answer_all(take(text), MIRROR, *[point(-a, b, new, i, mode) for i in lines])[2:]
        expected = [[0, 2, x[2], y[3] and y[3] ^ SIGN] for x, y in zip(before, before_y)]
        self.assertEqual(after, expected, (text, a, b, old, new, mode))

    def check_measures(self, chance, sketch, text, a, b, old, new):
        count = text.count("\n")
        for m in range(1, 6):
            i, j, k, l = (chance.randrange(count) for _ in range(4))
            asked = [(far, (i, j, 3)), (alike, (i, j, k, l)), (side, (i, j, k)), (way, (i, j, m))]
            before = answer_all(take(text), *[call(a, b, old, *numbers) for call, numbers in asked])[1:]
            after = answer_all(take(text), MIRROR, *[call(-a, b, new, *numbers) for call, numbers in asked])[2:]
            self.assertEqual(after[:2], before[:2])
            self.assertEqual(after[2], [2 - before[2][0]])
            expected = before[3]
            if expected != [-5]:
                parts, along_border = sketch.parts_of_turn(i, j, m)
                self.assertEqual(expected, [0, 1, parts])
                expected = [0, 1, (-parts if along_border else -parts - 1) % (1 << m)]
            self.assertEqual(after[3], expected, (text, a, b, old, new, i, j, m))

    def test_touching(self):
        for place in ((0, 1), (0, -7)):
            self.check(random.Random(10), TOUCHING, *place)
        self.assertEqual(told(TOUCHING, 0, 1)[0], [0, 2, 4, 6])
        self.assertEqual(told(mirrored(TOUCHING), 0, 1)[0], [0, 2, 4, 6])

    def test_crossing(self):
        for place in ((1, 2), (-1, 2), (97, 99), (1, 1), (1, 0)):
            self.check(random.Random(11), TOUCHING.replace("dyad D C 1 B 2", "dyad D C 3 B 3"), *place)
            self.check(random.Random(12), TEXT, *place)

    def test_one_side_only(self):
        text = "pin A 0 0\npin B 4 0\ncrank C A 1\npin K 2 2\ndyad D A 3 B 3\ndyad E D 1 K 1\n"
        self.assertEqual(told(text, 1, 2), ([0, 2], []))
        self.assertEqual(told(mirrored(text), -1, 2), ([1, 3], []))
        text = "pin A 0 0\npin B 6 0\ncrank C A 4\nrider K A B 1/2 2/3\ndyad D A 5 B 5\ndyad E D 4 K 4\n"
        self.assertEqual(told(text, 1, 2), ([1], [0, 2]))
        self.assertEqual(told(mirrored(text), -1, 2), ([0], [1, 3]))

    def test_a_side_of_one_figure(self):
        text = "pin A 0 0\npin B 4 1\ncrank C A 2\ndyad D C 4 B 3\n"
        numbers = lines_of(text, "A B D")
        for old in (0, 1):
            before = answer_last(take(text), side(1, 2, old, *numbers))
            after = answer_last(take(text), MIRROR, side(-1, 2, 1 - old, *numbers))
            self.assertEqual([before, after], [[2], [0]] if old == 0 else [[0], [2]])

    def test_small_linkages(self):
        chance = random.Random(13)
        for _ in range(25):
            self.check(chance, random_linkage(chance, 2), chance.randint(-2, 2), chance.choice((-2, -1, 1, 2)))

    def test_great_linkages(self):
        chance = random.Random(14)
        for _ in range(4):
            self.check(chance, random_linkage(chance, 300), chance.randint(-99, 99), chance.randint(1, 99))


if __name__ == "__main__":
    unittest.main()
