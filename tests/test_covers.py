"""Promise 4: how many dots a shape covers, which refusal comes first, and what covers leaves alone."""

import unittest

from oracle import Answers, Chance
from pictures import MANY, WRONG, bytes_of, of_length, svg
from shapedots.drawing import covers

NO_SHAPE = [-5]

# Over a picture of 20 times 10, with how many dots each covers.
SEVERAL = (
    ('<rect x="1" y="1" width="8" height="4"/>', 32),
    ('<rect x="1" y="1" width="8" height="4" fill="none"/>', 32),
    ('<rect x="15" y="-5" width="30" height="9"/>', 20),
    ('<rect x="20" width="5" height="5"/>', 0),
    ('<rect x="-5" y="-5" width="5" height="99"/>', 0),
    ('<rect x="-99" y="-99" width="999" height="999"/>', 200),
    ('<circle cx="5" cy="5" r="2"/>', 12),
    ('<circle r="2" fill="#ffffff"/>', 3),
    ('<circle cx="5" cy="5" r="0"/>', 0),
    ('<circle cx="5" cy="5" r="3" transform="scale(0)"/>', 0),
    ('<polygon points="0 0 5 0 5 5"/>', 15),
    ('<polyline points="0 0 5 5 0 5"/>', 10),
    ('<path d="M0 0h6v6h-6zM1 1h4v4h-4z"/>', 36),
    ('<path d="M0 0h6v6h-6zM1 1h4v4h-4z" fill-rule="evenodd"/>', 20),
    ('<path d=""/>', 0),
    ('<path d="M1 1Q5 14 11 1"/>', 43),
    ('<rect width="1" height="1"/>', 1),
)
SEVERAL_TEXT = svg("".join(shape for shape, count in SEVERAL))


class Counts(unittest.TestCase):
    def covers(self, inside, *counts):
        with self.subTest(inside=inside[:200]):
            text = bytes_of(svg(inside))
            self.assertEqual([covers(k, text) for k in range(len(counts))], [[count] for count in counts])

    def test_each_of_several_shapes(self):
        self.covers("".join(shape for shape, count in SEVERAL), *(count for shape, count in SEVERAL))

    def test_each_by_itself(self):
        for shape, count in SEVERAL:
            self.covers(shape, count)

    def test_whatever_the_fill(self):
        for more in ("", ' fill="none"', ' fill="#ffffff"', ' fill="#123456"'):
            self.covers(f'<circle cx="5" cy="5" r="2"{more}/>', 12)
            self.covers(f'<g{more}><rect width="3" height="3"/></g>', 9)
            self.assertEqual(covers(0, bytes_of(svg('<rect width="3" height="3"/>', more))), [9])

    def test_under_and_over_others(self):
        box, all_over = '<rect width="3" height="3"/>', '<rect width="20" height="10"/>'
        self.covers(box + all_over + box + box, 9, 200, 9, 9)

    def test_groups_do_not_count(self):
        box, wide = '<rect width="3" height="3"/>', '<rect width="5" height="3"/>'
        self.covers(f"<g/><g><g>{box}</g>{wide}</g><g></g>{box}", 9, 15, 9)

    def test_moved(self):
        self.covers('<g transform="scale(2)"><rect width="3" height="3" transform="translate(1)"/></g>', 36)
        self.covers('<rect width="3" height="3" transform="rotate(90)"/>', 0)
        self.covers('<rect width="3" height="3" transform="translate(2) rotate(90)"/>', 6)
        self.covers('<rect width="3" height="3" transform="translate(2) scale(-1 1)"/>', 6)
        self.covers('<circle r="2" transform="translate(5 5) scale(2 -1)"/>', 28)

    def test_matrices_that_leave_no_room(self):
        for transform in ("scale(0)", "scale(0 5)", "scale(5 0)", "matrix(1 2 2 4 3 3)", "matrix(1 1 1 1 0 0)"):
            for shape in ('circle cx="2" cy="2" r="9"', 'rect width="9" height="9"', 'polygon points="0 0 9 0 3 9"'):
                self.covers(f'<{shape} transform="{transform}"/>', 0)
            self.covers(f'<path transform="{transform}" d="M0 0h9v9h-9zQ9 9 9 0" fill-rule="evenodd"/>', 0)

    def test_lines_upon_lines_are_counted_once(self):
        self.covers('<path d="M0 0h6v6h-6zM0 0h6v6h-6zM3 3h6v6h-6z"/>', 63)
        self.covers('<path d="M0 0h6v6h-6zM3 3h6v6h-6z" fill-rule="evenodd"/>', 54)

    def test_the_largest_picture(self):
        text = bytes_of(svg('<rect width="1024" height="1024"/><circle r="32767"/>', "", 1024, 1024))
        self.assertEqual([covers(0, text), covers(1, text), covers(2, text)], [[1048576], [1048576], NO_SHAPE])

    def test_a_large_circle(self):
        text = bytes_of(svg('<circle cx="512" cy="512" r="512"/>', "", 1024, 1024))
        inside = [1 for x in range(1, 1024, 2) for y in range(1, 1024, 2) if x * x + y * y <= 1024 * 1024]
        self.assertEqual(covers(0, text), [4 * len(inside)])

    def test_answer_is_a_list_of_one_whole_number(self):
        for k in (0, 3, 99):
            answer = covers(k, bytes_of(SEVERAL_TEXT))
            self.assertIs(type(answer), list)
            self.assertEqual([type(number) for number in answer], [int])

    def test_pictures_by_chance(self):
        found = 0
        for seed in range(2000, 2200):
            picture = Chance(seed).picture()
            text = bytes_of(picture.text())
            expected = [[len(dots)] for dots in Answers(picture).covered]
            found += any(count != [0] for count in expected)
            with self.subTest(seed=seed, text=picture.text()):
                self.assertEqual([covers(k, text) for k in range(len(expected))], expected)
                self.assertEqual(covers(len(expected), text), NO_SHAPE)
        self.assertGreater(found, 50)


class Which(unittest.TestCase):
    def test_below_0(self):
        for k in (-1, -2, -len(SEVERAL), -2147483648):
            self.assertEqual(covers(k, bytes_of(SEVERAL_TEXT)), NO_SHAPE)

    def test_the_last_and_those_behind_it(self):
        last = len(SEVERAL) - 1
        self.assertEqual(covers(last, bytes_of(SEVERAL_TEXT)), [1])
        for k in (last + 1, last + 2, 1000, 2147483647):
            self.assertEqual(covers(k, bytes_of(SEVERAL_TEXT)), NO_SHAPE)

    def test_no_shapes(self):
        for k in (-1, 0, 1):
            self.assertEqual(covers(k, bytes_of(svg())), NO_SHAPE)
            self.assertEqual(covers(k, bytes_of(svg("<g><g/></g>"))), NO_SHAPE)
            self.assertEqual(covers(k, bytes_of('<svg width="1" height="1"/>')), NO_SHAPE)

    def test_a_shape_that_covers_nothing_is_there(self):
        self.assertEqual(covers(0, bytes_of(svg('<path d=""/>'))), [0])
        self.assertEqual(covers(1, bytes_of(svg('<path d=""/>'))), NO_SHAPE)

    def test_many_shapes(self):
        text = bytes_of(svg('<path d=""/>' * 5000 + '<path d="M0 0h1v1H0"/>'))
        self.assertEqual([covers(k, text) for k in (4999, 5000, 5001)], [[0], [1], NO_SHAPE])


class Refusals(unittest.TestCase):
    def test_a_text_too_long(self):
        self.assertEqual(covers(0, bytes_of(of_length(65536))), [1])
        self.assertEqual(covers(0, bytes_of(of_length(65537))), [-1])
        self.assertEqual(covers(0, bytes_of(of_length(65600))), [-1])

    def test_a_text_that_is_not_right(self):
        shape = SEVERAL[0][0]
        for text in ("", "x", svg("<a/>"), svg(shape + '<rect width="1"/>'), svg(shape) + shape, svg('<path d="L1 1"/>')):
            self.assertEqual(covers(0, bytes_of(text)), WRONG)

    def test_which_comes_first(self):
        self.assertEqual(covers(0, [0] * 65537), [-1])
        self.assertEqual(covers(-1, [0] * 65537), [-1])
        self.assertEqual(covers(-1, bytes_of(of_length(65537))), [-1])
        self.assertEqual(covers(9, bytes_of(of_length(65537))), [-1])
        self.assertEqual(covers(-1, bytes_of("x")), WRONG)
        self.assertEqual(covers(9, []), WRONG)
        self.assertEqual(covers(9, [0] * 65536), WRONG)
        self.assertEqual(covers(9, bytes_of(of_length(65536))), NO_SHAPE)


class LeftAlone(unittest.TestCase):
    def test_what_is_handed_in_stays(self):
        for text in (MANY, SEVERAL_TEXT, svg("<a/>"), of_length(65537), ""):
            for k in (0, 3, -1):
                handed = bytes_of(text)
                covers(k, handed)
                self.assertEqual(handed, bytes_of(text))

    def test_answers_are_not_shared(self):
        for k, text in ((0, SEVERAL_TEXT), (-1, SEVERAL_TEXT), (0, ""), (0, of_length(65537))):
            answer = covers(k, bytes_of(text))
            kept = list(answer)
            answer.append(5)
            self.assertEqual(covers(k, bytes_of(text)), kept)


if __name__ == "__main__":
    unittest.main()
