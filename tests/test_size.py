"""Promise 1 as a whole: what size answers, which refusal comes first, and what it leaves alone."""

import unittest

from pictures import MANY, WRONG, SizeTest, bytes_of, of_length, svg
from shapedots.drawing import size


class Answers(SizeTest):
    def test_empty_picture(self):
        self.right('<svg width="7" height="9"/>', 0, 7, 9)
        self.right('<svg width="7" height="9"></svg>', 0, 7, 9)

    def test_width_comes_before_height(self):
        self.right('<svg height="9" width="7"/>', 0, 7, 9)

    def test_everything_at_once(self):
        self.right(MANY, 5, 640, 480)

    def test_each_kind_of_shape_counts_one(self):
        self.right(svg('<rect width="1" height="2"/>'), 1)
        self.right(svg('<circle r="1"/>'), 1)
        self.right(svg('<polygon points="0 0 1 1"/>'), 1)
        self.right(svg('<polyline points="0 0 1 1"/>'), 1)
        self.right(svg('<path d="M0 0"/>'), 1)

    def test_groups_do_not_count(self):
        self.right(svg("<g/><g><g></g></g>"), 0)

    def test_shapes_without_fill_count(self):
        self.right(svg('<circle r="1" fill="none"/><g fill="none"><circle r="1"/></g>', ' fill="none"'), 2)

    def test_shapes_that_cover_nothing_count(self):
        self.right(svg('<circle r="0"/><path d=""/><rect x="9999" width="0" height="0"/>'), 3)

    def test_many_shapes(self):
        self.right(svg('<path d=""/>' * 5000), 5000)

    def test_answer_is_a_list_of_whole_numbers(self):
        answer = size(bytes_of(svg('<circle r="1"/>')))
        self.assertIs(type(answer), list)
        self.assertEqual([type(number) for number in answer], [int] * 4)


class Length(SizeTest):
    def test_longest(self):
        self.right(of_length(65536), 1)

    def test_too_long(self):
        self.assertEqual(size(bytes_of(of_length(65537))), [-1])
        self.assertEqual(size(bytes_of(of_length(65600))), [-1])

    def test_too_long_comes_before_wrong(self):
        self.assertEqual(size([0] * 65537), [-1])
        self.assertEqual(size([0] * 65536), WRONG)

    def test_empty_text(self):
        self.assertEqual(size([]), WRONG)


class Depth(SizeTest):
    def test_group_in_sixteen_others(self):
        self.right(svg("<g>" * 17 + '<circle r="1"/>' + "</g>" * 17), 1)
        self.right(svg("<g>" * 16 + "<g/>" * 3 + "</g>" * 16), 0)

    def test_group_in_seventeen_others(self):
        self.wrong(svg("<g>" * 18 + "</g>" * 18))
        self.wrong(svg("<g>" * 17 + "<g/>" + "</g>" * 17))

    def test_groups_beside_one_another_are_not_in_one_another(self):
        self.right(svg("<g></g>" * 100 + ("<g>" * 17 + "</g>" * 17) * 3), 0)

    def test_very_deep_nesting_is_answered(self):
        start = '<svg width="20" height="10">'
        for tag in ("<g>", "<svg>", "<a>", '<rect width="1" height="1">', '<svg width="1" height="1">'):
            self.wrong((start + tag * 30000)[:65536])
        self.wrong(start + "<g>" * 9000 + "</g>" * 9000 + "</svg>")
        self.wrong("<" * 65536)


class LeftAlone(unittest.TestCase):
    def test_what_is_handed_in_stays(self):
        for text in (MANY, svg("<a/>"), of_length(65537), ""):
            handed = bytes_of(text)
            size(handed)
            self.assertEqual(handed, bytes_of(text))

    def test_nothing_is_kept(self):
        first = size(bytes_of(MANY))
        for text in (svg("<g>"), svg('<circle r="1"/>'), of_length(65537)):
            again = size(bytes_of(text))
            self.assertEqual(size(bytes_of(text)), again)
            self.assertEqual(size(bytes_of(MANY)), first)

    def test_answers_are_not_shared(self):
        for text in (MANY, "", of_length(65537)):
            answer = size(bytes_of(text))
            kept = list(answer)
            answer.append(5)
            self.assertEqual(size(bytes_of(text)), kept)


if __name__ == "__main__":
    unittest.main()
