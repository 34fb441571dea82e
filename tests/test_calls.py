"""What holds over all four calls: nothing is kept, changed or shared, and long texts are gone through by loops."""

import inspect
import io
import itertools
import sys
import unittest
from contextlib import redirect_stderr, redirect_stdout

from pictures import MANY, MOST, bytes_of, of_length, svg
from shapedots import drawing

CALLS = {
    "size": lambda text: drawing.size(text),
    "paint": lambda text: drawing.paint(400000, text),
    "paint few": lambda text: drawing.paint(100, text),
    "at": lambda text: drawing.at(3, 3, text),
    "at outside": lambda text: drawing.at(-1, 3, text),
    "covers": lambda text: drawing.covers(0, text),
    "covers none": lambda text: drawing.covers(-1, text),
}
TEXTS = (
    MANY, svg('<circle cx="3" cy="3" r="2"/>'), svg('<g fill="none"><circle r="9"/></g>'), svg("<g>"), svg(), "",
    svg('<path d="M0 0h9v9zL3 8 5 5"/>', ' fill="#123456" fill-rule="evenodd"'), of_length(65537),
)


def longest(unit, head, tail):
    """As many of the unit between head and tail as a text may hold."""
    head = '<svg width="9" height="9">' + head
    tail = tail + "</svg>"
    text = head + unit * ((65536 - len(head) - len(tail)) // len(unit)) + tail
    return bytes_of(text + " " * (65536 - len(text)))


class Interface(unittest.TestCase):
    def test_names_and_arguments(self):
        expected = {"size": ["text"], "paint": ["most", "text"], "at": ["x", "y", "text"], "covers": ["k", "text"]}
        for name, arguments in expected.items():
            self.assertEqual(list(inspect.signature(getattr(drawing, name)).parameters), arguments)

    def test_arguments_by_name(self):
        text = bytes_of(svg('<circle cx="3" cy="3" r="2"/>'))
        self.assertEqual(drawing.size(text=text), [0, 20, 10, 1])
        self.assertEqual(drawing.paint(most=199, text=text), [-3])
        self.assertEqual(drawing.at(x=4, y=1, text=text), [-4])
        self.assertEqual(drawing.at(x=3, y=1, text=text), [0])
        self.assertEqual(drawing.covers(k=0, text=text), [12])

    def test_whole_numbers_alone(self):
        for name, text in itertools.product(CALLS, TEXTS):
            answer = CALLS[name](bytes_of(text))
            self.assertIs(type(answer), list)
            self.assertEqual({type(number) for number in answer}, {int}, name)
            if answer[0] < 0:
                self.assertEqual(len(answer), 1, name)


class OneAfterAnother(unittest.TestCase):
    def test_each_as_if_it_were_the_first(self):
        alone = {(name, k): CALLS[name](bytes_of(text)) for name in CALLS for k, text in enumerate(TEXTS)}
        for (one, k), (other, j) in itertools.product(alone, repeat=2):
            if k != 0 and j != 0:
                CALLS[one](bytes_of(TEXTS[k]))
                self.assertEqual(CALLS[other](bytes_of(TEXTS[j])), alone[other, j], (one, k, other, j))

    def test_the_same_list_for_each_call(self):
        for text in TEXTS:
            handed = bytes_of(text)
            first = [call(handed) for call in CALLS.values()]
            again = [CALLS[name](handed) for name in reversed(list(CALLS))]
            self.assertEqual(first, list(reversed(again)))
            self.assertEqual(handed, bytes_of(text))

    def test_a_text_is_not_changed_for_a_while_either(self):
        class Watched(list):
            def refuse(self, *arguments):
                raise AssertionError("changed")

            __setitem__ = __delitem__ = __iadd__ = __imul__ = refuse
            append = extend = insert = pop = remove = clear = sort = reverse = refuse

        for call in CALLS.values():
            for text in TEXTS:
                call(Watched(bytes_of(text)))

    def test_nothing_is_printed(self):
        out, err = io.StringIO(), io.StringIO()
        with redirect_stdout(out), redirect_stderr(err):
            for name, text in itertools.product(CALLS, TEXTS):
                CALLS[name](bytes_of(text))
        self.assertEqual((out.getvalue(), err.getvalue()), ("", ""))


class Together(unittest.TestCase):
    def test_the_calls_agree(self):
        inside = (
            '<g transform="translate(2 1)"><rect width="6" height="4" fill="#ff0000"/><circle cx="6" cy="4" r="3"/></g>'
            '<path d="M1 1Q5 14 11 1" fill="#00ff00" fill-rule="evenodd"/>'
        )
        text = bytes_of(svg(inside))
        fills = [0xFF0000, 0, 0x00FF00]
        self.assertEqual(drawing.size(text), [0, 20, 10, 3])
        top = [drawing.at(x, y, text)[0] for y in range(10) for x in range(20)]
        self.assertEqual(drawing.paint(MOST, text), [200] + [0xFFFFFF if k < 0 else fills[k] for k in top])
        self.assertEqual(drawing.covers(2, text), [top.count(2)])
        self.assertEqual(drawing.covers(3, text), [-5])


class Long(unittest.TestCase):
    TEXTS = (
        (longest(" ", "", ""), 0), (longest("<g></g>", "", ""), 0), (longest("<!---->", "", ""), 0),
        (longest("<path d=''/>", "", ""), 5458), (longest("<circle r='1'/>", "", ""), 4366),
        (longest("z", "<path d='M1 1", "'/>"), 1), (longest("h1v1", "<path d='M1 1", "'/>"), 1),
        (longest("+1+1-1-1", "<path d='M1 1q", "'/>"), 1), (longest("1 1 ", "<polygon points='", "'/>"), 1),
        (longest("scale(-1)", "<path d='M0 0h9v9' transform='", "'/>"), 1),
        (longest(" ", "<circle r='3' transform='", "'/>"), 1), (longest("x", "<g a='", "'/>"), 0),
    )

    def test_texts_of_65536_bytes(self):
        for text, count in self.TEXTS:
            self.assertEqual(len(text), 65536)
            self.assertEqual(drawing.size(text), [0, 9, 9, count])
            self.assertEqual(drawing.paint(81, text)[0], 81)
            self.assertIn(drawing.at(0, 0, text)[0], [-4] + list(range(count)))
            self.assertEqual(drawing.covers(count, text), [-5])
            self.assertGreaterEqual(drawing.covers(count - 1, text)[0], 0 if count else -5)

    def test_texts_of_one_byte_more(self):
        for text, count in self.TEXTS:
            for call in CALLS.values():
                self.assertEqual(call(text + [32]), [-1])

    def test_few_calls_within_one_another(self):
        depth = len(inspect.stack())
        limit = sys.getrecursionlimit()
        sys.setrecursionlimit(depth + 60)
        try:
            for text, count in self.TEXTS:
                for call in CALLS.values():
                    call(text)
        finally:
            sys.setrecursionlimit(limit)


if __name__ == "__main__":
    unittest.main()
