"""Numbers, and rows of numbers."""

import unittest

from pictures import SizeTest, polyline, svg

RIGHT = ("0", "7", "+7", "-7", "00000", "00007", "-00007", "32767", "+32767", "-32767", "-0", "+0")
WRONG_ONES = (
    "", "+", "-", "32768", "-32768", "+32768", "99999", "-99999", "000000", "000001", "-000001", "100000", "123456",
    "+-1", "-+1", "--1", "++1", "1.0", "1.", ".5", "1e1", "0x1", "1_0", "a", "1a", "a1", "1%", "1px", "1-", "1+", "1?",
)


class SingleNumbers(SizeTest):
    def test_right_ones(self):
        for number in RIGHT:
            self.right(svg(f'<rect x="{number}" width="1" height="1"/>'), 1)

    def test_wrong_ones(self):
        for number in WRONG_ONES:
            self.wrong(svg(f'<rect x="{number}" width="1" height="1"/>'))

    def test_no_blanks_round_it(self):
        for number in (" 1", "1 ", "\t1", "1\n", "\r1", " 1 ", "- 1", "1 2", "1,", ",1", "1,2", "1-2", " "):
            self.wrong(svg(f'<circle cx="{number}" r="1"/>'))


class Rows(SizeTest):
    def test_numbers_of_a_row(self):
        for number in RIGHT:
            self.right(polyline(f"{number} {number}"), 1)
        for number in WRONG_ONES[1:]:
            self.wrong(polyline(f"1 {number}"))
            self.wrong(polyline(f"{number} 1"))
            self.wrong(polyline(f"1 {number} 1 1"))

    def test_every_digit(self):
        for digit in "0123456789":
            self.right(polyline(f"{digit} {digit}{digit}"), 1)
            self.right(svg(f'<rect x="{digit}" y="1{digit}" width="{digit}" height="1"/>'), 1)

    def test_between_two(self):
        for between in (" ", "\t", "\n", "\r", " \t\n\r", ",", " ,", ", ", "\r\n,\t "):
            self.right(polyline(f"1{between}2"), 1)
            self.right(polyline(f"1{between}-2"), 1)
            self.right(polyline(f"1{between}+2{between}3{between}4"), 1)

    def test_nothing_between_two_if_the_second_has_a_sign(self):
        self.right(polyline("1-2"), 1)
        self.right(polyline("1+2"), 1)
        self.right(polyline("-1-2+3+4"), 1)
        self.right(polyline("12345-12345"), 1)
        self.right(polyline("1-2 3-4"), 1)

    def test_nothing_between_two_without_a_sign_is_one_number(self):
        self.right(polyline("12 3"), 1)
        self.wrong(polyline("123"))
        self.wrong(polyline("1234512345"))
        self.wrong(polyline("12345123456-1"))

    def test_wrong_between_two(self):
        for between in (",,", ", ,", " ,, ", ",\n,", ";", ".", "/", "\x0b", "\x0c", "\xa0", "_", ", - ", "- "):
            self.wrong(polyline(f"1{between}2"))

    def test_before_and_behind(self):
        for blanks in ("", " ", "\t\n\r "):
            self.right(polyline(f"{blanks}1 2"), 1)
            self.right(polyline(f"1 2{blanks}"), 1)
            self.right(polyline(f"{blanks}1 2{blanks}"), 1)
        for other in (",", " ,", ", ", " , ", ";"):
            self.wrong(polyline(f"{other}1 2"))
            self.wrong(polyline(f"1 2{other}"))

    def test_evenly_many(self):
        for count in range(12):
            row = polyline(" ".join(["5"] * count))
            if count % 2 == 0:
                self.right(row, 1)
            else:
                self.wrong(row)

    def test_empty(self):
        for points in ("", " ", " \t\n\r"):
            self.right(polyline(points), 1)
            self.right(svg(f'<polygon points="{points}"/>'), 1)
        self.wrong(polyline(","))

    def test_a_long_row(self):
        self.right(polyline("1 2 " * 16000), 1)
        self.right(polyline("-1" * 32000), 1)


if __name__ == "__main__":
    unittest.main()
