"""What svg, g and each shape have of attributes."""

import unittest

from pictures import SizeTest, svg

SHAPES = (
    '<rect width="1" height="1"{}/>', '<circle r="1"{}/>', '<polygon points=""{}/>', '<polyline points=""{}/>',
    '<path d=""{}/>',
)
HOLDERS = SHAPES + ("<g{}/>", "<g{}></g>")


class Svg(SizeTest):
    def test_sides(self):
        for side in ("1", "+1", "00001", "2", "1023", "1024", "+1024", "01024"):
            self.right(f'<svg width="{side}" height="10"/>', 0, int(side), 10)
            self.right(f'<svg width="20" height="{side}"/>', 0, 20, int(side))

    def test_wrong_sides(self):
        for side in ("0", "-0", "-1", "1025", "32767", "32768", "", " 1", "1 ", "x", "1px", "100%", "-1024"):
            self.wrong(f'<svg width="{side}" height="10"/>')
            self.wrong(f'<svg width="20" height="{side}"/>')

    def test_sides_are_needed(self):
        self.wrong('<svg width="20"/>')
        self.wrong('<svg height="10"/>')
        self.wrong("<svg/>")
        self.wrong('<svg Width="20" height="10"/>')


class Paint(SizeTest):
    def each(self, more):
        return [svg(holder.format(more)) for holder in HOLDERS]

    def count_of(self, holder):
        return 1 if holder in SHAPES else 0

    def test_fills(self):
        for fill in ("none", "#000000", "#ffffff", "#FFFFFF", "#09afAF", "#123456", "#AbCdEf"):
            for holder in HOLDERS:
                self.right(svg(holder.format(f' fill="{fill}"')), self.count_of(holder))
            self.right(svg("", f' fill="{fill}"'), 0)

    def test_every_digit_of_sixteen(self):
        for byte in range(33, 127):
            if chr(byte) in "0123456789abcdefABCDEF":
                self.right(svg("", f' fill="#0{chr(byte)}0000"'), 0)
            else:
                self.wrong(svg("", f' fill="#0{chr(byte)}0000"'))

    def test_wrong_fills(self):
        wrong = (
            "", "#", "black", "None", "NONE", "none ", " none", "#12345", "#1234567", "#12345g", "#12345G", "#12345@",
            "#12345`", "#12345:", "#12345/", "123456", "# 12345", "#123456 ", " #123456", "##123456", "#123", "nonenone",
            "#-12345", "#+12345", "#12_345", "#123456#",
        )
        for fill in wrong:
            for text in self.each(f' fill="{fill}"'):
                self.wrong(text)
            self.wrong(svg("", f' fill="{fill}"'))

    def test_fill_rules(self):
        for rule in ("nonzero", "evenodd"):
            for holder in HOLDERS:
                self.right(svg(holder.format(f' fill-rule="{rule}"')), self.count_of(holder))
            self.right(svg("", f' fill-rule="{rule}" fill="none"'), 0)

    def test_wrong_fill_rules(self):
        for rule in ("", "inherit", "none", "Nonzero", "evenOdd", " nonzero", "evenodd ", "even-odd", "nonzeroevenodd"):
            for text in self.each(f' fill-rule="{rule}"'):
                self.wrong(text)
            self.wrong(svg("", f' fill-rule="{rule}"'))

    def test_transform_is_looked_at_in_each(self):
        for holder in HOLDERS:
            self.right(svg(holder.format(' transform="scale(2)"')), self.count_of(holder))
            self.wrong(svg(holder.format(' transform="scale(2"')))
            self.wrong(svg(holder.format(' transform="scale(2000) scale(2000)"')))


class Rect(SizeTest):
    def test_places_may_be_left_out(self):
        for more in ("", ' x="5"', ' y="-5"', ' x="-32767" y="32767"'):
            self.right(svg(f'<rect width="1" height="1"{more}/>'), 1)

    def test_wrong_places(self):
        for name in ("x", "y"):
            for value in ("", " 1", "1 ", "32768", "-32768", "a", "1 1"):
                self.wrong(svg(f'<rect width="1" height="1" {name}="{value}"/>'))

    def test_sides(self):
        for side in ("0", "-0", "+5", "32767"):
            self.right(svg(f'<rect x="32767" y="32767" width="{side}" height="3"/>'), 1)
            self.right(svg(f'<rect x="32767" y="32767" width="3" height="{side}"/>'), 1)

    def test_wrong_sides(self):
        for side in ("-1", "-32767", "32768", "", "5 ", "x"):
            self.wrong(svg(f'<rect width="{side}" height="3"/>'))
            self.wrong(svg(f'<rect width="3" height="{side}"/>'))

    def test_sides_are_needed(self):
        self.wrong(svg('<rect width="3"/>'))
        self.wrong(svg('<rect height="3"/>'))
        self.wrong(svg('<rect x="1" y="1"/>'))


class Circle(SizeTest):
    def test_middle_may_be_left_out(self):
        for more in ("", ' cx="5"', ' cy="-5"', ' cx="-32767" cy="32767"'):
            self.right(svg(f'<circle r="1"{more}/>'), 1)

    def test_wrong_middles(self):
        for name in ("cx", "cy"):
            for value in ("", " 1", "1 ", "32768", "-32768", "a", "1 1"):
                self.wrong(svg(f'<circle r="1" {name}="{value}"/>'))

    def test_radius(self):
        for radius in ("0", "-0", "+5", "32767"):
            self.right(svg(f'<circle r="{radius}"/>'), 1)
        for radius in ("-1", "-32767", "32768", "", "5 ", "x"):
            self.wrong(svg(f'<circle r="{radius}"/>'))

    def test_radius_is_needed(self):
        self.wrong(svg("<circle/>"))
        self.wrong(svg('<circle cx="1" cy="1"/>'))
        self.wrong(svg('<circle R="1"/>'))


class Others(SizeTest):
    def test_points(self):
        for name in ("polygon", "polyline"):
            self.right(svg(f'<{name} points="1 2"/>'), 1)
            self.right(svg(f'<{name} points="1 2,3-4 , -5 6"/>'), 1)
            self.right(svg(f'<{name} points="32767 -32767"/>'), 1)
            self.wrong(svg(f'<{name} points="1"/>'))
            self.wrong(svg(f'<{name} points="1 2 3"/>'))
            self.wrong(svg(f'<{name} points="1 32768"/>'))
            self.wrong(svg(f'<{name} points="M 1 2"/>'))

    def test_points_are_needed(self):
        self.wrong(svg("<polygon/>"))
        self.wrong(svg("<polyline/>"))
        self.wrong(svg('<polygon d="" Points=""/>'))

    def test_d_is_needed(self):
        self.wrong(svg("<path/>"))
        self.wrong(svg('<path points="" D=""/>'))


if __name__ == "__main__":
    unittest.main()
