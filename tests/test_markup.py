"""Elements, names, attributes, notes."""

import unittest

from pictures import WRONG, SizeTest, bytes_of, svg
from shapedots.drawing import size

BLANKS = " \t\n\r"
CIRCLE = '<circle r="1"/>'


class Tags(SizeTest):
    def test_blanks_before_the_end_of_a_tag(self):
        self.right('<svg width="20" height="10" \t\n\r>' + '<circle r="1" \n/><g \n></g><g />' + "</svg>", 1)

    def test_blanks_where_none_may_stand(self):
        self.wrong('< svg width="20" height="10"/>')
        self.wrong('<svg width="20" height="10"/ >')
        self.wrong('<svg width="20" height="10"></svg >')
        self.wrong('<svg width="20" height="10"></ svg>')
        self.wrong('<svg width="20" height="10">< /svg>')
        self.wrong(svg('<circle r= "1"/>'))
        self.wrong(svg('<circle r ="1"/>'))

    def test_blanks_between_elements(self):
        self.right(f"{BLANKS}{svg(BLANKS + CIRCLE + BLANKS + '<g>' + BLANKS + '</g>' + BLANKS)}{BLANKS}", 1)

    def test_shape_with_an_end_of_its_own(self):
        self.right(svg(f'<circle r="1"></circle><circle r="1">{BLANKS}<!-- x --></circle>'), 2)

    def test_a_text_between_elements_is_wrong(self):
        for text in ("x", "1", "\x00", "\x0b", "\x0c", "\x7f", "\xa0", "&amp;", ">", "/", "-->"):
            self.wrong(svg(text))
            self.wrong(svg(f"<g>{text}</g>"))
            self.wrong(svg(f'<circle r="1">{text}</circle>'))
            self.wrong(svg() + text)
            self.wrong(text + svg())

    def test_end_name_is_another(self):
        self.wrong('<svg width="20" height="10"></g>')
        self.wrong(svg("<g></h>"))
        self.wrong(svg("<g></gg>"))
        self.wrong(svg('<circle r="1"></circl>'))
        self.wrong(svg("<g></G>"))
        self.wrong(svg('<g><circle r="1"></g></circle>'))
        self.wrong(svg("<g></>"))
        self.wrong(svg('<g></g x="1">'))

    def test_end_without_beginning(self):
        self.wrong(svg("</g>"))
        self.wrong(svg() + "</svg>")
        self.wrong("</svg>")
        self.wrong(svg("<g/></g>"))

    def test_every_beginning_of_a_text_alone_is_wrong(self):
        text = svg('<g fill="none"><circle r="1" ></circle><!-- x --></g>')
        for length in range(len(text)):
            self.wrong(text[:length])
        self.right(text, 1)

    def test_other_markup_is_wrong(self):
        for other in ("<?xml version=\"1.0\"?>", "<!DOCTYPE svg>", "<![CDATA[]]>", "<>", "<!>", "</>", "<//>"):
            self.wrong(other + svg())
            self.wrong(svg(other))


class Which(SizeTest):
    def test_the_text_is_one_svg(self):
        self.wrong(svg() + svg())
        self.wrong(svg() + CIRCLE)
        self.wrong(CIRCLE + svg())
        self.wrong(CIRCLE)
        self.wrong("<g></g>")
        for name in ("g", "rect", "a", "svgs", "SVG", "sv"):
            self.wrong(f'<{name} width="20" height="10"></{name}>')
            self.wrong(f'<{name} width="20" height="10"/>')
        self.wrong(" \n<!-- x -->")

    def test_svg_nowhere_else(self):
        self.wrong(svg(svg()))
        self.wrong(svg(f"<g>{svg()}</g>"))
        self.wrong(svg('<svg width="1" height="1"/>'))

    def test_other_elements(self):
        for name in ("line", "ellipse", "text", "a", "defs", "G", "Rect", "rects", "rec", "svg:rect", "title"):
            self.wrong(svg(f'<{name} width="1" height="1" r="1" points="" d=""/>'))
            self.wrong(svg(f'<g><{name} width="1" height="1" r="1" points="" d=""></{name}></g>'))

    def test_no_element_in_a_shape(self):
        begins = ('rect width="1" height="1"', 'circle r="1"', 'polygon points=""', 'polyline points=""', 'path d=""')
        for begin in begins:
            name = begin.split()[0]
            self.right(svg(f"<{begin}></{name}>"), 1)
            for inner in (CIRCLE, "<g/>", "<g></g>", '<rect width="1" height="1"/>', "<title/>"):
                self.wrong(svg(f"<{begin}>{inner}</{name}>"))


class Names(SizeTest):
    def test_names_of_attributes(self):
        for name in ("a", "Z", "a1", "x-y", "x:y", "a-", "a:", "stroke-width", "xlink:href", "zAZ09:-"):
            self.right(svg(f'<g {name}="1"/>'), 0)

    def test_wrong_names(self):
        for name in ("", "1a", "-a", ":a", "a_b", "_a", "a.b", "a/b", "\xe9", "a\xe9", "a?", "a@", "a[", "a`", "a{"):
            self.wrong(svg(f'<g {name}="1"/>'))

    def test_letters_by_their_bytes(self):
        letters = list(range(65, 91)) + list(range(97, 123))
        behind = letters + list(range(48, 58)) + [45, 58]
        right = [0, 20, 10, 0]
        for byte in range(256):
            first = bytes_of('<svg width="20" height="10" ') + [byte] + bytes_of('="x"/>')
            self.assertEqual(size(first), right if byte in letters else WRONG, byte)
            second = bytes_of('<svg width="20" height="10" q') + [byte] + bytes_of('="x"/>')
            self.assertEqual(size(second), right if byte in behind else WRONG, byte)

    def test_no_name_twice(self):
        self.wrong('<svg width="20" height="10" width="20"/>')
        self.wrong(svg('<g a="1" a="1"/>'))
        self.wrong(svg('<g a="1" b="2" a="3"></g>'))
        self.wrong(svg('<circle r="1" fill="none" fill="none"/>'))
        self.wrong(svg('<circle r="1" fill="none" r="1"/>'))

    def test_names_that_differ_are_not_the_same(self):
        self.right(svg('<circle r="1" R="1" fill="none" Fill="x" fill-="y" fill:="z"/>'), 1)

    def test_the_same_name_in_two_elements(self):
        self.right(svg('<g a="1"><g a="1"/></g>', ' a="1"'), 0)


class Attributes(SizeTest):
    def test_either_sign_round_a_value(self):
        self.right("<svg width='20' height=\"10\"/>", 0)
        self.right(svg("<g a='\"' b=\"'\" c='' d=\"\"/>"), 0)

    def test_signs_that_do_not_agree(self):
        self.wrong("<svg width='20\" height='10'/>")
        self.wrong("<svg width=\"20' height=\"10\"/>")
        self.wrong('<svg width=20 height="10"/>')
        self.wrong('<svg width="20 height="10"/>')
        self.wrong('<svg width="20" height="10/>')
        self.wrong('<svg width="20" height=/>')
        for sign in "x5_`/|(":
            self.wrong(f'<svg width="20" height="10" a={sign}1{sign}/>')
        self.wrong('<svg width="20" height/>')

    def test_blanks_before_each(self):
        self.right("<svg\twidth='20'\n\r height='10'/>", 0)
        self.wrong("<svg width='20'height='10'/>")
        self.wrong("<svgwidth='20' height='10'/>")

    def test_no_note_within_a_tag(self):
        self.wrong("<svg width='20' <!-- x --> height='10'/>")

    def test_values_by_their_bytes(self):
        right = [9, 10, 13] + [byte for byte in range(32, 127) if byte not in (60, 38)]
        for quote in (34, 39):
            for byte in range(256):
                expected = [0, 20, 10, 0] if byte in right and byte != quote else WRONG
                for value in ([byte], [120, byte, 120]):
                    text = bytes_of('<svg width="20" height="10" a=') + [quote] + value + [quote] + bytes_of("/>")
                    self.assertEqual(size(text), expected, byte)

    def test_attributes_that_are_not_told_do_not_matter(self):
        self.right(svg('<circle r="1" stroke="5%" width="x" points="," d="L" id=""/>'), 1)
        self.right(svg('<g width="-1" r="x" points="1" d="Z" x=" "/>'), 0)
        self.right(svg('<rect width="1" height="1" cx="?" r="-1"/>'), 1)
        self.right(svg('<path d="" x="?" height="-1"/><polygon points="" d="9" r=""/>'), 2)

    def test_svg_has_no_transform(self):
        self.right(svg(CIRCLE, ' transform="turned" x="?"'), 1)
        self.right(svg(f'<g transform="scale(1024)">{CIRCLE}</g>', ' transform="scale(1025)"'), 1)


class Notes(SizeTest):
    def test_where_notes_may_stand(self):
        note = "<!-- x -->"
        self.right(f"{note}{note} {note}{svg(note + '<g>' + note + note + CIRCLE + note + '</g>' + note)} {note}", 1)

    def test_what_a_note_may_hold(self):
        for held in ("", "-", "--", "---", ">", "->", "<", "<!--", "</svg>", CIRCLE, "&", "'", '"', "--!>", "-- >"):
            self.right(svg(f"<!--{held}-->"), 0)

    def test_any_byte_in_a_note(self):
        for byte in range(256):
            text = bytes_of("<!--") + [byte] + bytes_of("-->" + svg())
            self.assertEqual(size(text), [0, 20, 10, 0], byte)

    def test_a_note_ends_at_the_next_sign_of_its_end(self):
        self.right(svg("<!-- a -->" + CIRCLE + "<!-- b -->"), 1)
        self.wrong(svg("<!-- a --> b -->"))
        self.wrong(svg("<!-- <!-- a --> -->"))

    def test_the_end_of_a_note_is_not_its_beginning(self):
        self.wrong(svg("<!-->"))
        self.wrong(svg("<!--->"))
        self.right(svg("<!---->"), 0)
        self.right(svg("<!----->"), 0)

    def test_notes_that_do_not_end(self):
        for note in ("<!--", "<!-- x", "<!-- x --", "<!-- x ->", "<!-- x -- >"):
            self.wrong(note)
            self.wrong("     " + note)
            self.wrong(note + svg())
            self.wrong(svg() + note)
            self.wrong(svg(note))

    def test_what_is_no_note(self):
        for other in ("<!- x -->", "<! -- x -->", "< !-- x -->", "<-- x -->", "!-- x -->"):
            self.wrong(svg(other))


if __name__ == "__main__":
    unittest.main()
