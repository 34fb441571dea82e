"""A path's letters, and the bounds of its places."""

import unittest

from pictures import SizeTest, path

ROWS = {"M": 2, "L": 2, "H": 1, "V": 1, "Q": 4, "C": 6, "Z": 0}

# Stands at 65534, 65534; the line began at 32767, 32767.
FAR = "M32767 32767l32767 32767"
FAR_BACK = "M-32767-32767l-32767-32767"


class Form(SizeTest):
    def test_empty(self):
        for d in ("", " ", " \t\n\r"):
            self.right(path(d), 1)

    def test_begins_with_m(self):
        for letter, length in ROWS.items():
            for begin in (letter, letter.lower()):
                d = begin + " ".join(["1"] * length)
                if letter == "M":
                    self.right(path(d), 1)
                    self.right(path(f" \n{d}"), 1)
                else:
                    self.wrong(path(d))
                    self.wrong(path(f" {d} M 1 2"))
        self.wrong(path("1 2"))
        self.wrong(path(","))

    def test_how_many_numbers(self):
        for letter, length in ROWS.items():
            for count in range(20):
                right = count == 0 if length == 0 else count > 0 and count % length == 0
                for said in (letter, letter.lower()):
                    text = path(f"M 1 2 {said} {' '.join(['3'] * count)}")
                    if right:
                        self.right(text, 1)
                    else:
                        self.wrong(text)

    def test_blanks_round_letters(self):
        self.right(path("M1 2L3 4H5V6Q1 2 3 4C1 2 3 4 5 6Z"), 1)
        self.right(path("\tM\n1 2\r L \t 3 4 H 5 V 6 Q 1 2 3 4 C 1 2 3 4 5 6 \nZ\n"), 1)
        self.right(path("M-1-2L+3+4ZZ z"), 1)

    def test_commas_only_between_numbers(self):
        self.right(path("M1,2,3 , 4 Q1,2,3,4,5,6,7,8"), 1)
        for d in ("M,1 2", "M 1 2,", "M 1 2, L 3 4", "M 1 2 L, 3 4", ",M 1 2", "M 1 2 Z,", "M 1 2, Z", "M 1 2 Z, L 3 4"):
            self.wrong(path(d))

    def test_between_two_rows(self):
        for between in (" ", ",", " , ", "\t\n\r", ""):
            self.right(path(f"M 1 2 L 3 4{between}-5 6 H 7{between}+8 C 1 2 3 4 5 6{between}-1 2 3 4 5 6"), 1)
        for between in (",,", ";", ", ,"):
            self.wrong(path(f"M 1 2 L 3 4{between}-5 6"))
        self.wrong(path("M 1 2 L 3 45 6"))

    def test_other_letters(self):
        for letter in [chr(byte) for byte in range(33, 127) if chr(byte) not in "MLHVQCZmlhvqcz"]:
            self.wrong(path(f"M 1 2 {letter}"))
            self.wrong(path(f"{letter} 1 2"))
            if letter not in "0123456789,+-":
                self.wrong(path(f"M 1 2 {letter} 1 2"))

    def test_letters_without_numbers(self):
        for letter in "MLHVQCmlhvqc":
            self.wrong(path(f"M 1 2 {letter}"))
            self.wrong(path(f"M 1 2 {letter} Z"))
            self.wrong(path(f"M 1 2 {letter} L 1 2"))
        self.wrong(path("M"))
        self.wrong(path("m"))

    def test_z_has_no_numbers(self):
        for letter in "Zz":
            self.right(path(f"M 1 2 {letter} L 1 2 {letter} {letter}"), 1)
            self.wrong(path(f"M 1 2 {letter} 1 2"))
            self.wrong(path(f"M 1 2 {letter} 1"))

    def test_numbers_of_a_path(self):
        self.right(path("M 32767 -32767"), 1)
        for d in ("M 32768 0", "M 0 -32768", "M 1 2 h 32768", "M 000001 2", "M 1.5 2", "M 1 2 L 1 +"):
            self.wrong(path(d))

    def test_a_long_path(self):
        self.right(path("m1 2" + "z" * 60000), 1)
        self.right(path("m1 2" + "h1h-1" * 12000), 1)
        self.right(path("M1 2" + " 3 4" * 15000), 1)


class Bounds(SizeTest):
    def test_small_letters_at_the_bound_and_beyond(self):
        for letter in "ml":
            for step in ("2 0", "0 2", "2 2"):
                self.right(path(f"{FAR}{letter}{step}"), 1)
            for step in ("3 0", "0 3", "3 3"):
                self.wrong(path(f"{FAR}{letter}{step}"))
            for step in ("-2 0", "0 -2", "-2 -2"):
                self.right(path(f"{FAR_BACK}{letter}{step}"), 1)
            for step in ("-3 0", "0 -3", "-3 -3"):
                self.wrong(path(f"{FAR_BACK}{letter}{step}"))

    def test_h_and_v(self):
        for letter in "hv":
            self.right(path(f"{FAR}{letter}2"), 1)
            self.wrong(path(f"{FAR}{letter}3"))
            self.right(path(f"{FAR_BACK}{letter}-2"), 1)
            self.wrong(path(f"{FAR_BACK}{letter}-3"))

    def test_curves(self):
        for letter, length in (("q", 4), ("c", 6)):
            for k in range(length):
                row = ["0"] * length
                row[k] = "2"
                self.right(path(f"{FAR}{letter}{' '.join(row)}"), 1)
                row[k] = "3"
                self.wrong(path(f"{FAR}{letter}{' '.join(row)}"))
                row[k] = "-2"
                self.right(path(f"{FAR_BACK}{letter}{' '.join(row)}"), 1)
                row[k] = "-3"
                self.wrong(path(f"{FAR_BACK}{letter}{' '.join(row)}"))

    def test_all_places_of_a_row_go_from_where_it_stands(self):
        self.right(path(f"{FAR}q2 2 2 2"), 1)
        self.right(path(f"{FAR}c2 2 2 2 2 2"), 1)

    def test_each_row_goes_from_the_end_of_the_one_before(self):
        self.right(path(f"{FAR}l1 1 1 1"), 1)
        self.wrong(path(f"{FAR}l1 1 1 1 1 0"))
        self.right(path(f"{FAR}q2 2 1 1 1 1 1 1"), 1)
        self.wrong(path(f"{FAR}q0 0 1 0 2 0 1 0"))
        self.right(path(f"{FAR}c0 0 2 2 1 1 1 1 1 1 1 1"), 1)
        self.wrong(path(f"{FAR}c0 0 0 0 1 0 2 0 0 0 0 0"))
        self.right(path(f"{FAR}h1 1v1 1"), 1)
        self.wrong(path(f"{FAR}h1 1 1"))
        self.wrong(path(f"{FAR}v1 1 1"))

    def test_places_beyond_that_are_left_again(self):
        self.wrong(path(f"{FAR}h3h-3"))
        self.wrong(path(f"{FAR}l0 3 0-3"))
        self.wrong(path(f"{FAR}l0 3z"))

    def test_the_first_m_goes_from_nothing(self):
        self.right(path("m32767 32767 32767 32767 2 2"), 1)
        self.wrong(path("m32767 32767 32767 32767 3 0"))
        self.wrong(path("m32767 32767 32767 32767 0 3"))

    def test_further_rows_of_m(self):
        self.right(path("M32767 32767 32767 32767 32767 32767"), 1)
        self.right(path("M0 0 32767 32767 l 32767 32767 2 2"), 1)
        self.wrong(path("M0 0 32767 32767 l 32767 32767 3 0"))
        self.wrong(path("M1 0 m 32767 0 32767 0 2 0"))

    def test_capital_letters_go_there_from_anywhere(self):
        for there in ("L", "M", "Q32767 32767 ", "C32767 32767-32767-32767 "):
            self.right(path(f"{FAR}{there}0 0l32767 32767 32767 32767 2 2"), 1)
            self.wrong(path(f"{FAR}{there}1 0l32767 32767 32767 32767 2 2"))
            self.wrong(path(f"{FAR}{there}0 1l32767 32767 32767 32767 2 2"))

    def test_h_keeps_y_and_v_keeps_x(self):
        for letter in ("H5", "h-5"):
            self.right(path(f"{FAR}{letter}v2"), 1)
            self.wrong(path(f"{FAR}{letter}v3"))
        for letter in ("V5", "v-5"):
            self.right(path(f"{FAR}{letter}h2"), 1)
            self.wrong(path(f"{FAR}{letter}h3"))

    def test_h_and_v_tell_the_place(self):
        self.right(path(f"{FAR}H32767h32767 2"), 1)
        self.wrong(path(f"{FAR}H32767h32767 3"))
        self.right(path(f"{FAR}V32767v32767 2"), 1)
        self.wrong(path(f"{FAR}V32767v32767 3"))

    def test_x_and_y_are_not_mixed(self):
        wide = "M32767 0l32767 0"
        high = "M0 32767l0 32767"
        for near in (f"{wide}v9", f"{wide}V9", f"{wide}l0 9", f"{wide}q0 9 0 9", f"{wide}c0 9 0 9 0 9", f"{high}H32767h32767"):
            self.right(path(f"{near}h2"), 1)
            self.wrong(path(f"{near}h3"))
        for near in (f"{high}h9", f"{high}H9", f"{high}l9 0", f"{high}q9 0 9 0", f"{high}c9 0 9 0 9 0", f"{wide}V32767v32767"):
            self.right(path(f"{near}v2"), 1)
            self.wrong(path(f"{near}v3"))

    def test_capital_h_and_v_add_nothing(self):
        self.right(path(f"{FAR}H32767V32767l32767 32767 2 2"), 1)
        self.wrong(path(f"{FAR}H32767V32767l32767 32767 3 0"))
        self.wrong(path(f"{FAR}H32767V32767l32767 32767 0 3"))
        self.right(path(f"{FAR_BACK}H-32767V-32767l-32767-32767-2-2"), 1)

    def test_z_stands_where_the_line_began(self):
        for letter in "Zz":
            self.right(path(f"{FAR}{letter}l32767 32767 2 2"), 1)
            self.wrong(path(f"{FAR}{letter}l32767 32767 3 0"))
            self.right(path(f"{FAR}{letter}m32767 32767 2 2"), 1)
            self.wrong(path(f"{FAR}{letter}m32767 32767 0 3"))

    def test_where_a_line_began(self):
        self.right(path("m32767 0 32767 0zh32767 2"), 1)
        self.wrong(path("m32767 0 32767 0zh32767 3"))
        self.right(path("M32767 0 0 0zh32767 2"), 1)
        self.wrong(path("M32767 0 0 0zh32767 3"))
        self.right(path("M0 0L5 0M32767 0H0zh32767 2"), 1)
        self.wrong(path("M0 0L5 0M32767 0H0zh32767 3"))
        self.right(path("M32767 0m32767 0L0 0zh2"), 1)
        self.wrong(path("M32767 0m32767 0L0 0zh3"))

    def test_a_line_behind_z_begins_where_the_last_began(self):
        self.right(path("M32767 0H0zH5zh32767 2"), 1)
        self.wrong(path("M32767 0H0zH5zh32767 3"))


if __name__ == "__main__":
    unittest.main()
