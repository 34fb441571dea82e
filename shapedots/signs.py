"""Bytes as signs: the program reads a text in which every byte is one sign."""

BLANK = " "

# Stands for every byte that only a note may hold; it is no blank here, as all four blanks are BLANK.
STRANGE = "\n"

SMALLS = "abcdefghijklmnopqrstuvwxyz"
LETTERS = "ABCDEFGHIJKLMNOPQRSTUVWXYZabcdefghijklmnopqrstuvwxyz"
DIGITS = "0123456789"

# Bytes 33 to 126. Byte 37 shares the question mark: both may stand in a value and neither means anything.
PRINTED = "!\"#$?&'()*+,-./0123456789:;<=>?@ABCDEFGHIJKLMNOPQRSTUVWXYZ[\\]^_`abcdefghijklmnopqrstuvwxyz{|}~"


def sign_of(byte):
    if byte in (32, 9, 10, 13):
        return BLANK
    if 33 <= byte <= 126:
        return PRINTED[byte - 33]
    return STRANGE


def signs_of(text):
    return "".join([sign_of(byte) for byte in text])
