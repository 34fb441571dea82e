"""Shapes that are told by straight lines."""

from shapedots.matrices import moved
from shapedots.places import FINE, HALF
from shapedots.styles import EVENODD


# Each line is a list of places in fine steps. Lines are closed: the last place goes on to the first.
class Outline:
    def __init__(self, lines):
        self.lines = lines


# The first row whose middle is at y or below it.
def row_from(y):
    return -((HALF - y) // FINE)


# A piece meets the rows whose middle is at its upper end or below it, but above its lower end. A dot's sum changes
# at the first column whose middle is at the piece or right of it.
def count_piece(changes, piece, change, window):
    upper = piece[0]
    lower = piece[1]
    depth = FINE * (lower[1] - upper[1])
    across = FINE * (lower[0] - upper[0])
    lead = (HALF - upper[0]) * (lower[1] - upper[1]) - (HALF - upper[1]) * (lower[0] - upper[0])
    first = max(window.first_row, row_from(upper[1]))
    for row in range(first, min(window.behind_row, row_from(lower[1]))):
        column = -((lead - across * row) // depth)
        if column < 0:
            column = 0
        elif column > window.width:
            column = window.width
        dot = row * window.row_length + column
        changes[dot] = changes.get(dot, 0) + change


# How often each straight piece is gone downwards, less how often upwards: many may lie one upon another.
def pieces_of(lines, matrix):
    pieces = {}
    for line in lines:
        places = [moved(matrix, place) for place in line]
        for k in range(len(places)):
            if places[k - 1][1] <= places[k][1]:
                piece = (places[k - 1], places[k])
                pieces[piece] = pieces.get(piece, 0) + 1
            else:
                piece = (places[k], places[k - 1])
                pieces[piece] = pieces.get(piece, 0) - 1
    return pieces


# By how much the sum at a dot differs from the sum at the dot left of it.
def sum_changes(outline, matrix, window):
    changes = {}
    pieces = pieces_of(outline.lines, matrix)
    for piece in pieces:
        if pieces[piece] != 0:
            count_piece(changes, piece, pieces[piece], window)
    return changes


def is_inside(total, rule):
    if rule == EVENODD:
        return total % 2 == 1
    return total != 0


# Closed lines cross a row as often downwards as upwards, so no span goes on beyond the end of its row.
def outline_spans(outline, matrix, rule, window):
    fine_matrix = matrix[:4] + (FINE * matrix[4], FINE * matrix[5])
    changes = sum_changes(outline, fine_matrix, window)
    spans = []
    total = 0
    begin = 0
    for dot in sorted(changes):
        if is_inside(total, rule):
            spans.append((begin, dot))
        total += changes[dot]
        begin = dot
    return spans
