"""Texts of pictures, written and read."""

from partswithin.pictures import need_picture
from partswithin.signs import Signs, fault_of, read_integer


def picture_text(picture):
    need_picture(picture)
    return "".join([row_text(row) + "\n" for row in picture])


def row_text(row):
    return " ".join([str(shade) for shade in row])


def read_picture(text):
    signs = Signs(text)
    rows = []
    while not signs.ended():
        width = len(rows[0]) if len(rows) > 0 else 0
        rows.append(read_row(signs, width))
    return rows


def read_row(signs, width):
    """A row of so many shades, of any number from 1 on where width is 0."""
    row = [read_integer(signs)]
    while signs.one_of(signs_behind(len(row), width)) == " ":
        row.append(read_integer(signs))
    return row


def signs_behind(many, width):
    """The signs that can follow behind so many shades."""
    if width == 0:
        return [" ", "\n"]
    return [" "] if many < width else ["\n"]


def picture_fault(text):
    return fault_of(read_picture, text)
