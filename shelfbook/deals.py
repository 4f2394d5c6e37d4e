"""The check of pieces that a delivery and a return have in common."""

from shelfbook.errors import NoMany, TooMany


def check_pieces(out, pieces, bad):
    # The errors' words leave the numbers out: Python itself refuses to write very long ones.
    if pieces < 1 or bad < 0 or bad > pieces:
        raise NoMany("no such number of pieces, or of bad ones among them")
    if pieces > out:
        raise TooMany("more pieces than are owed, or were sold and not brought back")
