"""Desks as texts: written row by row, and read again."""

from drawerdesk.desks import desk_with, is_name, is_number
from drawerdesk.errors import NoText

FIGURES = "0123456789"


def written(desk):
    """The desk in rows: its numbers, then each name with what it shows."""
    shown = desk.shown()
    rows = [f"desk {desk.drawers()} {desk.lost()} {desk.weight()}\n"]
    for name in shown:
        rows.append(f"{name} {shown[name]}\n")
    return "".join(rows)


def read(text):
    """The desk that was written so."""
    rows = rows_of(text)
    if len(rows) == 0:
        raise NoText(0)
    drawers, lost, weight = head_in(rows[0])
    shown = shown_in(rows, drawers)
    together = sum(shown.values()) + (drawers + 1) * lost
    if not text.endswith("\n") or together > weight:
        raise NoText(len(rows))
    return desk_with(drawers, shown, lost, weight)


def rows_of(text):
    """The rows of a text without their ends, the last one too where it has none."""
    rows = text.split("\n")
    # Behind the last line end stands nothing, and that is no row.
    if rows[-1] == "":
        rows.pop()
    return rows


def head_in(row):
    """The drawers, what is lost and all weight, as the first row tells them."""
    parts = row.split(" ")
    if len(parts) != 4 or parts[0] != "desk":
        raise NoText(0)
    drawers = number_in(parts[1])
    lost = number_in(parts[2])
    weight = number_in(parts[3])
    if not is_number(drawers, 50) or lost < 0 or weight < 0:
        raise NoText(0)
    return drawers, lost, weight


def shown_in(rows, drawers):
    """What each name shows, as the rows behind the first one tell it."""
    shown = {}
    ahead = ""
    for at in range(1, len(rows)):
        name, _, word = rows[at].partition(" ")
        number = number_in(word)
        if at > drawers or not is_name(name) or name <= ahead or number < 1:
            raise NoText(at)
        shown[name] = number
        ahead = name
    return shown


def number_in(word):
    """The number up to 10 ** 70 that this word tells in figures, or -1 where it tells none."""
    # No more figures than 10 ** 70 has: int() itself fails at some thousands.
    if not 1 <= len(word) <= 71 or (word[0] == "0" and word != "0"):
        return -1
    for figure in word:
        if figure not in FIGURES:
            return -1
    number = int(word)
    return number if number <= 10 ** 60 * 10 ** 10 else -1
