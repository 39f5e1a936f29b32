"""Sets as texts."""

from tallysets.errors import NoText
from tallysets.fans import is_set

NO_FANS = "-"
FIGURES = "0123456789"
GREATEST_READ = 1000000000000000
FIGURES_READ = 16
SHOWN_AT_ONCE = 1000000000000000
FIGURES_AT_ONCE = 15


def show_number(number):
    # Piece by piece, as Python does not write numbers of some thousand figures at once.
    pieces = []
    while number >= SHOWN_AT_ONCE:
        pieces.append(str(number % SHOWN_AT_ONCE).zfill(FIGURES_AT_ONCE))
        number = number // SHOWN_AT_ONCE
    pieces.append(str(number))
    return "".join(reversed(pieces))


def show_tally(one):
    return ",".join([show_number(part) for part in one])


def show_fan(fan):
    return "+".join([show_tally(one) for one in (fan[0],) + fan[1]])


def show_set(some):
    if len(some) == 0:
        return NO_FANS
    return " | ".join([show_fan(fan) for fan in some])


def read_number(text):
    if len(text) < 1 or len(text) > FIGURES_READ:
        raise NoText("a number has no figures or too many")
    # Python itself would read blanks, signs and noughts ahead, too.
    if not all([figure in FIGURES for figure in text]):
        raise NoText("a number has something else than figures")
    if text[0] == "0" and text != "0":
        raise NoText("a number has a nought ahead")
    number = int(text)
    if number > GREATEST_READ:
        raise NoText("a number is too great")
    return number


def read_tally(text):
    return tuple([read_number(part) for part in text.split(",")])


def read_fan(text):
    tallies = [read_tally(part) for part in text.split("+")]
    return (tallies[0], tuple(tallies[1:]))


def read_set(text):
    if text == NO_FANS:
        return ()
    some = tuple([read_fan(part) for part in text.split(" | ")])
    if not is_set(some):
        raise NoText("the fans are no set")
    return some
