"""What a number is, and how single numbers and runs are written; the other files build on it."""

from allbutts.errors import BadText


def is_number(thing):
    """Whether thing is a number; True and False are none."""
    return isinstance(thing, int) and not isinstance(thing, bool)


def is_number_text(text):
    """Whether a number from 0 is written so: digits without a needless 0 in front."""
    # isdigit alone would also take digits of other scripts.
    if not (text.isascii() and text.isdigit()):
        return False
    return text == "0" or not text.startswith("0")


def is_size_text(text):
    """Whether a number from 1 is written so."""
    return text != "0" and is_number_text(text)


def is_run_text(text):
    """Whether a run is written so: its sign, then its size."""
    return text[:1] in ("+", "-") and is_size_text(text[1:])


def runs_in(pieces):
    """The runs that are written in these pieces; raises BadText for the first wrong one."""
    for place, piece in enumerate(pieces):
        if not is_run_text(piece):
            raise BadText(place)
    return tuple([int(piece) for piece in pieces])
