"""Tellings as texts: how they are written, and read again."""

from ackbits.errors import BadText
from ackbits.settings import check_setting, check_telling

FIGURES = "0123456789"
NO_BITS = "-"


def written(setting, told):
    """Write a telling: its mark, a blank, and its bits, or a sign for none."""
    check_setting(setting)
    check_telling(told, setting[0], setting[1])
    mark, bits = told
    signs = "".join([str(bit) for bit in bits])
    return f"{mark} {signs or NO_BITS}"


def read(setting, text):
    """Read a telling; refuse a text that is none ahead of one that cannot be so."""
    check_setting(setting)
    blank = _end_of_mark(text)
    _check_sign(text, blank, " ")
    _check_bits(text, blank + 1)
    told = (int(text[:blank]), _bits_of(text[blank + 1:]))
    check_telling(told, setting[0], setting[1])
    return told


def _check_sign(text, place, signs):
    """Refuse the text unless one of these signs stands at this place."""
    if place >= len(text) or text[place] not in signs:
        raise BadText(place)


def _end_of_mark(text):
    """Tell the place behind the mark, which is one figure, or two but for a 0 ahead."""
    _check_sign(text, 0, FIGURES)
    if text[0] == "0" or not text[1:2].isdigit():
        return 1
    return 2


def _check_bits(text, first):
    _check_sign(text, first, "01" + NO_BITS)
    others = "" if text[first] == NO_BITS else "01"
    for place in range(first + 1, len(text)):
        _check_sign(text, place, others)


def _bits_of(signs):
    if signs == NO_BITS:
        return ()
    return tuple([int(sign) for sign in signs])
