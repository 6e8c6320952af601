"""What a setting, a room, a wait, a mark and a telling may be."""

from ackbits.errors import BadBits, BadMark, BadSetting

# Least and greatest of each number that settings and loads are made of.
BOUNDS = {
    "marks": (2, 64),
    "wide": (0, 16),
    "late": (0, 8),
    "ahead": (1, 16),
    "room": (1, 8),
    "wait": (1, 20),
}


def check_number(word, number):
    """Refuse a number that what this word names cannot be."""
    least, most = BOUNDS[word]
    if number < least or number > most:
        raise BadSetting(word)


def check_setting(setting):
    """Refuse a setting that cannot be, by the first of its numbers that is wrong."""
    marks, wide, late, ahead = setting
    check_number("marks", marks)
    check_number("wide", wide)
    check_number("late", late)
    check_number("ahead", ahead)


def check_mark(mark, marks):
    """Refuse a mark that none of so many marks is."""
    if mark < 0 or mark >= marks:
        raise BadMark(f"there is no mark {mark}")


def check_bits(bits, wide):
    """Refuse bits that are not so many, or not each 0 or 1."""
    if len(bits) != wide:
        raise BadBits(f"{len(bits)} bits instead of {wide}")
    for bit in bits:
        if bit not in (0, 1):
            raise BadBits(f"{bit} is no bit")


def check_telling(told, marks, wide):
    """Refuse a telling that cannot be: by its mark ahead of its bits."""
    mark, bits = told
    check_mark(mark, marks)
    check_bits(bits, wide)
