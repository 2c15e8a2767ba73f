"""Whole numbers as they are written, of however many figures."""

FIGURES = "0123456789"


def show_number(number):
    # One by one, as Python itself writes only so many figures.
    left = abs(number)
    signs = []
    while left > 0 or not signs:
        left, figure = divmod(left, 10)
        signs.append(FIGURES[figure])
    if number < 0:
        signs.append("-")
    return "".join(signs[::-1])


def read_count(text):
    """The number from 0 that is written so; None where none is."""
    if text == "" or (text[0] == "0" and text != "0"):
        return None
    number = 0
    for sign in text:
        if sign not in FIGURES:
            return None
        number = number * 10 + FIGURES.index(sign)
    return number


def read_number(text):
    """The number, below 0 too, that is written so; None where none is."""
    if text[:1] != "-":
        return read_count(text)
    number = read_count(text[1:])
    return None if number is None or number == 0 else -number
