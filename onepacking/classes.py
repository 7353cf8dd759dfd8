"""The classes of numbers: a class is told by a symbol, the rest of the number by further bits."""


def class_of(number):
    """The number's class: 0 of 0, else how many bits it has."""
    return number.bit_length()


def further_width(kind):
    """How many further bits a number of the class has."""
    return kind - 1 if kind else 0


def class_start(kind):
    """The least number of the class."""
    return 1 << (kind - 1) if kind else 0
