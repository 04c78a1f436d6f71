"""The one list that a call answers, and the numbers of the refusals."""

OUT_OF_BOUNDS = -1
TOO_MANY = -2
TOO_MANY_POINTS = -3
LENGTHS_DIFFER = -5
NO_LANE = -6


def answer(number, told):
    """A call's one list: the number, no bytes, how many numbers are told, and they."""
    return [number, 0, len(told)] + told


def bytes_answer(told):
    """The list of a call that tells bytes: how many, then they with how many before them, and no numbers."""
    return [len(told), len(told)] + told + [0]


def refusal(number):
    """A refusal that tells nothing but its number."""
    return answer(number, [])
