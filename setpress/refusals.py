"""One error for each way in which a call is refused."""


class WrongNumber(Exception):
    """-1: a list's number above 7, or a number beside it that can't be as told."""


class WrongList(Exception):
    """-3: numbers that are no right list's."""


class NotThere(Exception):
    """-4: the thing asked for is no box, or there aren't so many things."""


class NotKept(Exception):
    """-6: a list that can't be kept."""
