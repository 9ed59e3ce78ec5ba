"""The refusals of calls, an error class each; the bench tells their numbers."""


class TooLarge(Exception):
    """-1: a text, a list or a bound is larger than the call takes."""


class NoBoard(Exception):
    """-2: a text is no board's."""


class NotThere(Exception):
    """-4: no such hopper or part, or boards that can't be compared."""


class WrongCount(Exception):
    """-5: a list has other than as many numbers as it must have."""


class TooMany(Exception):
    """-6: the answer would take more than is looked through."""


class NeverSo(Exception):
    """-7: there is no such number of balls."""
