"""The refusals of calls, an error class each; the bench tells their numbers."""


class OutOfBounds(Exception):
    """-1: a text, a list or a bound is larger than the call takes, or a number of rounds is 0."""


class NoBoard(Exception):
    """-2: a text is no board's."""


class NotThere(Exception):
    """-4: no such hopper or part, boards that can't be compared, or nothing to take back."""


class WrongCount(Exception):
    """-5: a list has other than as many numbers as it must have."""


class TooMany(Exception):
    """-6: the answer would take more than is looked through, or a hopper more balls than it takes."""


class NeverSo(Exception):
    """-7: there is no such number of balls."""


class NothingLaid(Exception):
    """-8: there is no board on the bench."""


class TooLate(Exception):
    """-9: something was let go already."""
