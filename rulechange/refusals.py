"""What a call may refuse, an error class each."""


class OutOfRange(Exception):
    pass


class NoCase(Exception):
    pass


class NoChange(Exception):
    pass
