"""What a call raises when it is refused: one error class for each refusal."""


class NotBegun(Exception):
    pass


class NotAllowed(Exception):
    pass


class NothingLeft(Exception):
    pass


class NoSuchLine(Exception):
    pass


class DraftFull(Exception):
    pass
