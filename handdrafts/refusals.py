"""What a call raises when it is refused: one error class for each refusal."""


class NotBegun(Exception):
    pass


class NotAllowed(Exception):
    pass


class NothingLeft(Exception):
    pass


class NotThere(Exception):
    pass


class NoDraft(Exception):
    pass


class Clash(Exception):
    def __init__(self, hand, number):
        self.hand = hand
        self.number = number


class DraftFull(Exception):
    pass
