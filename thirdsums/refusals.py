"""What the calls refuse, an error class for each refusal."""


# -1: a number handed over that is none, a line above 2, a system's text that is too long.
class NotTaken(Exception):
    pass


# -3: the system's text is at fault.
class Fault(Exception):
    def __init__(self, place, kind):
        self.place = place
        self.kind = kind


# -2: no such element.
class NoElement(Exception):
    pass


# -5: a part that is none, and with it the sums; for off, a V of 0.
class NotThere(Exception):
    pass


# -6: a number to be told that is too large.
class TooLarge(Exception):
    pass
