"""What the calls refuse, an error class for each refusal."""


# -1: a number handed over that is none, a line above 2, a system's text that is too long.
class NotTaken(Exception):
    pass


# -3: the system's text is at fault.
class Fault(Exception):
    def __init__(self, place, kind):
        self.place = place
        self.kind = kind


# -5: sums that are none.
class NoSums(Exception):
    pass


# -6: a number to be told that is too large.
class TooLarge(Exception):
    pass
