"""The refusals, each an error that one call's answer is made from."""

GRAMMAR = 1
NAME_TAKEN = 2
NAME_MISSING = 3
TOO_MANY = 4
TOO_LARGE = 5


# -1: a minute is none, or a row is too long.
class OutOfRange(Exception):
    pass


# -3: a sky is asked for while there is none.
class NoSky(Exception):
    pass


# -4: no wave or sum has that number or name.
class NotThere(Exception):
    pass


# -6: a text is at fault. The kind is one of those above, the place how many bytes stand before it.
class AtFault(Exception):
    def __init__(self, kind, place):
        self.kind = kind
        self.place = place
