"""The refusals, one error for each, and the misfit of a field that becomes one of them."""


# Answered as -1.
class NotAllowed(Exception):
    pass


# Answered as -4.
class NotLearnt(Exception):
    pass


# Answered as -8, with the kind and the place behind it.
class BlockFault(Exception):
    def __init__(self, kind, place):
        Exception.__init__(self)
        self.kind = kind
        self.place = place


# A field out of its bounds is a fault in bytes, but not allowed in what is asked:
# whoever has the fields gone through knows which.
class Misfit(Exception):
    def __init__(self, place):
        Exception.__init__(self)
        self.place = place
