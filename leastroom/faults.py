"""The fault of a text that tells no records."""

TEXT_TOO_LONG = 1
NO_TOKEN = 2
NOT_ALLOWED = 3
TOO_MANY = 4
TOLD_TWICE = 5
NOT_TOLD = 6
OUT_OF_BOUNDS = 7
TOO_MANY_LEAVES = 15
FORM_TOO_LONG = 16


class Fault(Exception):
    def __init__(self, code, place):
        self.code = code
        self.place = place
