"""What can be wrong with a program's text."""

LENGTH = 1
NO_TOKEN = 2
NOT_ALLOWED = 3
TOO_MANY = 4
NAME_TWICE = 5
ENTRY_TWICE = 6
BAD_NUMBER = 7
UNKNOWN_NAME = 8
UNKNOWN_CALL = 9


class Fault(Exception):

    def __init__(self, code, place):
        self.code = code
        self.place = place
