"""A program as it is held once its text is found right."""


class Say:

    def __init__(self, number):
        self.number = number


# A call keeps the part's name, since the part may be told later.
class Call:

    def __init__(self, name):
        self.name = name


class Make:

    def __init__(self, pieces):
        self.pieces = pieces


class When:

    def __init__(self, setting, word, body):
        self.setting = setting
        self.word = word
        self.body = body


class Part:

    def __init__(self, size, body):
        self.size = size
        self.body = body


class Program:

    # settings: each setting's words by its name, in the order told.
    # numbers: each part's number by its name. entries: their parts' numbers.
    def __init__(self):
        self.settings = {}
        self.numbers = {}
        self.parts = []
        self.entries = []


def assignment_count(program):
    count = 1
    for words in program.settings.values():
        count = count * len(words)
    return count


# The word of each setting, by the setting's name.
def words_chosen(program, assignment):
    chosen = {}
    rest = assignment
    for name, words in program.settings.items():
        chosen[name] = words[rest % len(words)]
        rest = rest // len(words)
    return chosen


# A piece that is no setting is a word and stands for itself.
def made_name(pieces, chosen):
    return "".join([chosen.get(piece, piece) for piece in pieces])
