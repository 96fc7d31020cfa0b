"""A program read from its text, or the first fault of the text."""

from partpacks.faults import BAD_NUMBER, ENTRY_TWICE, Fault, LENGTH, NAME_TWICE, NOT_ALLOWED
from partpacks.faults import TOO_MANY, UNKNOWN_CALL, UNKNOWN_NAME
from partpacks.programs import Call, Make, Part, Program, Say, When
from partpacks.tokens import tokens_of

LONGEST_TEXT = 4096
MOST_SETTINGS = 3
MOST_WORDS = 4
MOST_PARTS = 10
MOST_ENTRIES = 4
MOST_PIECES = 3
MOST_WHENS_AROUND = 2
GREATEST_SIZE = 99


def read_program(text):
    if len(text) > LONGEST_TEXT:
        raise Fault(LENGTH, LONGEST_TEXT)
    reader = Reader(tokens_of(text))
    reader.read_settings()
    reader.read_parts()
    reader.read_entries()
    reader.take("end")
    reader.check_calls()
    return reader.program


class Reader:

    def __init__(self, tokens):
        self.tokens = tokens
        self.at = 0
        self.program = Program()
        self.called = []

    def kind_ahead(self):
        return self.tokens[self.at].kind

    def take(self, kind):
        token = self.tokens[self.at]
        if token.kind != kind:
            raise Fault(NOT_ALLOWED, token.place)
        self.at += 1
        return token

    def skip(self, kind):
        if self.kind_ahead() != kind:
            return False
        self.at += 1
        return True

    # The limit is looked at before what the token's name means: its fault is the lesser one.
    def take_within(self, kind, told, most):
        token = self.take(kind)
        if told == most:
            raise Fault(TOO_MANY, token.place)
        return token

    def take_size(self):
        token = self.take("number")
        if token.number < 1 or token.number > GREATEST_SIZE:
            raise Fault(BAD_NUMBER, token.place)
        return token.number

    def read_settings(self):
        settings = self.program.settings
        while self.kind_ahead() == "set":
            self.take_within("set", len(settings), MOST_SETTINGS)
            token = self.take("name")
            if token.text in settings:
                raise Fault(NAME_TWICE, token.place)
            self.take(":")
            settings[token.text] = self.read_words()

    def read_words(self):
        words = []
        more = True
        while more:
            token = self.take_within("name", len(words), MOST_WORDS)
            if token.text in words:
                raise Fault(NAME_TWICE, token.place)
            words.append(token.text)
            more = self.skip(",")
        self.take(";")
        return words

    def read_parts(self):
        self.read_part()
        while self.kind_ahead() == "part":
            self.read_part()

    def read_part(self):
        program = self.program
        self.take_within("part", len(program.parts), MOST_PARTS)
        token = self.take("name")
        if token.text in program.settings or token.text in program.numbers:
            raise Fault(NAME_TWICE, token.place)
        self.take("size")
        size = self.take_size()
        program.numbers[token.text] = len(program.parts)
        program.parts.append(Part(size, self.read_body(0)))

    # around: how many whens the statements stand in.
    def read_body(self, around):
        self.take("{")
        body = []
        while not self.skip("}"):
            body.append(self.read_statement(around))
        return body

    def read_statement(self, around):
        if self.kind_ahead() == "when":
            return self.read_when(around)
        if self.kind_ahead() == "make":
            return self.read_make()
        if self.kind_ahead() == "call":
            return self.read_call()
        self.take("say")
        statement = Say(self.take_size())
        self.take(";")
        return statement

    def read_call(self):
        self.take("call")
        token = self.take("name")
        self.called.append(token)
        self.take(";")
        return Call(token.text)

    def read_make(self):
        self.take("make")
        pieces = []
        more = True
        while more:
            token = self.take_within("name", len(pieces), MOST_PIECES)
            pieces.append(token.text)
            more = self.skip("+")
        self.take(";")
        return Make(pieces)

    def read_when(self, around):
        token = self.take("when")
        if around > MOST_WHENS_AROUND:
            raise Fault(TOO_MANY, token.place)
        setting = self.take_known(self.program.settings)
        self.take("is")
        word = self.take_known(self.program.settings[setting])
        return When(setting, word, self.read_body(around + 1))

    def take_known(self, names):
        token = self.take("name")
        if token.text not in names:
            raise Fault(UNKNOWN_NAME, token.place)
        return token.text

    def read_entries(self):
        program = self.program
        self.take("start")
        more = True
        while more:
            token = self.take_within("name", len(program.entries), MOST_ENTRIES)
            if token.text not in program.numbers:
                raise Fault(UNKNOWN_NAME, token.place)
            number = program.numbers[token.text]
            if number in program.entries:
                raise Fault(ENTRY_TWICE, token.place)
            program.entries.append(number)
            more = self.skip(",")
        self.take(";")

    # A call may name a part that is told later, so this waits for the last part.
    def check_calls(self):
        for token in self.called:
            if token.text not in self.program.numbers:
                raise Fault(UNKNOWN_CALL, token.place)
