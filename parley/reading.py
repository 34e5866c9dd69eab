"""Reading processes and definitions from lines."""

from parley.errors import BadText
from parley.processes import DIGITS, LOWER, MOST_HEIGHT, UPPER, height, is_event, is_name

MOST_BRACKETS = 20
SIGN_LEVELS = {"<": 1, "|": 2, "+": 3, ";": 4}
SIGN_KINDS = {"|": "internal", "+": "external", ";": "sequence"}


def is_in_word(sign):
    """Whether a sign is a letter or a digit."""
    return sign in LOWER or sign in UPPER or sign in DIGITS


def split_tokens(text, signs):
    """The list of the words and signs of a line.

    Of several signs that fit, the first one of the tuple is taken. A character that belongs to
    no word and no sign stands for itself, so that no grammar takes it.
    """
    found = []
    at = 0
    while at < len(text):
        end = at
        while end < len(text) and is_in_word(text[end]):
            end += 1
        if end == at:
            end += sign_length(text, at, signs)
        if text[at:end] != " ":
            found.append(text[at:end])
        at = end
    return found


def sign_length(text, at, signs):
    """The length of the sign at a place of a text, 1 for a character that begins none."""
    for sign in signs:
        if text.startswith(sign, at):
            return len(sign)
    return 1


class Reader:
    """Goes over the tokens of one line; raises BadText where they do not follow the grammar."""

    def __init__(self, text, line):
        self.line = line
        self.tokens = split_tokens(text, ("->",))
        self.at = 0
        self.brackets = 0

    def sight(self):
        """The token that is read next; the empty string at the end."""
        return self.tokens[self.at] if self.at < len(self.tokens) else ""

    def take(self):
        """Reads one token."""
        token = self.sight()
        self.at += 1
        return token

    def expect(self, sign):
        """Reads one token, which has to be the sign."""
        if self.take() != sign:
            raise BadText(self.line)

    def read_name(self):
        """Reads the process name that a definition begins with."""
        word = self.take()
        if not is_name(word):
            raise BadText(self.line)
        return word

    def read_to_end(self):
        """Reads the process that the rest of the line is."""
        process = self.read_operators()
        if self.sight() != "" or height(process) > MOST_HEIGHT:
            raise BadText(self.line)
        return process

    def read_operators(self):
        """Reads operands and the operators between them."""
        waiting = []
        process = self.read_prefix()
        while True:
            level = SIGN_LEVELS.get(self.sight(), 0)
            while waiting and waiting[-1][0] >= level:
                _, head, left = waiting.pop()
                process = (*head, left, process)
            if level == 0:
                return process
            waiting.append((level, self.read_operator(), process))
            process = self.read_prefix()

    def read_operator(self):
        """Reads the sign of an operator; gives what stands before its parts in the tuple."""
        sign = self.take()
        if sign == "<":
            return ("parallel", self.read_events(">"))
        return (SIGN_KINDS[sign],)

    def read_prefix(self):
        """Reads any number of events with arrows, and what is behind them."""
        events = []
        while is_event(self.sight()):
            events.append(self.take())
            self.expect("->")
        process = self.read_postfix()
        for event in reversed(events):
            process = ("prefix", event, process)
        return process

    def read_postfix(self):
        """Reads an atom and all that is hidden and renamed in it."""
        process = self.read_atom()
        while self.sight() in ("/", "["):
            if self.take() == "/":
                self.expect("{")
                process = ("hide", self.read_events("}"), process)
            else:
                process = ("rename", self.read_pairs(), process)
        return process

    def read_atom(self):
        """Reads a word that is a process, or a process in round brackets."""
        word = self.take()
        if word in ("stop", "skip"):
            return (word,)
        if is_name(word):
            return ("name", word)
        if word != "(" or self.brackets == MOST_BRACKETS:
            raise BadText(self.line)
        self.brackets += 1
        process = self.read_operators()
        self.expect(")")
        self.brackets -= 1
        return process

    def read_events(self, end):
        """Reads a list of events, perhaps without any, and the sign at its end."""
        events = []
        if self.sight() != end:
            events.append(self.read_event())
            while self.sight() == ",":
                self.take()
                events.append(self.read_event())
        self.expect(end)
        return tuple(sorted(set(events)))

    def read_event(self):
        """Reads one event."""
        word = self.take()
        if not is_event(word):
            raise BadText(self.line)
        return word

    def read_pairs(self):
        """Reads a list of pairs and the bracket at its end."""
        pairs = [self.read_pair()]
        while self.sight() == ",":
            self.take()
            pairs.append(self.read_pair())
        self.expect("]")
        different = sorted(set(pairs))
        if len(set([old for old, _ in different])) < len(different):
            raise BadText(self.line)
        return tuple(different)

    def read_pair(self):
        """Reads two events with a sign between them."""
        old = self.read_event()
        self.expect("=")
        return (old, self.read_event())


def read_process(text, line):
    """The process that a text writes; raises BadText with the number of the line."""
    reader = Reader(text, line)
    return reader.read_to_end()


def read_definition(text, line):
    """The pair of a name and a process that a line defines; raises BadText with its number."""
    reader = Reader(text, line)
    name = reader.read_name()
    reader.expect("=")
    return (name, reader.read_to_end())
