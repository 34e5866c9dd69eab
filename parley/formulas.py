"""Formulas about the states of systems, and their texts."""

from parley.errors import BadFormula
from parley.processes import fold
from parley.reading import split_tokens
from parley.systems import is_action

MOST_HEIGHT = 50
MOST_BRACKETS = 50
# The parts of a formula are the last items of its tuple, from this index on.
FIRST_PART = {
    "true": 1,
    "not": 1,
    "and": 1,
    "or": 1,
    "can": 2,
    "must": 2,
    "might": 2,
    "loops": 1,
}
LEVELS = {"or": 1, "and": 2, "not": 3, "can": 3, "must": 3, "might": 3, "true": 4, "loops": 4}
# The least levels that the places of the parts ask for.
LEAST_LEVELS = {
    "or": (1, 2),
    "and": (2, 3),
    "not": (3,),
    "can": (3,),
    "must": (3,),
    "might": (3,),
    "true": (),
    "loops": (),
}
OPERATORS = {"|": "or", "&": "and"}
KINDS_OF_SIGNS = {"<": "can", "[": "must", "<<": "might"}
ENDS = {"<": ">", "[": "]", "<<": ">>"}


def formula_parts(formula):
    """The tuple of the parts of a formula, or of the numbers in a row of a sheet."""
    return formula[FIRST_PART[formula[0]]:]


def depth(formula):
    """The depth of a formula."""
    return fold(formula, formula_parts, depth_above)


def depth_above(formula, depths):
    """The depth of a formula, or of a row of a sheet, from the depths of its parts."""
    kind = formula[0]
    own = 1 if kind in ("loops", "can", "must", "might") else 0
    return own + max(depths, default=0)


def formula_height(formula):
    """The height of a formula."""
    return fold(formula, formula_parts, lambda place, heights: 1 + max(heights, default=0))


def show_formula(formula):
    """The text of a formula, with the fewest round brackets."""
    return fold(formula, formula_parts, written_formula)


def written_formula(formula, texts):
    """The text of a formula, from the texts of its parts."""
    kind = formula[0]
    inner = []
    for part, text, least in zip(formula_parts(formula), texts, LEAST_LEVELS[kind]):
        inner.append(f"({text})" if LEVELS[part[0]] < least else text)
    if kind == "or":
        return f"{inner[0]} | {inner[1]}"
    if kind == "and":
        return f"{inner[0]} & {inner[1]}"
    if kind == "not":
        return f"!{inner[0]}"
    if kind == "can":
        return f"<{formula[1]}> {inner[0]}"
    if kind == "must":
        return f"[{formula[1]}] {inner[0]}"
    if kind == "might":
        return f"<<{formula[1]}>> {inner[0]}"
    return kind


def parse_formula(text):
    """The formula that a text writes; raises BadFormula."""
    reader = FormulaReader(text)
    formula = reader.read_to_end()
    if formula_height(formula) > MOST_HEIGHT:
        raise BadFormula("the formula is too high")
    return formula


class FormulaReader:
    """Goes over the tokens of a text.

    What waits for its last part is kept in a list of pairs, of a level and of what stands before
    that part in the tuple; an open round bracket is a pair with the level 0.
    """

    def __init__(self, text):
        self._tokens = split_tokens(text, ("<<", ">>"))
        self._at = 0
        self._waiting = []
        self._brackets = 0

    def read_to_end(self):
        """Reads the formula that the text is."""
        formula = self._read_part()
        while True:
            sign = self._take()
            level = LEVELS[OPERATORS[sign]] if sign in OPERATORS else 1
            while self._waiting and self._waiting[-1][0] >= level:
                _, head = self._waiting.pop()
                formula = (*head, formula)
            if sign in OPERATORS:
                self._waiting.append((level, (OPERATORS[sign], formula)))
                formula = self._read_part()
            elif sign == ")" and self._waiting:
                self._waiting.pop()
                self._brackets -= 1
            elif sign == "" and not self._waiting:
                return formula
            else:
                raise BadFormula("a sign is wrong")

    def _read_part(self):
        """Reads signs that stand before a part, and the word that is one."""
        while True:
            sign = self._take()
            if sign in ("true", "loops"):
                return (sign,)
            if sign == "(" and self._brackets < MOST_BRACKETS:
                self._brackets += 1
                self._waiting.append((0, ()))
            elif sign == "!":
                self._waiting.append((LEVELS["not"], ("not",)))
            elif sign in KINDS_OF_SIGNS:
                kind = KINDS_OF_SIGNS[sign]
                self._waiting.append((LEVELS[kind], (kind, self._read_action(ENDS[sign]))))
            else:
                raise BadFormula("a part is wrong")

    def _read_action(self, end):
        """Reads an action and the sign behind it."""
        word = self._take()
        if not is_action(word) or self._take() != end:
            raise BadFormula("an action is wrong")
        return word

    def _take(self):
        """Reads one token; gives the empty string at the end."""
        token = self._tokens[self._at] if self._at < len(self._tokens) else ""
        self._at += 1
        return token
