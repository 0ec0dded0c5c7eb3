"""Models, signs and rows, read from their texts."""

from surepast.errors import BadValue, TextError
from surepast.models import MOST_COST, MOST_KINDS, MOST_SIGNS, MOST_STATES, check_model
from surepast.scanning import SIGNS, check_text, tokens_of

A_NUMBER = "a number"
THE_END = "the end"
NO_STATE = "there is no such state"
NO_SIGN = "there is no such sign"
STATE_MISSING = "a state is missing"
SIGN_MISSING = "a sign is missing"


def quoted(sign):
    """Return the words for a sign of the grammar."""
    return '"' + sign + '"'


def coming_in_model(before):
    """Return the list of what can come behind these tokens of the text of a model."""
    if not before or before[-1][0] == "sign":
        return [A_NUMBER]
    bars = len([characters for kind, characters, column in before if characters == "|"])
    allowed = {"|": bars < 2, ",": bars > 0}
    found = [A_NUMBER] + [quoted(sign) for sign in SIGNS if allowed[sign]]
    return found + [THE_END] if bars == 2 else found


def coming_behind(before, kind):
    """Return the list of what can come behind these tokens of a text of this kind."""
    return coming_in_model(before) if kind == "model" else [A_NUMBER, THE_END]


def words_for(token):
    """Return the words for what the token is in a grammar."""
    kind, characters = token[:2]
    if kind == "sign":
        return quoted(characters)
    return A_NUMBER if kind == "number" else THE_END


def listed(words):
    """Return the words as they are listed in a problem."""
    last = words[-1]
    return ", ".join(words[:-1]) + " or " + last if len(words) > 1 else last


def check_tokens(tokens, kind):
    """Raise TextError for the first one of the tokens that cannot come at its place."""
    for at, token in enumerate(tokens):
        able = coming_behind(tokens[:at], kind)
        if words_for(token) not in able:
            raise TextError(token[2], "expected " + listed(able))


def right_tokens(text, kind):
    """Return the tokens of the text, if they are those of a text of this kind."""
    check_text(text)
    tokens = tokens_of(text)
    check_tokens(tokens, kind)
    return tokens


class Reader:
    """Reads a model, token by token.

    What was read is a list of its parts, each a list of rows of costs. The last row is still open.
    """

    def __init__(self):
        self.parts = [[[]]]

    def place_problem(self):
        """Return the words for why there is no place for one more cost, or None."""
        states = len(self.parts[0][0])
        rows = self.parts[-1]
        many = len(rows[-1])
        if len(self.parts) == 1:
            return "there are at most 3 states" if many == MOST_STATES else None
        if len(rows) > states:
            return NO_STATE
        if len(self.parts) == 2:
            return NO_STATE if many == states else None
        if len(rows) == 1:
            return "there are at most 3 signs" if many == MOST_KINDS else None
        return NO_SIGN if many == len(rows[0]) else None

    def closing_problem(self, ends_part):
        """Return the words for why the open row cannot be closed, and its part too if this ends here, or None."""
        states = len(self.parts[0][0])
        rows = self.parts[-1]
        # The begin costs are one row, however many states there are.
        if len(self.parts) == 1:
            return None
        if len(self.parts) == 2 and len(rows[-1]) < states:
            return STATE_MISSING
        if len(self.parts) == 3 and len(rows[-1]) < len(rows[0]):
            return SIGN_MISSING
        return STATE_MISSING if ends_part and len(rows) < states else None

    def problem(self, kind, characters):
        """Return the words for the problem of the next token, or None."""
        if kind != "number":
            return self.closing_problem(characters != ",")
        words = self.place_problem()
        if words is None and int(characters) > MOST_COST:
            return "a cost is from 0 to 3"
        return words

    def read(self, kind, characters):
        """Read the next token, which has no problem."""
        if kind == "number":
            self.parts[-1][-1].append(int(characters))
        elif characters == ",":
            self.parts[-1].append([])
        elif characters == "|":
            self.parts.append([[]])

    def whole(self):
        """Return the model, of which all was read."""
        begin, change, show = self.parts
        return (tuple(begin[0]), tuple([tuple(costs) for costs in change]), tuple([tuple(costs) for costs in show]))


def numbers_of(tokens, bound, too_many, too_great):
    """Return the numbers that the tokens are, at most twenty, each of them less than the bound."""
    found = []
    for kind, characters, column in tokens[:-1]:
        if len(found) == MOST_SIGNS:
            raise TextError(column, too_many)
        if int(characters) >= bound:
            raise TextError(column, too_great)
        found.append(int(characters))
    return tuple(found)


def next_tokens(text, kind):
    """Return the list of what can come behind the tokens of the text, the beginning of a text of this kind."""
    check_text(text)
    if not isinstance(kind, str) or kind not in ("model", "numbers"):
        raise BadValue("kind")
    tokens = tokens_of(text)[:-1]
    check_tokens(tokens, kind)
    return coming_behind(tokens, kind)


def read_model(text):
    """Return the model that the text tells."""
    reader = Reader()
    for kind, characters, column in right_tokens(text, "model"):
        words = reader.problem(kind, characters)
        if words is not None:
            raise TextError(column, words)
        reader.read(kind, characters)
    return reader.whole()


def read_signs(model, text):
    """Return the signs that the text tells."""
    check_model(model)
    tokens = right_tokens(text, "numbers")
    return numbers_of(tokens, len(model[2][0]), "there are at most 20 signs", NO_SIGN)


def read_row(model, text):
    """Return the row that the text tells."""
    check_model(model)
    tokens = right_tokens(text, "numbers")
    return numbers_of(tokens, len(model[0]), "there are at most 20 states", NO_STATE)
