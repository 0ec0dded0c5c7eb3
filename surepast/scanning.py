"""The tokens of texts."""

from surepast.errors import BadValue, TextError

MOST_CHARACTERS = 400
MOST_DIGITS = 6
BLANK = " "
DIGITS = "0123456789"
SIGNS = "|,"


def check_text(text):
    """Raise BadValue if this is not a text."""
    if not isinstance(text, str) or len(text) > MOST_CHARACTERS or "\n" in text:
        raise BadValue("text")


def digits_at(text, at):
    """Return the digits that stand there, as many as there are."""
    end = at
    while end < len(text) and text[end] in DIGITS:
        end += 1
    return text[at:end]


def token_at(text, at):
    """Return the token that begins there."""
    if text[at] in SIGNS:
        return ("sign", text[at], at + 1)
    digits = digits_at(text, at)
    if not digits:
        raise TextError(at + 1, "no token begins here")
    if len(digits) > MOST_DIGITS:
        raise TextError(at + 1, "a number has at most 6 digits")
    return ("number", digits, at + 1)


def tokens_of(text):
    """Return what `scan` does, for a text that was checked."""
    tokens = []
    at = 0
    while at < len(text):
        if text[at] == BLANK:
            at += 1
        else:
            token = token_at(text, at)
            tokens.append(token)
            at += len(token[1])
    tokens.append(("end", "", len(text) + 1))
    return tokens


def scan(text):
    """Return the list of the tokens of the text, each with its kind, its characters and its column."""
    check_text(text)
    return tokens_of(text)
