"""Reading the texts of causes."""

from overturn.errors import CauseError

CONNECTIVES = ("and", "or", "unless")
LONGEST_NAME = 8
MOST_NESTED = 7
MOST_ISSUES = 8
# What a suffix says: whether the issue is one of law, and its majority.
SUFFIXES = {"": (False, 0), "+": (False, 1), "*": (False, 2), "!": (True, 0)}


def word_end(text, place):
    """Return the place behind the run of letters, perhaps none, that begins at the place."""
    while place < len(text) and "a" <= text[place] <= "z":
        place += 1
    return place


def token_at(text, place):
    """Return the kind of the token that begins at the place, and the place behind it."""
    end = word_end(text, place)
    word = text[place:end]
    if word == "":
        return text[place], place + 1
    if word in CONNECTIVES:
        return "connective", end
    if len(word) > LONGEST_NAME:
        return "long word", end
    if end < len(text) and text[end] in SUFFIXES:
        end += 1
    return "issue", end


def tokens_of(text):
    """Return the tokens of the text as triples of place, kind and text, the last one for its end."""
    tokens = []
    place = 0
    while place < len(text):
        kind, end = token_at(text, place)
        if kind != " ":
            tokens.append((place, kind, text[place:end]))
        place = end
    tokens.append((len(text), "end", ""))
    return tokens


def name_of(token):
    """Return the name of the token of an issue, without the suffix."""
    return token[:word_end(token, 0)]


def require(tokens, at, kind):
    """Raise the error that has the kind as its reason unless the token is of this kind."""
    place, found, _ = tokens[at]
    if found != kind:
        raise CauseError(place, kind)


def cause_at(tokens, at, nested):
    """Return the cause whose first token has the index, and the index behind its last token.

    The cause stands inside so many parentheses that are still open.
    """
    place, kind, text = tokens[at]
    if kind != "(":
        require(tokens, at, "issue")
        name = name_of(text)
        of_law, majority = SUFFIXES[text[len(name):]]
        return ("issue", name, of_law, majority), at + 1
    if nested == MOST_NESTED:
        raise CauseError(place, "depth")
    first, at = cause_at(tokens, at + 1, nested + 1)
    require(tokens, at, "connective")
    connective = tokens[at][2]
    second, at = cause_at(tokens, at + 1, nested + 1)
    require(tokens, at, ")")
    return (connective, first, second), at + 1


def check_issues(tokens):
    """Raise the error of the first issue that is one too many or that has an earlier name."""
    names = []
    for place, kind, text in tokens:
        if kind != "issue":
            continue
        if len(names) == MOST_ISSUES:
            raise CauseError(place, "many")
        name = name_of(text)
        if name in names:
            raise CauseError(place, "duplicate")
        names.append(name)


def read_cause(text):
    """Return the cause that the text is; raise CauseError if it is not a valid one."""
    tokens = tokens_of(text)
    cause, at = cause_at(tokens, 0, 0)
    require(tokens, at, "end")
    check_issues(tokens)
    return cause
