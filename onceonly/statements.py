"""The statements of scripts, and how they are read."""

from onceonly.errors import ScriptError
from onceonly.words import is_integer, is_name

MOST_ROWS = 60
MOST_LEVELS = 4
SIGNS = ("<", "=", ">")

# What follows the first word of each row.
FORMS = {
    "set": ("variable", "value"),
    "add": ("variable", "value"),
    "request": ("value",),
    "deliver": ("value", "value", "value", "value", "value"),
    "lose": ("value", "value", "value", "value"),
    "step": (),
    "run": ("value",),
    "print": ("value",),
    "repeat": ("value",),
    "if": ("value", "sign", "value"),
    "else": (),
    "end": (),
}


class Statement:
    """A statement at a row; `otherwise` is the block behind its `else`."""

    def __init__(self, row, words):
        self.row = row
        self.word = words[0]
        self.arguments = words[1:]
        self.block = []
        self.otherwise = []
        self.has_else = False


def is_variable(word):
    """Tell whether a word is a variable."""
    return is_name(word) and word not in FORMS and word != "now"


def is_question(word):
    """Tell whether a word asks for the acts of a service or whether it remembers the key."""
    kind, point, service = word.partition(".")
    return kind in ("acts", "key") and point == "." and len(service) == 1 and is_integer(service)


def is_part(word, part):
    """Tell whether a word can be a part of a row: a variable, a sign or a value."""
    if part == "sign":
        return word in SIGNS
    if is_variable(word):
        return True
    return part == "value" and (word == "now" or is_integer(word) or is_question(word))


def is_row(words):
    """Tell whether these words can be a row, whatever stands before and behind it."""
    parts = FORMS.get(words[0])
    if parts is None or len(words) != 1 + len(parts):
        return False
    return all([is_part(word, part) for word, part in zip(words[1:], parts)])


def begin_otherwise(unfinished, row):
    """Begin the block behind the `else` at a row."""
    if not unfinished or unfinished[-1].word != "if" or unfinished[-1].has_else:
        raise ScriptError(row)
    statement = unfinished[-1]
    statement.has_else = True


def finish_statement(unfinished, row):
    """Finish the statement to which the `end` at a row belongs."""
    if not unfinished:
        raise ScriptError(row)
    unfinished.pop()


def add_statement(script, unfinished, row, words):
    """Add the statement that begins at a row to the block in which it stands."""
    statement = Statement(row, words)
    if not unfinished:
        script.append(statement)
    elif unfinished[-1].has_else:
        unfinished[-1].otherwise.append(statement)
    else:
        unfinished[-1].block.append(statement)
    if statement.word in ("repeat", "if"):
        if len(unfinished) >= MOST_LEVELS:
            raise ScriptError(row)
        unfinished.append(statement)


def parse_script(source):
    """Return the list of the statements of a script."""
    rows = source.split("\n") if source else []
    script = []
    # The statements whose `end` is to come, the innermost one at the end.
    unfinished = []
    for row, text in enumerate(rows):
        words = text.split(" ")
        if row >= MOST_ROWS or not is_row(words):
            raise ScriptError(row)
        if words[0] == "else":
            begin_otherwise(unfinished, row)
        elif words[0] == "end":
            finish_statement(unfinished, row)
        else:
            add_statement(script, unfinished, row, words)
    if unfinished:
        raise ScriptError(len(rows))
    return script
