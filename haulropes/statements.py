"""The rows of scripts, and the statements that they form."""

from haulropes.errors import ScriptError
from haulropes.words import is_name, read_integer, split_rows

MOST_ROWS = 60
MOST_LEVELS = 6

# Words of the language, which are not variables.
RESERVED = ("set", "add", "haul", "tie", "cut", "repeat", "while", "if", "else", "end", "to", "by")
# A part in great letters stands for one word of this kind, any other part for itself.
FORMS = (
    ("set", "VARIABLE", "VALUE"),
    ("add", "VARIABLE", "VALUE"),
    ("haul", "VALUE", "to", "VALUE"),
    ("haul", "VALUE", "by", "VALUE"),
    ("tie", "VALUE", "VALUE", "INTEGER"),
    ("cut", "VALUE"),
    ("repeat", "VALUE"),
    ("while", "VALUE", "SIGN", "VALUE"),
    ("if", "VALUE", "SIGN", "VALUE"),
)
WITH_BLOCKS = ("repeat", "while", "if")


class Statement:
    """A statement of a script, with the statements in its blocks."""

    def __init__(self, row, words):
        self.row = row
        self.words = words
        self.block = []
        # The block behind `else`, if there is one.
        self.otherwise = None


def parse_script(source):
    """Return the list of the statements of a script that stand in no block."""
    if not isinstance(source, str):
        raise ScriptError(0)
    rows = split_rows(source)
    script = []
    # The statements whose blocks have not ended, from the outermost one to the innermost one.
    waiting = []
    for row, text in enumerate(rows):
        if row == MOST_ROWS:
            raise ScriptError(row)
        if text == "end":
            end_statement(waiting, row)
        elif text == "else":
            begin_otherwise(waiting, row)
        else:
            add_statement(script, waiting, read_statement(row, text))
    if len(waiting) > 0:
        raise ScriptError(len(rows))
    return script


def end_statement(waiting, row):
    """Take the innermost statement off those whose blocks have not ended."""
    if len(waiting) == 0:
        raise ScriptError(row)
    waiting.pop()


def begin_otherwise(waiting, row):
    """Let a second block begin in the innermost statement."""
    if len(waiting) == 0:
        raise ScriptError(row)
    statement = waiting[-1]
    if statement.words[0] != "if" or statement.otherwise is not None:
        raise ScriptError(row)
    statement.otherwise = []


def add_statement(script, waiting, statement):
    """Put a statement behind the others in the innermost block."""
    if len(waiting) == 0:
        script.append(statement)
    elif waiting[-1].otherwise is None:
        waiting[-1].block.append(statement)
    else:
        waiting[-1].otherwise.append(statement)
    if statement.words[0] in WITH_BLOCKS:
        if len(waiting) == MOST_LEVELS:
            raise ScriptError(statement.row)
        waiting.append(statement)


def read_statement(row, text):
    """Return the statement in a row."""
    words = text.split(" ")
    for form in FORMS:
        if has_form(words, form):
            return Statement(row, words)
    raise ScriptError(row)


def has_form(words, form):
    """Return whether words have a form."""
    if len(words) != len(form):
        return False
    for word, part in zip(words, form):
        if not is_part(word, part):
            return False
    return True


def is_part(word, part):
    """Return whether a word can be this part of a statement."""
    if part == "VARIABLE":
        return is_variable(word)
    if part == "VALUE":
        return is_variable(word) or is_place(word) or read_integer(word) is not None
    if part == "INTEGER":
        return read_integer(word) is not None
    if part == "SIGN":
        return word in ("<", "=", ">")
    return word == part


def is_variable(word):
    """Return whether a word is a variable."""
    return is_name(word) and word not in RESERVED


def is_place(word):
    """Return whether a word stands for the position of a barge."""
    return len(word) == 2 and word[0] == "@" and word[1] in "0123456789"
