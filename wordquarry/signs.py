"""Signs, texts, words, names and integers: what any value is."""

SIGNS = ("\n !\"#$&'()*+,-./0123456789:;<=>?@ABCDEFGHIJKLMNOPQRSTUVWXYZ"
         "[\\]^_`abcdefghijklmnopqrstuvwxyz{|}~")
BLANKS = "\n "
SMALL = "abcdefghijklmnopqrstuvwxyz"
CAPITALS = "ABCDEFGHIJKLMNOPQRSTUVWXYZ"
FIGURES = "0123456789"
WORD_LENGTH = 40
NAME_LENGTH = 12


def all_signs():
    """All signs, in their order."""
    return SIGNS


def row_signs():
    """The signs that may stand in a row: neither blank nor newline."""
    return SIGNS[2:]


def is_sign(value):
    return isinstance(value, str) and len(value) == 1 and value in SIGNS


def is_text(value):
    return isinstance(value, str) and len(set(value) - set(SIGNS)) == 0


def is_row(value):
    """Whether a value is a text of one or more signs without blank and newline."""
    return is_text(value) and len(value) > 0 and " " not in value and "\n" not in value


def is_word(value):
    return is_row(value) and len(value) <= WORD_LENGTH


def is_name(value):
    if not isinstance(value, str) or not 1 <= len(value) <= NAME_LENGTH:
        return False
    return len(set(value) - set(SMALL)) == 0


def is_integer(value):
    return isinstance(value, int) and not isinstance(value, bool)


def lines_of(text):
    """The parts of a text between its newlines."""
    return tuple(text.split("\n"))
