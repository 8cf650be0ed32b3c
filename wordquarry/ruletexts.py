"""Rule texts of analyzers: read line by line, piece by piece."""

from wordquarry.errors import BadText, BadWord, TooMany
from wordquarry.signs import CAPITALS, FIGURES, SMALL, is_text, is_word, lines_of

LINES = 30
ENDS = 24
GROUPS = 3
SET_SIGNS = 20
LIST_WORDS = 12
END_SIGNS = 10
ALSO_WORDS = 7
LENGTH_BOUND = 40
END_BOUND = 20

# The sorts of lines, in the order in which they come: the cut, parting, changing, steps.
CUT = 0
SORTS = {"cut": 0, "part": 1, "fold": 2, "leave": 2, "drop": 3, "close": 3, "end": 3, "then": 3,
         "also": 3, "both": 3}


def read_rules(text):
    """The lines of a rule text, each a list of its pieces; the errors of a wrong one."""
    if not is_text(text):
        raise BadWord("text")
    lines = lines_of(text)
    if len(lines) > LINES:
        raise TooMany("lines", len(lines), LINES)
    told = []
    for at in range(len(lines)):
        pieces = lines[at].split(" ")
        fault = fault_of(pieces, told)
        if fault < len(pieces):
            ahead = sum([len(piece) + 1 for piece in pieces[:fault]])
            raise BadText(at + 1, ahead + 1)
        if not is_whole(pieces):
            raise BadText(at + 1, len(lines[at]) + 1)
        told.append(pieces)
    check_ends([pieces[0] for pieces in told])
    return told


def check_ends(heads):
    many = len([head for head in heads if head == "end"])
    if many > ENDS:
        raise TooMany("ends", many, ENDS)
    groups = len([at for at in range(1, len(heads))
                  if heads[at] == "end" and heads[at - 1] != "end"])
    if groups > GROUPS:
        raise TooMany("groups", groups, GROUPS)


def fault_of(pieces, told):
    """The index of the first piece with which no line goes on behind the told ones, or how many
    pieces there are."""
    if not line_may_begin(pieces[0], told):
        return 0
    for at in range(1, len(pieces)):
        if not line_goes_on(pieces[:at], pieces[at], told):
            return at
    return len(pieces)


def line_may_begin(head, told):
    """Whether a line may begin so behind the told ones."""
    if head not in SORTS:
        return False
    if len(told) == 0 or SORTS[head] == CUT:
        return len(told) == 0 and SORTS[head] == CUT
    if SORTS[head] < SORTS[told[-1][0]]:
        return False
    return head != "part" or len([line for line in told if line[0] == "part"]) < 2


def line_goes_on(ahead, piece, told):
    """Whether a line that begins with some right pieces may go on with one more."""
    head = ahead[0]
    if head == "cut":
        return cut_goes_on(ahead[1:], piece)
    if head == "part":
        return len(ahead) == 1 and piece in ("rises", "changes") and ["part", piece] not in told
    if head == "fold":
        return fold_goes_on(ahead[1:], piece)
    if head == "leave":
        return len(ahead) == 1 and is_sign_set(piece)
    if head in ("drop", "close"):
        return list_goes_on(ahead[1:], piece)
    if head == "end":
        return end_goes_on(ahead[1:], piece)
    if head == "also":
        return len(ahead) <= ALSO_WORDS and is_word(piece) and piece not in ahead[1:]
    return False


def cut_goes_on(ahead, piece):
    if len(ahead) > 0 and ahead[-1] == "signs":
        letters = [sign for sign in piece if sign in SMALL + CAPITALS + FIGURES]
        return is_sign_set(piece) and len(letters) == 0
    if "all" in ahead or "signs" in ahead:
        return False
    if piece == "all":
        return len(ahead) == 0
    return piece == "signs" or piece in ("letters", "digits") and piece not in ahead


def fold_goes_on(ahead, piece):
    if len(ahead) == 0:
        return piece == "capitals" or len(piece) == 1
    return len(ahead) == 1 and len(ahead[0]) == 1 and len(piece) == 1 and piece != ahead[0]


def list_goes_on(ahead, piece):
    if len(ahead) > 0 and ahead[0] in ("under", "over"):
        return len(ahead) == 1 and is_number(piece, LENGTH_BOUND)
    return len(ahead) < LIST_WORDS and is_word(piece)


def end_goes_on(ahead, piece):
    if len(ahead) == 0:
        return 1 <= len(piece) <= END_SIGNS
    if len(ahead) == 1:
        return piece in ("off", "to")
    if ahead[1] == "to" and len(ahead) == 2:
        return 1 <= len(piece) <= len(ahead[0])
    many = 2 if ahead[1] == "off" else 3
    return len(ahead) == many and is_number(piece, END_BOUND)


def is_whole(pieces):
    """Whether pieces that are right so far are a whole line."""
    head = pieces[0]
    if head in ("then", "both"):
        return True
    if head == "cut":
        return len(pieces) > 1 and pieces[-1] != "signs"
    if head == "fold":
        return len(pieces) == 3 or pieces[-1] == "capitals"
    if head in ("drop", "close") and len(pieces) > 1 and pieces[1] in ("under", "over"):
        return len(pieces) == 3
    if head == "end":
        return len(pieces) == 4 and pieces[2] == "off" or len(pieces) == 5
    return len(pieces) > (2 if head == "also" else 1)


def is_sign_set(piece):
    """Whether a piece is a row of unlike signs, not too many."""
    return 1 <= len(piece) <= SET_SIGNS and len(set(piece)) == len(piece)


def is_number(piece, most):
    """Whether a piece is a number from 1 to most without a leading zero."""
    if not 1 <= len(piece) <= 2 or piece[0] == "0":
        return False
    return len([sign for sign in piece if sign not in FIGURES]) == 0 and int(piece) <= most
