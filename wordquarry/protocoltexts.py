"""The texts of protocols: lines of words, for commits and for recovery."""

from wordquarry.errors import BadText, TooMany

MOST_LINES = 16
LISTS = ("list", "next", "back")
TAKE = {"take": ()}
# How many words a line has at most, two if nothing is told here.
MOST_WORDS = {"rename": 3, "take": 4}
# For each first word of a line the further words that may follow, but for the names of lists.
COMMIT_WORDS = {"write": ("new",), "sync": ("new", "names"), "rename": (), "remove": ("dropped",),
                "tell": ()}
RECOVERY_WORDS = {"write": (), "sync": ("names", "taken"), "rename": (), "remove": ("stray",)}


def lines_in(text):
    """The lines of a text; what is no string counts as a line that is wrong."""
    if not isinstance(text, str):
        return [""]
    return text.split("\n") if text != "" else []


def read_protocol(commit, recovery):
    """The lines of both texts, each a tuple of its words."""
    commit_lines = lines_in(commit)
    recovery_lines = lines_in(recovery)
    for lines in (commit_lines, recovery_lines):
        if len(lines) > MOST_LINES:
            raise TooMany("lines", len(lines), MOST_LINES)
    many = len(commit_lines)
    told = [read_line(commit_lines[at], at + 1, dict(COMMIT_WORDS)) for at in range(many)]
    further = [read_line(recovery_lines[at], many + at + 1,
                         dict(TAKE) if at == 0 else dict(RECOVERY_WORDS))
               for at in range(len(recovery_lines))]
    tells = [at for at in range(many) if told[at] == ("tell",)]
    if len(tells) > 1:
        raise BadText(tells[1] + 1, 1)
    if len(tells) == 0:
        raise BadText(many + 1, 1)
    if len(further) == 0:
        raise BadText(many + 1, 1)
    return tuple(told), tuple(further)


def read_line(line, number, heads):
    """The words of a line; heads tells how lines may begin, and go on."""
    words = line.split(" ")
    for at in range(len(words)):
        if words[at] not in words_behind(words[:at], heads):
            raise BadText(number, sum([len(word) + 1 for word in words[:at]]) + 1)
    many = 3 if words[0] == "rename" else 1 if words[0] == "tell" else 2
    if len(words) < many:
        raise BadText(number, len(line) + 1)
    return tuple(words)


def words_behind(ahead, heads):
    """The words with which a line goes on behind some right words."""
    if len(ahead) == 0:
        return list(heads)
    if ahead[0] == "tell":
        return []
    if len(ahead) == MOST_WORDS.get(ahead[0], 2):
        return []
    lists = [name for name in LISTS if name not in ahead]
    return lists + list(heads[ahead[0]])
