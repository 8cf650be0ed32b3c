"""Drawn rule texts for tests."""

from wordquarry.analyzers import Analyzer
from wordquarry.errors import SearchError


def word(pick, signs, most=2):
    return "".join(pick.choice(signs) for _ in range(pick.randint(1, most)))


def lot(pick, signs, most):
    return "".join(pick.sample(signs, pick.randint(1, most)))


def cut(pick):
    if pick.random() < 0.25:
        return "cut all"
    parts = [part for part in ("letters", "digits") if pick.random() < 0.6]
    pick.shuffle(parts)
    if pick.random() < 0.4 or not parts:
        parts += ["signs", lot(pick, "-'!", 2)]
    return "cut " + " ".join(parts)


def change(pick):
    kind = pick.choice(("capitals", "fold", "leave"))
    if kind == "leave":
        return "leave " + lot(pick, "abA1-'", 2)
    return "fold capitals" if kind == "capitals" else "fold {} {}".format(*pick.sample("abAB1-'", 2))


def step(pick):
    signs = pick.choice(("ab", "abA", "ab1-"))
    kind = pick.choice(("told", "bound", "bound", "end", "end", "end", "also", "both", "then"))
    if kind == "told":
        told = [word(pick, signs) for _ in range(pick.randint(1, 3))]
        return pick.choice(("drop ", "close ")) + " ".join(told)
    if kind == "bound":
        return "{} {} {}".format(pick.choice(("drop", "close")), pick.choice(("under", "over")),
                                 pick.randint(1, 3))
    if kind == "end":
        end = word(pick, signs)
        put = "off" if pick.random() < 0.5 else "to " + word(pick, signs, len(end))
        return "end {} {} {}".format(end, put, pick.randint(1, 3))
    if kind == "also":
        return "also " + " ".join(pick.sample(("a", "b", "ab", "ba", "bb", "A", "a1"), pick.randint(2, 3)))
    return kind


def rules(pick, most):
    rest = pick.randint(0, most - 1)
    lines = [cut(pick)]
    if rest > 0 and pick.random() < 0.3:
        lines.append(pick.choice(("part rises", "part changes")))
        rest -= 1
    while rest > 0 and pick.random() < 0.4:
        lines.append(change(pick))
        rest -= 1
    return lines + [step(pick) for _ in range(rest)]


def analyzer(lines):
    """The analyzer of some lines, None if they are wrong."""
    try:
        return Analyzer("\n".join(lines))
    except SearchError:
        return None


def drawn(pick, most=5):
    while True:
        lines = rules(pick, most)
        if analyzer(lines) is not None:
            return lines


def near(pick, lines, most=5):
    """Rules that differ somewhat from others."""
    for _ in range(30):
        new = list(lines)
        at = pick.randrange(len(new))
        way = pick.random()
        if way < 0.3 and at > 0:
            del new[at]
        elif way < 0.6:
            new[at] = new[at].replace("a", "b", 1) if pick.random() < 0.5 else new[at].replace("1", "2")
        elif way < 0.8 and 0 < at < len(new) - 1:
            new[at], new[at + 1] = new[at + 1], new[at]
        else:
            new.append(step(pick))
        if new != lines and len(new) <= most and analyzer(new) is not None:
            return new
    return lines
