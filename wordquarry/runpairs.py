"""One run, read by two analyzers at once.

Of both changed words what they have alike at the beginning is forgotten, as far as no end is ever
cut off it; the rests of both are kept beside the forms. However a run goes on: with the same forms
there is at most one pair of rests with which both have the same words, as what stays of the one
word tells what has to stay of the other one. So two pairs of rests, the first ones that come up,
are enough where texts with unlike words are looked for."""

from wordquarry.runforms import kept_of

ENOUGH = 2


class RunPair:
    """Reads a run by two rules."""

    def __init__(self, one, two):
        self.one = one
        self.two = two

    def begun(self, sign):
        """(form, form, rests) of a run of one sign."""
        return self.grown("", "", ("", ""), sign)

    def grown(self, left, right, rests, sign):
        """(form, form, rests) behind one more sign, which is in runs of both."""
        left_sign = self.one.rule.images[sign]
        right_sign = self.two.rule.images[sign]
        left = self.one.grown(left, left_sign)
        right = self.two.grown(right, right_sign)
        one = rests[0] + left_sign
        two = rests[1] + right_sign
        gone = min(len(one) - kept_of(left), len(two) - kept_of(right), same_beginning(one, two))
        return left, right, (one[gone:], two[gone:])

    def are_alike(self, left, right, rests):
        """Whether both runs have the same words."""
        one = self.one.outcome(left)[0]
        two = self.two.outcome(right)[0]
        return shown_words(left, rests[0], one) == shown_words(right, rests[1], two)


class FewRests:
    """Knows the first rests that came up with some forms; it changes."""

    def __init__(self):
        self._known = {}

    def is_needed(self, forms, rests):
        """Whether these rests are to be looked at with these forms."""
        known = self._known.setdefault(forms, [])
        if rests not in known and len(known) < ENOUGH:
            known.append(rests)
        return rests in known


def same_beginning(one, two):
    """How many signs two texts have alike at the beginning."""
    at = 0
    while at < min(len(one), len(two)) and one[at] == two[at]:
        at += 1
    return at


def shown_words(form, rest, words):
    """The words of a run without what is forgotten of its beginning."""
    kept = kept_of(form)
    firm = rest[:len(rest) - kept]
    return [firm + word[len(form) - kept:] for word in words]
