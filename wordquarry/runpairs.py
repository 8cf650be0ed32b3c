"""One run, read by two analyzers at once.

Of both changed words what they have alike at the beginning is forgotten as far as no end is ever
cut off it; the rests are kept, or APART where no word of the one run can become one of the other
any more."""

from wordquarry.runforms import kept_of

APART = ()


class RunPair:
    """Reads a run by two rules."""

    def __init__(self, one, two):
        self.one = one
        self.two = two
        self._one_loses = loses(one.rule.images, two.rule.images)
        self._two_loses = loses(two.rule.images, one.rule.images)

    def begun(self, sign):
        """(form, form, rests) of a run of one sign."""
        return self.grown("", "", ("", ""), sign)

    def grown(self, left, right, rests, sign):
        """(form, form, rests) behind one more sign, which is in runs of both."""
        left_sign = self.one.rule.images[sign]
        right_sign = self.two.rule.images[sign]
        left = self.one.grown(left, left_sign)
        right = self.two.grown(right, right_sign)
        if rests != APART:
            rests = self._rests(left, right, rests[0] + left_sign, rests[1] + right_sign)
        return left, right, rests

    def _rests(self, left, right, one, two):
        if self.one.is_spent(left) or self.two.is_spent(right):
            return APART
        same = same_beginning(one, two)
        left_firm = len(one) - kept_of(left)
        right_firm = len(two) - kept_of(right)
        if self._is_apart(one, two, same, left_firm, right_firm):
            if not self._has_constants(left, right, one[:left_firm], two[:right_firm]):
                return APART
        gone = min(same, left_firm, right_firm)
        return one[gone:], two[gone:]

    def _is_apart(self, one, two, same, left_firm, right_firm):
        """Whether what is left of one word by the steps will never be what is left of the other."""
        if len(two) - self.two.most_cut > len(one) and not self._two_loses:
            return True
        if len(one) - self.one.most_cut > len(two) and not self._one_loses:
            return True
        if same == len(one) or same == len(two):
            return False
        return (left_firm > same and right_firm > same
                or left_firm > same + self.two.most_put
                or right_firm > same + self.one.most_put)

    def _has_constants(self, left, right, left_firm, right_firm):
        """Whether words behind also may still be words of the other run. (Nothing is forgotten
        while a form is named, so what is firm begins at the beginning of the word.)"""
        left_named = self.one.is_named(left) and len(self.one.constants) > 0
        right_named = self.two.is_named(right) and len(self.two.constants) > 0
        if left_named and right_named:
            return True
        if left_named:
            return any([word.startswith(right_firm) for word in self.one.constants])
        return right_named and any([word.startswith(left_firm) for word in self.two.constants])

    def are_alike(self, left, right, rests):
        """Whether both runs have the same words."""
        one = self.one.outcome(left)[0]
        two = self.two.outcome(right)[0]
        if len(one) != len(two):
            return False
        if rests == APART or len(one) == 0:
            return len(one) == 0
        return shown_words(left, rests[0], one) == shown_words(right, rests[1], two)


def loses(images, others):
    """Whether some sign is left out here and not there."""
    return any([images[sign] == "" and others.get(sign, "") != "" for sign in images])


def same_beginning(one, two):
    """How many signs two texts have alike at the beginning."""
    at = 0
    while at < min(len(one), len(two)) and one[at] == two[at]:
        at += 1
    return at


def shown_words(form, rest, words):
    """The words of a run without what is forgotten of its beginning."""
    kept = kept_of(form)
    firm = rest[:len(rest) - kept]
    return [firm + word[len(form) - kept:] for word in words]
