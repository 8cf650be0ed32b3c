"""Texts read by two analyzers at once, as far as it matters whether their tokens are alike.

A state is a tuple: the kinds of the last sign by both, the forms of the runs that go on (None if
there is none), the rests if they began at one place (otherwise None), and how many more places
the first analyzer has taken. What this is beyond FAR does not matter: where it is above 1, a
newline and any word make a shorter text with unlike tokens than what comes."""

from wordquarry.errors import TooMany
from wordquarry.runforms import RunForms
from wordquarry.runpairs import FewRests, RunPair

FAR = 3
STATES = 20000
FIRST = ((0, 0), None, None, None, 0)
UNLIKE = ("unlike",)


class TextPair:
    """Reads texts by two rules, sign by sign."""

    def __init__(self, one, two):
        self.one = RunForms(one)
        self.two = RunForms(two)
        self.pair = RunPair(self.one, self.two)
        self._few = FewRests()
        self._forms = {}

    def step(self, state, sign):
        """The state behind one more sign, None if it does not matter. States are to come up in the
        order of their first texts."""
        kinds, left, right, rests, more = state
        left_in = sign in self.one.rule.images
        right_in = sign in self.two.rule.images
        next_kinds = (self.one.rule.kind(sign) if left_in else 0,
                      self.two.rule.kind(sign) if right_in else 0)
        left_ends = not left_in or self.one.rule.is_parted(kinds[0], next_kinds[0])
        right_ends = not right_in or self.two.rule.is_parted(kinds[1], next_kinds[1])
        more = self.places_behind(left if left_ends else None, right if right_ends else None, rests, more)
        if more is None:
            return UNLIKE
        left = None if left_ends else left
        right = None if right_ends else right
        if left_in and right_in and (left is None and right is None or
                                     left is not None and right is not None and rests is not None):
            left, right, rests = self._both_grown(left, right, rests, sign)
        else:
            left = run_grown(self.one, left, sign) if left_in else None
            right = run_grown(self.two, right, sign) if right_in else None
            rests = None
        self._count(left, right)
        if not self._few.is_needed((next_kinds, left, right, rests is None, more), rests):
            return None
        return next_kinds, left, right, rests, more

    def _both_grown(self, left, right, rests, sign):
        if left is None:
            return self.pair.begun(sign)
        return self.pair.grown(left, right, rests, sign)

    def _count(self, left, right):
        self._forms[left, right] = True
        if len(self._forms) > STATES:
            raise TooMany("states", STATES + 1, STATES)

    def places_behind(self, left, right, rests, more):
        """How many more places the first one has taken when these runs have ended; None if
        tokens are unlike by then."""
        left_words, left_takes = self.one.outcome(left) if left is not None else ((), False)
        right_words, right_takes = self.two.outcome(right) if right is not None else ((), False)
        if len(left_words) + len(right_words) > 0:
            is_one_stretch = left is not None and right is not None and rests is not None
            if more != 0 or not is_one_stretch or not self.pair.are_alike(left, right, rests):
                return None
        if left_takes:
            more += 1
        if right_takes:
            more -= 1
        return max(-FAR, min(FAR, more))

    def is_unlike(self, state):
        """Whether the tokens of a text are unlike, if it ends here."""
        if state == UNLIKE:
            return True
        _, left, right, rests, more = state
        return self.places_behind(left, right, rests, more) is None


def run_grown(forms, form, sign):
    """The form of a run behind one more sign, or of one that begins."""
    return forms.grown("" if form is None else form, forms.rule.images[sign])
