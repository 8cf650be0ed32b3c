"""The machine of all words that come of an analyzer.

A way through it reads the signs of a word as those of the changed word of a run, up to where
something is cut off: this is gone through on the spot, and what is put there is read behind."""

from wordquarry.errors import TooMany
from wordquarry.machines import Machine, machine_of_lots
from wordquarry.runforms import RunForms
from wordquarry.signs import row_signs

STATES = 20000
BEGIN = -1
IN_RUN = 0
BEHIND = 1


class WordWays:
    """The states of these ways: (IN_RUN, form, kind of the last sign), (BEHIND, text, BEGIN)."""

    def __init__(self, rule):
        self.rule = rule
        self.forms = RunForms(rule)
        self._kinds = {}
        self._kinds_behind = {}
        for sign in rule.images:
            known = self._kinds.setdefault(rule.images[sign], {})
            known[rule.kind(sign)] = True
        self._ended = {}

    def firsts(self):
        """The states at the beginning, among them those of the words of all named forms."""
        states = self._with_ends("", self._closed((BEGIN,)))
        for form in self.forms.named_forms():
            if self._may_follow(self._closed((BEGIN,)), form):
                states = states + [(BEHIND, word, BEGIN) for word in self.forms.outcome(form)[0]]
        return states

    def behind(self, state, sign):
        if sign is None:
            return []
        where, text, kind = state
        if where == BEHIND:
            return [(BEHIND, text[1:], BEGIN)] if text.startswith(sign) else []
        form = self.forms.grown(text, sign)
        return self._with_ends(form, self._kinds_after((kind,), sign))

    def is_end(self, state):
        return state == (BEHIND, "", BEGIN)

    def check_forms(self, letters):
        """Refuses more forms than are let, before anything is done with them."""
        forms = [""]
        met = {"": True}
        at = 0
        while at < len(forms):
            for sign in letters:
                form = self.forms.grown(forms[at], sign)
                if form not in met:
                    met[form] = True
                    forms.append(form)
                    if len(forms) > STATES:
                        raise TooMany("states", STATES + 1, STATES)
            at += 1

    def letters(self):
        """The signs of words, and for each the first one that does all that it does."""
        named = "".join(self.forms.constants + self.forms.named_forms() +
                        [cut + put for cut, put in self.forms.outputs])
        named = {sign: True for sign in named}
        letters = {}
        firsts = {}
        for sign in row_signs():
            if sign in named:
                letters[sign] = sign
            elif sign in self._kinds:
                letters[sign] = firsts.setdefault(tuple(sorted(self._kinds[sign])), sign)
        return letters

    def _kinds_after(self, kinds, sign):
        """The kinds that the last sign of a run may have behind one more changed sign."""
        if (kinds, sign) not in self._kinds_behind:
            further = self._next_kinds(kinds, self._kinds.get(sign, {}))
            self._kinds_behind[kinds, sign] = self._closed(further)
        return self._kinds_behind[kinds, sign]

    def _closed(self, kinds):
        """These kinds, and those of signs that are left out behind them."""
        found = {kind: True for kind in kinds}
        many = 0
        while len(found) > many:
            many = len(found)
            further = self._next_kinds(list(found), self._kinds.get("", {}))
            for kind in further:
                found[kind] = True
        return tuple(sorted(found))

    def _next_kinds(self, kinds, further):
        return [kind for kind in further
                if any([one == BEGIN or not self.rule.is_parted(one, kind) for one in kinds])]

    def _may_follow(self, kinds, text):
        """Whether a run may go on so, seen by its changed signs."""
        for sign in text:
            kinds = self._kinds_after(kinds, sign)
        return len(kinds) > 0

    def _with_ends(self, form, kinds):
        """The states with a form, and those where what is put for an end is to be read."""
        if (form, kinds) not in self._ended:
            self._ended[form, kinds] = self._told_ends(form, kinds)
        return self._ended[form, kinds]

    def _told_ends(self, form, kinds):
        puts = {}
        for cut, put in self.forms.outputs:
            if self._may_follow(kinds, cut):
                whole = form
                for sign in cut:
                    whole = self.forms.grown(whole, sign)
                word = whole[:len(whole) - len(cut)] + put
                if word in self.forms.outcome(whole)[0]:
                    puts[put] = True
        return ([(IN_RUN, form, kind) for kind in kinds] +
                [(BEHIND, put, BEGIN) for put in puts])


def machine_of_words(rule):
    """The machine that accepts just the words that come."""
    ways = WordWays(rule)
    letters = ways.letters()
    firsts = list({letters[sign]: True for sign in letters})
    ways.check_forms(firsts)
    told = machine_of_lots(ways.firsts(), lambda state, sign: ways.behind(state, sign),
                           lambda state: ways.is_end(state), firsts, None)
    rows = [[told.after(state, letters[sign]) for sign in letters] + [told.after(state, None)]
            for state in range(told.states)]
    return Machine(list(letters), rows, told.good)
