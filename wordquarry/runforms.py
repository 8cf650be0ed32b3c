"""What matters of the runs of an analyzer, whatever their length.

The changed word of a run is kept as its form: the word itself as long as a named word may come
of it; otherwise its longest end with which something that is looked for begins, and ahead of it
fillers for the other signs, one at least, but no more than matter. The steps do with a form what
they do with the word: they never look at a filler and never take one away."""

from wordquarry.wordsteps import words_after

# No run has this sign.
FILLER = "\n"


class RunForms:
    """The forms of the runs of a rule; words beside those of the steps may be named, too."""

    def __init__(self, rule, named=()):
        self.rule = rule
        self._ends = {"": True}
        self._named = {"": True}
        # longer words are dropped, kept and cut as words of this length are
        self._enough = 0
        self.outputs = self._told_outputs(list(named))
        self.constants = constants_of(rule.steps)
        self._grown = {}
        self._outcomes = {}

    def _told_outputs(self, named):
        """All pairs (what is cut off a word, what is put there) by which words may come."""
        pairs = [("", "")]
        outputs = []
        for step in self.rule.steps:
            kind = step[0]
            if kind == "both":
                outputs = outputs + pairs
            elif kind == "ends":
                pairs = self._ended_pairs(step[1], pairs)
            elif kind == "also":
                self._look_for([step[1][0]], pairs)
            elif kind == "told":
                self._look_for(step[2], pairs)
            else:
                for cut, put in pairs:
                    self._enough = max(self._enough, step[2] + 1 + len(cut) - len(put))
        outputs = list({pair: True for pair in outputs + pairs})
        self._look_for(named, outputs)
        return outputs

    def _ended_pairs(self, group, pairs):
        """The pairs behind a group of ends."""
        found = {pair: True for pair in pairs}
        for cut, put in pairs:
            for end, new, ahead in group:
                if put.endswith(end):
                    found[cut, put[:len(put) - len(end)] + new] = True
                elif end.endswith(put):
                    longer = end[:len(end) - len(put)] + cut
                    found[longer, new] = True
                    add_beginnings(longer, self._ends)
                else:
                    continue
                self._enough = max(self._enough, ahead + len(end) + len(cut) - len(put))
        return list(found)

    def _look_for(self, words, pairs):
        """Names the words of which these words come by the pairs."""
        for word in words:
            for cut, put in pairs:
                if word.endswith(put):
                    add_beginnings(word[:len(word) - len(put)] + cut, self._named)

    def named_forms(self):
        return list(self._named)

    def grown(self, form, sign):
        """The form behind one more sign of the changed word."""
        if sign == "":
            return form
        if (form, sign) not in self._grown:
            self._grown[form, sign] = self._form_of(form + sign)
        return self._grown[form, sign]

    def _form_of(self, word):
        if word in self._named:
            return word
        at = 0
        while word[at:] not in self._ends:
            at += 1
        fillers = min(at, max(self._enough - len(word) + at, 1))
        return FILLER * fillers + word[at:]

    def outcome(self, form):
        """The words of a run, with the fillers of its form, and whether it takes a place."""
        if form not in self._outcomes:
            self._outcomes[form] = words_after(self.rule.steps, form)
        return self._outcomes[form]


def add_beginnings(word, beginnings):
    for at in range(len(word) + 1):
        beginnings[word[:at]] = True


def constants_of(steps):
    """The words that come of the further words behind also."""
    found = {}
    for at in range(len(steps)):
        if steps[at][0] == "also":
            for word in steps[at][1][1:]:
                for one in words_after(steps[at + 1:], word)[0]:
                    found[one] = True
    return list(found)


def kept_of(form):
    """How many signs stand behind the fillers of a form."""
    return len(form.lstrip(FILLER))
