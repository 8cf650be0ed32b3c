"""What analyzers do with all texts, however long."""

from wordquarry.analyzers import Analyzer
from wordquarry.cutrules import CutRule
from wordquarry.errors import BadWord
from wordquarry.machines import Machine
from wordquarry.runforms import RunForms
from wordquarry.runpairs import FewRests, RunPair
from wordquarry.searches import first_text
from wordquarry.signs import WORD_LENGTH, is_word, row_signs
from wordquarry.signsorts import telling_signs
from wordquarry.textpairs import FIRST, TextPair
from wordquarry.toldwords import machine_of_words

BEGIN = -1
BROKEN = "broken"


def unlike_tokens(one, other):
    """The first shortest text with unlike tokens by two analyzers, or None."""
    check_analyzer(one)
    check_analyzer(other)
    if one == other:
        return None
    pair = TextPair(one.rule, other.rule)
    signs = telling_signs([one.rule, other.rule], [])
    return first_text(FIRST, lambda state, sign: pair.step(state, sign),
                      lambda state: pair.is_unlike(state), signs)


def shortest_text(analyzer, word):
    """The first shortest text, of at most 40 signs, with a token of this word, or None."""
    check_analyzer(analyzer)
    if not is_word(word):
        raise BadWord("word")
    rule = analyzer.rule
    forms = RunForms(rule, [word])

    def step(state, sign):
        form, kind = state
        if sign not in rule.images or rule.is_parted(kind, rule.kind(sign)):
            return None
        return forms.grown(form, rule.images[sign]), rule.kind(sign)

    def is_found(state):
        return word in forms.outcome(state[0])[0]

    return first_text(("", BEGIN), step, is_found, telling_signs([rule], [word]), WORD_LENGTH)


def told_words(analyzer):
    """The Machine that accepts just the words that come of an analyzer."""
    check_analyzer(analyzer)
    return machine_of_words(analyzer.rule)


def first_word(analyzer, machine):
    """The first shortest word that comes and that the machine accepts, or None."""
    check_analyzer(analyzer)
    if not isinstance(machine, Machine):
        raise BadWord("machine")
    words = machine_of_words(analyzer.rule)

    def step(state, sign):
        return words.after(state[0], sign), machine.after(state[1], sign)

    def is_found(state):
        return words.is_good(state[0]) and machine.is_good(state[1])

    return first_text((0, 0), step, is_found, row_signs())


def settled_word(analyzer):
    """The first shortest word that comes and of which, as a text, something else comes; None."""
    check_analyzer(analyzer)
    rule = analyzer.rule
    words = machine_of_words(rule)
    plain = CutRule([["cut", "all"]])
    runs = RunPair(RunForms(rule), RunForms(plain))
    few = FewRests()

    def step(state, sign):
        read = words.after(state[0], sign)
        run = further(state[1], sign)
        is_needed = run == BROKEN or few.is_needed((read, run[0], run[1], run[2]), run[3])
        return (read, run) if is_needed else None

    def further(run, sign):
        if run == BROKEN or sign not in rule.images:
            return BROKEN
        kind, left, right, rests = run
        if rule.is_parted(kind, rule.kind(sign)):
            return BROKEN
        left, right, rests = runs.grown(left, right, rests, sign)
        return rule.kind(sign), left, right, rests

    def is_found(state):
        if not words.is_good(state[0]):
            return False
        return state[1] == BROKEN or not runs.are_alike(state[1][1], state[1][2], state[1][3])

    signs = telling_signs([rule, plain], []).lstrip("\n ")
    return first_text((0, (BEGIN, "", "", ("", ""))), step, is_found, signs)


def check_analyzer(value):
    if not isinstance(value, Analyzer):
        raise BadWord("analyzer")
