"""Analyzers: from texts to tokens, by a rule text."""

from wordquarry.cutrules import CutRule
from wordquarry.errors import BadWord
from wordquarry.ruletexts import read_rules
from wordquarry.signs import WORD_LENGTH, is_text


class Analyzer:
    """Cuts texts into tokens by a rule text; it never changes."""

    def __init__(self, text):
        self.rule = CutRule(read_rules(text))
        self.text = text

    def tokens(self, text):
        """The tokens (word, place, start, end) of a text."""
        if not is_text(text):
            raise BadWord("text")
        return self.rule.tokens(text, WORD_LENGTH)

    def words_of(self, text):
        """The words of the tokens of a text."""
        return [token[0] for token in self.tokens(text)]

    def __eq__(self, other):
        return isinstance(other, Analyzer) and self.text == other.text
