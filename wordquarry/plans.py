"""Plans: by which analyzer the texts of each field are cut."""

from wordquarry.analyzers import Analyzer
from wordquarry.errors import BadWord, NoField, TooMany
from wordquarry.signs import is_name

FIELDS = 12


class Plan:
    """An Analyzer for each field; it never changes."""

    def __init__(self, fields):
        if not is_plan_dict(fields):
            raise BadWord("fields")
        if len(fields) > FIELDS:
            raise TooMany("fields", len(fields), FIELDS)
        self.fields = tuple(sorted(fields))
        self._analyzers = {field: fields[field] for field in self.fields}

    def analyzer_of(self, field):
        if field not in self.fields:
            raise NoField(field)
        return self._analyzers[field]

    def tokens(self, field, text):
        """The tokens of a text in a field."""
        return self.analyzer_of(field).tokens(text)

    def __eq__(self, other):
        if not isinstance(other, Plan) or self.fields != other.fields:
            return False
        return all([self.analyzer_of(field) == other.analyzer_of(field) for field in self.fields])


def is_plan_dict(value):
    if not isinstance(value, dict) or len(value) == 0:
        return False
    return all([is_name(name) and isinstance(value[name], Analyzer) for name in value])
