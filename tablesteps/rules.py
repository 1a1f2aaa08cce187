"""The rules by which a step isn't right."""

NO_STEP = 1
NOT_THERE = 2
SORTS_APART = 3
NAMES_CLASH = 4


# Raised where a line is a step by its form, but breaks one of the rules behind the first.
class RuleBroken(Exception):
    def __init__(self, rule):
        self.rule = rule
