"""What is told of one object, and the generations that come of it."""

OLDEST_FATHER = 12
OLDEST_FIRST = 20


class Descent:
    """The gap, the sons, the first men and the rule, as they are told so far."""

    def __init__(self):
        self.begin(0)

    def begin(self, gap):
        self.gap = gap
        self.sons = [0] * (OLDEST_FATHER + 1)
        self.firsts = [0] * (OLDEST_FIRST + 1)
        self.rule = None


def is_counted(rule, grade):
    if rule is None:
        return True
    return rule[0] <= grade and grade < rule[1]


def first_generation(descent):
    ages = {}
    for age, men in enumerate(descent.firsts):
        if men > 0:
            ages[age] = men
    return ages


def next_generation(descent, fathers):
    ages = {}
    for came_in, men in fathers.items():
        for x, sons in enumerate(descent.sons):
            if sons > 0 and is_counted(descent.rule, x - came_in):
                age = came_in + descent.gap - x
                ages[age] = ages.get(age, 0) + men * sons
    return ages


def generation(descent, n):
    """How many men of generation n come in at each age; ages with nobody are left out."""
    ages = first_generation(descent)
    for step in range(n):
        ages = next_generation(descent, ages)
    return ages
