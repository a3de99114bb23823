"""What is told of one object, and the generations that come of it."""

OLDEST_FATHER = 12
OLDEST_FIRST = 20
MOST_TAKEN_BACK = 20


class Descent:
    """The gap, the sons, the first men and the rule, as they are told so far, and the changes that led there."""

    def __init__(self):
        self.begin(0)

    def begin(self, gap):
        self.gap = gap
        self.sons = [0] * (OLDEST_FATHER + 1)
        self.firsts = [0] * (OLDEST_FIRST + 1)
        self.rule = None
        self.earlier = []
        self.later = []

    def as_it_is(self):
        return (self.gap, tuple(self.sons), tuple(self.firsts), self.rule)

    def put_back(self, kept):
        self.gap = kept[0]
        self.sons = list(kept[1])
        self.firsts = list(kept[2])
        self.rule = kept[3]

    def mark_change(self):
        """Comes ahead of each change, also ahead of one that leaves all as it was."""
        self.earlier.append(self.as_it_is())
        if len(self.earlier) > MOST_TAKEN_BACK:
            self.earlier.pop(0)
        self.later = []

    def take_back(self):
        self.later.append(self.as_it_is())
        self.put_back(self.earlier.pop())

    def do_again(self):
        self.earlier.append(self.as_it_is())
        self.put_back(self.later.pop())


def is_counted(rule, grade):
    if rule is None:
        return True
    return rule[0] <= grade and grade < rule[1]


def first_generation(descent):
    ages = {}
    for age, men in enumerate(descent.firsts):
        if men > 0:
            ages[age] = men
    return ages


def next_generation(descent, fathers):
    ages = {}
    for came_in, men in fathers.items():
        for x, sons in enumerate(descent.sons):
            if sons > 0 and is_counted(descent.rule, x - came_in):
                age = came_in + descent.gap - x
                ages[age] = ages.get(age, 0) + men * sons
    return ages


def generation(descent, n):
    """How many men of generation n come in at each age; ages with nobody are left out."""
    ages = first_generation(descent)
    for step in range(n):
        ages = next_generation(descent, ages)
    return ages


def lost_sons(descent, fathers):
    lost = 0
    for came_in, men in fathers.items():
        for x, sons in enumerate(descent.sons):
            if not is_counted(descent.rule, x - came_in):
                lost += men * sons
    return lost


def ages_at_births(descent):
    """How old a father is at the births of all his sons, together."""
    return sum([x * sons for x, sons in enumerate(descent.sons)])
