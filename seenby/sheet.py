"""A sheet of cells, the steps done on it, and the calls asked of it."""

# The calls, by their numbers in the list.
BEGIN = 0
DO = 1
TAKE = 2
ALL_OF = 3

# By call: how many whole numbers stand behind its number in the list.
NUMBERS_BEHIND = (0, 7, 2, 2)

WRONG_NUMBERS = -22
NO_ROOM = -28
NO_SUCH_STEP = -2
SOMEBODY_ELSES = -1
TAKEN_BACK = -17
HUNG_ON = -16
OTHERS_HANG_ON = -13

HIGHEST_PERSON = 15
HIGHEST_KIND = 5
HIGHEST_CELL = 31
HIGHEST_MASK = 65535
MOST_STEPS = 256

# By kind (put, add, copy, sum, exchange, if nought): how many of a, b, c it
# names, and whether it names v.
CELLS_NAMED = (1, 1, 2, 3, 2, 2)
NAMES_V = (True, True, False, False, False, True)

# By kind: which of a, b, c (as 0, 1, 2) it reads, sets and adds to.
READS = ((), (), (0,), (0, 1), (0, 1), (0, 1))
SETS = ((0,), (), (1,), (2,), (0, 1), (1,))
ADDS_TO = ((), (0,), (), (), (), ())


class Step:
    """One step: whose it is, what it does to which cells, and who may see it."""

    def __init__(self, who, kind, cells, v, mask):
        self.who = who
        self.kind = kind
        self.cells = cells
        self.v = v
        self.mask = mask
        self.reads = [cells[k] for k in READS[kind]]
        self.sets = [cells[k] for k in SETS[kind]]
        self.adds_to = [cells[k] for k in ADDS_TO[kind]]
        self.hangs_on = []
        self.there = True


def names_rightly(kind, cells, v):
    """Whether the kind is one, its cells are cells, and what it doesn't name is 0."""
    if kind > HIGHEST_KIND:
        return False
    for k, cell in enumerate(cells):
        highest = HIGHEST_CELL if k < CELLS_NAMED[kind] else 0
        if cell > highest:
            return False
    return v == 0 or NAMES_V[kind]


def feeding(steps, cell, place):
    """The numbers of the steps that feed the cell at the place, rising."""
    numbers = []
    for n in range(place):
        step = steps[n]
        if not step.there:
            continue
        if cell in step.sets:
            numbers = [n]
        elif cell in step.adds_to:
            numbers.append(n)
    return numbers


def feeding_any(steps, cells, place):
    """The numbers of the steps that feed one of the cells at the place, rising."""
    numbers = {}
    for cell in cells:
        for n in feeding(steps, cell, place):
            numbers[n] = True
    return sorted(numbers)


def going_with(steps, n):
    """Step n and those that are there and hang on it, by however many steps, rising."""
    going = {n: True}
    # A step hangs on earlier ones alone, so one walk forward finds them all.
    for later in range(n + 1, len(steps)):
        step = steps[later]
        if step.there and any([m in going for m in step.hangs_on]):
            going[later] = True
    return list(going)


class Sheet:
    """The steps done since begin, those that were taken back among them."""

    def __init__(self):
        self.steps = []

    def begin(self):
        self.steps = []
        return 0

    def do(self, who, kind, cells, v, mask):
        if mask > HIGHEST_MASK or who > HIGHEST_PERSON or not names_rightly(kind, cells, v):
            return WRONG_NUMBERS
        place = len(self.steps)
        if place == MOST_STEPS:
            return NO_ROOM
        step = Step(who, kind, cells, v, mask)
        # Kept from now on: no step that is taken back feeds what a step that
        # stays reads, so what this one hangs on is the same while it is there.
        step.hangs_on = feeding_any(self.steps, step.reads, place)
        self.steps.append(step)
        return place

    def refusal(self, who, n):
        """Why who can't take step n back, whatever hangs on it; 0 if nothing forbids it."""
        if n >= len(self.steps):
            return NO_SUCH_STEP
        step = self.steps[n]
        if step.who != who:
            return SOMEBODY_ELSES
        if not step.there:
            return TAKEN_BACK
        return 0

    def take(self, who, n):
        refused = self.refusal(who, n)
        if refused != 0:
            return refused
        if len(going_with(self.steps, n)) > 1:
            return HUNG_ON
        step = self.steps[n]
        step.there = False
        return 0

    def all_of(self, who, n):
        refused = self.refusal(who, n)
        if refused != 0:
            return refused
        going = going_with(self.steps, n)
        if any([self.steps[m].who != who for m in going]):
            return OTHERS_HANG_ON
        for m in going:
            step = self.steps[m]
            step.there = False
        return len(going)


def answer(sheet, call, numbers):
    """What the sheet answers to one call, as a list of whole numbers."""
    if call == BEGIN:
        return [sheet.begin()]
    if call == DO:
        return [sheet.do(numbers[0], numbers[1], numbers[2:5], numbers[5], numbers[6])]
    if call == TAKE:
        return [sheet.take(numbers[0], numbers[1])]
    return [sheet.all_of(numbers[0], numbers[1])]


def answers(calls):
    """The answers to the calls, asked one behind another of a new sheet.

    Each answer stands behind how many numbers it has.
    """
    sheet = Sheet()
    answered = []
    place = 0
    while place < len(calls):
        call = calls[place]
        first = place + 1
        place = first + NUMBERS_BEHIND[call]
        numbers = answer(sheet, call, calls[first:place])
        answered.append(len(numbers))
        answered.extend(numbers)
    return answered
