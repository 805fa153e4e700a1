"""A sheet of cells, the steps done on it, and the calls asked of it."""

# The calls but the last, from_, by their numbers in the list.
BEGIN = 0
DO = 1
TAKE = 2
ALL_OF = 3
GIVE = 4
READ = 5
SEEN = 6

# By call: how many whole numbers stand behind its number in the list.
NUMBERS_BEHIND = (0, 7, 2, 2, 2, 2, 1, 1)

WRONG_NUMBERS = -22
NO_ROOM = -28
NO_SUCH_STEP = -2
SOMEBODY_ELSES = -1
IS_SO_ALREADY = -17
HUNG_ON = -16
OTHERS_HANG_ON = -13
READS_OTHERWISE = -11
MAY_NOT_SEE = -13

HIGHEST_PERSON = 15
HIGHEST_KIND = 5
HIGHEST_CELL = 31
HIGHEST_MASK = 65535
MOST_STEPS = 256
EVERYBODY = 65535
BEYOND_NUMBERS = 4294967296

# The kinds of steps but the last, if nought.
PUT = 0
ADD = 1
COPY = 2
SUM = 3
EXCHANGE = 4

# By kind: how many of a, b, c it names, and whether it names v.
CELLS_NAMED = (1, 1, 2, 3, 2, 2)
NAMES_V = (True, True, False, False, False, True)

# By kind: which of a, b, c (as 0, 1, 2) it reads, sets and adds to.
READS = ((), (), (0,), (0, 1), (0, 1), (0, 1))
SETS = ((0,), (), (1,), (2,), (0, 1), (1,))
ADDS_TO = ((), (0,), (), (), (), ())


class Step:
    """One step: whose it is, what it does to which cells, and who may see it."""

    def __init__(self, who, kind, cells, v, mask):
        self.who = who
        self.kind = kind
        self.cells = cells
        self.v = v
        self.mask = mask
        self.reads = [cells[k] for k in READS[kind]]
        self.sets = [cells[k] for k in SETS[kind]]
        self.adds_to = [cells[k] for k in ADDS_TO[kind]]
        self.hangs_on = []
        self.there = True


def names_rightly(kind, cells, v):
    """Whether the kind is one, its cells are cells, and what it doesn't name is 0."""
    if kind > HIGHEST_KIND:
        return False
    for k, cell in enumerate(cells):
        highest = HIGHEST_CELL if k < CELLS_NAMED[kind] else 0
        if cell > highest:
            return False
    return v == 0 or NAMES_V[kind]


def feeding(steps, cell, place):
    """The numbers of the steps that feed the cell at the place, rising."""
    numbers = []
    for n in range(place):
        step = steps[n]
        if not step.there:
            continue
        if cell in step.sets:
            numbers = [n]
        elif cell in step.adds_to:
            numbers.append(n)
    return numbers


def feeding_any(steps, cells, place):
    """The numbers of the steps that feed one of the cells at the place, rising."""
    numbers = {}
    for cell in cells:
        for n in feeding(steps, cell, place):
            numbers[n] = True
    return sorted(numbers)


def going_with(steps, n):
    """Step n and those that are there and hang on it, by however many steps, rising."""
    going = {n: True}
    # A step hangs on earlier ones alone, so one walk forward finds them all.
    for later in range(n + 1, len(steps)):
        step = steps[later]
        if step.there and any([m in going for m in step.hangs_on]):
            going[later] = True
    return list(going)


def hung_on(steps, n):
    """Whether a step that's there hangs on step n, or would if step n were there."""
    fed = steps[n].sets + steps[n].adds_to
    for later in steps[n + 1:]:
        if not later.there:
            continue
        if any([cell in fed for cell in later.reads]):
            return True
        fed = [cell for cell in fed if cell not in later.sets]
    return False


def coming_from(steps, cell):
    """The numbers of the steps from which the cell's value comes, rising."""
    found = {}
    for n in feeding(steps, cell, len(steps)):
        found[n] = True
    # A step hangs on earlier ones alone, so one walk backward finds them all.
    for n in range(len(steps) - 1, -1, -1):
        if n in found:
            for m in steps[n].hangs_on:
                found[m] = True
    return sorted(found)


def who_may_see(steps, cell):
    """Those who may see the cell, as bits."""
    people = EVERYBODY
    for n in coming_from(steps, cell):
        people = people & steps[n].mask
    return people


def work(contents, step):
    """Does the step on what's in the cells."""
    a = step.cells[0]
    b = step.cells[1]
    c = step.cells[2]
    if step.kind == PUT:
        contents[a] = step.v
    elif step.kind == ADD:
        contents[a] = (contents[a] + step.v) % BEYOND_NUMBERS
    elif step.kind == COPY:
        contents[b] = contents[a]
    elif step.kind == SUM:
        contents[c] = (contents[a] + contents[b]) % BEYOND_NUMBERS
    elif step.kind == EXCHANGE:
        was_in_a = contents[a]
        contents[a] = contents[b]
        contents[b] = was_in_a
    elif contents[a] == 0:
        contents[b] = step.v


def made_by(steps):
    """What's in the cells when the steps that are there are done in their order, from noughts."""
    contents = [0] * (HIGHEST_CELL + 1)
    for step in steps:
        if step.there:
            work(contents, step)
    return contents


class Sheet:
    """The steps done since begin, those that were taken back among them."""

    def __init__(self):
        self.steps = []

    def begin(self):
        self.steps = []
        return 0

    def do(self, who, kind, cells, v, mask):
        if mask > HIGHEST_MASK or who > HIGHEST_PERSON or not names_rightly(kind, cells, v):
            return WRONG_NUMBERS
        place = len(self.steps)
        if place == MOST_STEPS:
            return NO_ROOM
        step = Step(who, kind, cells, v, mask)
        # Kept from now on: no step that is taken back or given back feeds what a
        # step that is there reads, so this one hangs on the same while it is there.
        step.hangs_on = feeding_any(self.steps, step.reads, place)
        self.steps.append(step)
        return place

    def refusal(self, who, n, there):
        """Why who can't make step n be there or not, whatever hangs on what; 0 if nothing forbids it."""
        if n >= len(self.steps):
            return NO_SUCH_STEP
        step = self.steps[n]
        if step.who != who:
            return SOMEBODY_ELSES
        if step.there == there:
            return IS_SO_ALREADY
        return 0

    def take(self, who, n):
        refused = self.refusal(who, n, False)
        if refused != 0:
            return refused
        if hung_on(self.steps, n):
            return HUNG_ON
        step = self.steps[n]
        step.there = False
        return 0

    def all_of(self, who, n):
        refused = self.refusal(who, n, False)
        if refused != 0:
            return refused
        going = going_with(self.steps, n)
        if any([self.steps[m].who != who for m in going]):
            return OTHERS_HANG_ON
        for m in going:
            step = self.steps[m]
            step.there = False
        return len(going)

    def give(self, who, n):
        refused = self.refusal(who, n, True)
        if refused != 0:
            return refused
        step = self.steps[n]
        if feeding_any(self.steps, step.reads, n) != step.hangs_on:
            return READS_OTHERWISE
        if hung_on(self.steps, n):
            return HUNG_ON
        step.there = True
        return 0

    def read(self, who, cell):
        if who > HIGHEST_PERSON or cell > HIGHEST_CELL:
            return [WRONG_NUMBERS]
        people = who_may_see(self.steps, cell)
        if (people >> who) % 2 == 0:
            return [MAY_NOT_SEE]
        return [0, made_by(self.steps)[cell]]

    def seen(self, cell):
        if cell > HIGHEST_CELL:
            return [WRONG_NUMBERS]
        return [0, who_may_see(self.steps, cell)]

    def from_(self, cell):
        if cell > HIGHEST_CELL:
            return [WRONG_NUMBERS]
        numbers = coming_from(self.steps, cell)
        return [len(numbers)] + numbers


def answer(sheet, call, numbers):
    """What the sheet answers to one call, as a list of whole numbers."""
    if call == BEGIN:
        return [sheet.begin()]
    if call == DO:
        return [sheet.do(numbers[0], numbers[1], numbers[2:5], numbers[5], numbers[6])]
    if call == TAKE:
        return [sheet.take(numbers[0], numbers[1])]
    if call == ALL_OF:
        return [sheet.all_of(numbers[0], numbers[1])]
    if call == GIVE:
        return [sheet.give(numbers[0], numbers[1])]
    if call == READ:
        return sheet.read(numbers[0], numbers[1])
    if call == SEEN:
        return sheet.seen(numbers[0])
    return sheet.from_(numbers[0])


def answers(calls):
    """The answers to the calls, asked one behind another of a new sheet.

    Each answer stands behind how many numbers it has.
    """
    sheet = Sheet()
    answered = []
    place = 0
    while place < len(calls):
        call = calls[place]
        first = place + 1
        place = first + NUMBERS_BEHIND[call]
        numbers = answer(sheet, call, calls[first:place])
        answered.append(len(numbers))
        answered.extend(numbers)
    return answered
