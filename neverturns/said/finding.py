"""Sayings found: what a box knows of a word, told by what was ahead.

A box is a row of resets, and a level of a row has a value if it was set to it by a letter
behind the right values of the levels ahead, and was not set to another one since.
"""

from neverturns.errors import InvalidOperation, Refused, TooMany
from neverturns.base.machines import check_machine, check_same_letters
from neverturns.base.tables import beside, is_choice, kept_pairs
from neverturns.cloud.papers import picked_steps
from neverturns.row.finding import few_states, row_paper, turn_of
from neverturns.row.resets import stands
from neverturns.said.sayings import check_saying, few_truths, is_saying, truth_table
from neverturns.still.boxes import check_box, made_box
from neverturns.still.turns import is_turn_of

MAX_SAID = 4
# Stand for steps that are true, and false, behind each word.
ALWAYS = -1
NEVER = -2


def saying_of(machine):
    """Return a saying that is small for the letters of a machine, and has just its words."""
    least = few_states(machine, MAX_SAID)
    turn = turn_of(least)
    if turn is not None:
        raise Refused(turn)
    return saying_in(least, least.ends)


def is_saying_of(machine, value):
    """Tell whether the value is a saying as saying_of returns."""
    check_machine(machine)
    return is_saying_for(machine, value)


def saying_or_turn(machine):
    """Return a saying with just the words of a machine, or the first turn of its least machine."""
    least = few_states(machine, MAX_SAID)
    turn = turn_of(least)
    if turn is not None:
        return "turn", turn
    return "saying", saying_in(least, least.ends)


def is_saying_or_turn(machine, value):
    """Tell whether the value is a pair as saying_or_turn returns, with any turn of the least machine."""
    least = few_states(machine, MAX_SAID)
    if not isinstance(value, tuple) or len(value) != 2:
        return False
    name, proof = value
    if name == "saying":
        return is_saying_for(machine, proof)
    return name == "turn" and is_turn_of(least, proof)


def box_saying(box, places):
    """Return a small saying that holds behind just those words that lead a box to one of some places."""
    check_box(box)
    if not is_choice(places, len(box)):
        raise InvalidOperation("these are no ascending places")
    if len(box) > MAX_SAID:
        raise TooMany(MAX_SAID)
    return saying_in(box, places)


def says_apart(one, other, saying):
    """Tell whether a saying holds behind each word of the one machine, and behind none of the other one."""
    check_machine(one)
    check_machine(other)
    check_saying(saying)
    check_same_letters(one, other)
    table, ends = few_truths(one.letters, saying)
    return has_none(one, table, ends, ((True, False),)) and has_none(other, table, ends, ((True, True),))


def is_saying_for(machine, value):
    """Tell whether the value is a small saying with just the words of a machine."""
    found = truth_table(machine.letters, value) if is_saying(value) else None
    if found is None:
        return False
    table, ends = found
    return has_none(machine, table, ends, ((True, False), (False, True)))


def has_none(machine, table, ends, kept):
    """Tell whether there is no word that is kept, by whether it leads the machine and the table to an end."""
    return kept_pairs(beside(machine.table, table)[0], machine.ends, ends, kept) == ()


def saying_in(seen, places):
    """Return a saying for the words that lead a machine or a box without turns to some places."""
    box = made_box(seen.letters, seen.table)
    row, ends = row_paper(box)
    reached = stands(box.letters, row)
    telling = Telling(box.letters, row, reached)
    last = telling.some_of((), {stand: True for stand, place in zip(reached, ends) if place in places})
    return telling.said(last)


class Telling:
    """Steps of a saying that tell the stands of a row, each step once.

    The heads are all beginnings of reached stands. Each has the index of a step that is
    true where the stand begins so. Where just one value is reached behind a head, the step
    of the head tells this value, too.
    """

    def __init__(self, letters, row, reached):
        self.signs = letters
        self.row = row
        self.steps = []
        self.numbers = {}
        self.behind = {}
        self.told = {(): ALWAYS}
        heads = {stand[:size]: True for stand in reached for size in range(len(row) + 1)}
        # The keys are sorted, so the heads of one length come by their values.
        for head in sorted(list(heads)):
            self.behind[head] = []
            if head:
                self.behind[head[:-1]].append(head)
        for at in range(len(row)):
            self.tell_level(at, [head for head in self.behind if len(head) == at])

    def tell_level(self, at, heads):
        """Find the steps for the heads with one value more."""
        values, first, _ = self.row[at]
        sets = [self.set_to(at, heads, value) for value in range(values)]
        kept = self.negated(self.some(sets))
        now = [self.since(kept, step) for step in sets]
        # Ahead of all resets the level has its first value.
        now[first] = self.negated(self.some(now[:first] + now[first + 1:]))
        for head in heads:
            for longer in self.behind[head]:
                alone = len(self.behind[head]) == 1
                self.told[longer] = self.told[head] if alone else self.also(self.told[head], now[longer[-1]])

    def set_to(self, at, heads, value):
        """Return the step that is true behind the letters by which a level was set to a value."""
        found = []
        for letter, rule in zip(self.signs, self.row[at][2]):
            wanted = {head: True for head in heads if rule.get(head) == value}
            ahead = self.some_of((), wanted)
            if ahead == ALWAYS:
                found.append(self.number(("letter", letter)))
            elif ahead != NEVER:
                found.append(self.also(self.number(("letter", letter)), self.number(("ahead", ahead))))
        return self.some(found)

    def some_of(self, head, wanted):
        """Return the step that is true where the stand begins with the head, and with a wanted head, too."""
        if head in wanted:
            return self.told[head]
        parts = [self.some_of(longer, wanted) for longer in self.behind[head]]
        if parts != [] and parts == [self.told.get(longer) for longer in self.behind[head]]:
            return self.told[head]
        return self.some(parts)

    def number(self, step):
        """Return the index of a step."""
        if step not in self.numbers:
            self.numbers[step] = len(self.steps)
            self.steps.append(step)
        return self.numbers[step]

    def negated(self, one):
        """Return the step that is true where a step is false."""
        if one in (ALWAYS, NEVER):
            return ALWAYS + NEVER - one
        if self.steps[one][0] == "not":
            return self.steps[one][1]
        return self.number(("not", one))

    def some(self, parts):
        """Return the step that is true where at least one of some steps is."""
        now = NEVER
        for part in sorted(set(parts)):
            if ALWAYS in (now, part):
                now = ALWAYS
            elif now == NEVER:
                now = part
            elif part != NEVER:
                now = self.number(("either", now, part))
        return now

    def also(self, one, other):
        """Return the step that is true where both steps are."""
        return self.negated(self.some([self.negated(one), self.negated(other)]))

    def since(self, one, other):
        """Return the step that is true where a step was true, and another one ever since."""
        if other in (ALWAYS, NEVER):
            return other
        return self.number(("since", one, other))

    def said(self, last):
        """Return the saying whose last step is one of the steps."""
        if last in (ALWAYS, NEVER):
            letter = self.number(("letter", self.signs[0]))
            # A letter is the last one, or not.
            whole = self.number(("either", letter, self.negated(letter)))
            last = whole if last == ALWAYS else self.negated(whole)
        return picked_steps(self.steps, last)
