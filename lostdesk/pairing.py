"""Pairing claims with things, by tables over the things that are taken.

Claims and things are numbered from 0, in the order of their labels. A row is what a claim can get: a dict
from the things that fit it, ascending, to what such a pair weighs. The things that are taken are the bits of
a number. A choice is a list with a thing, or None, for each claim.
"""

from lostdesk.fitting import fits


def plain_rows(office):
    """Return the rows of an office in which each pair weighs 1."""
    things = list(office.things)
    return [
        {number: 1 for number, thing in enumerate(things) if fits(office, claim, thing)}
        for claim in office.claims
    ]


def weighted_rows(office, weights):
    """Return the rows of an office by a dict from the pairs that count to their weights."""
    things = list(office.things)
    return [
        {number: weights[claim, thing] for number, thing in enumerate(things) if (claim, thing) in weights}
        for claim in office.claims
    ]


def free_things(row, taken):
    """Return the things of a row that are not taken, ascending."""
    return [thing for thing in row if not taken >> thing & 1]


def count_with(counts, row):
    """Return in how many ways things are taken if one more claim gets a thing of its row, or none."""
    longer = dict(counts)
    for taken, count in counts.items():
        for thing in free_things(row, taken):
            more = taken | 1 << thing
            longer[more] = longer.get(more, 0) + count
    return longer


def taken_count(taken):
    """Return how many things are taken."""
    return sum([taken >> thing & 1 for thing in range(taken.bit_length())])


def size_counts(rows):
    """Return a list that tells of each size, from 0 to the most pairs, how many matches have it."""
    counts = {0: 1}
    for row in rows:
        counts = count_with(counts, row)
    sizes = [0] * (max([taken_count(taken) for taken in counts]) + 1)
    for taken, count in counts.items():
        sizes[taken_count(taken)] += count
    return sizes


def best_weight(row, behind, taken):
    """Return the greatest weight from a claim on, by the table of the claims behind it."""
    return max([behind[taken]] + [row[thing] + behind[taken | 1 << thing] for thing in free_things(row, taken)])


def table_size(rows):
    """Return how many numbers there are for what is taken of the things that stand in the rows."""
    return 1 << max([0] + [thing + 1 for row in rows for thing in row])


def best_tables(rows):
    """Return a table for each claim and one for the end: the greatest weight from there on, by what is taken."""
    size = table_size(rows)
    tables = [[0] * size]
    for row in rows[::-1]:
        behind = tables[-1]
        tables.append([best_weight(row, behind, taken) for taken in range(size)])
    return tables[::-1]


def best_steps(row, table, behind, taken):
    """Return what a claim can get, a thing or None, without loss of weight: the first match first."""
    steps = [thing for thing in free_things(row, taken) if row[thing] + behind[taken | 1 << thing] == table[taken]]
    # None is last: matches of the greatest weight have as many pairs, so without this claim the next one is later.
    if behind[taken] == table[taken]:
        steps.append(None)
    return steps


def taken_after(taken, thing):
    """Return what is taken after a claim got a thing, or None."""
    return taken if thing is None else taken | 1 << thing


def first_choice(rows):
    """Return the choice of the greatest weight whose match is the first one."""
    tables = best_tables(rows)
    choice = []
    taken = 0
    for claim, row in enumerate(rows):
        thing = best_steps(row, tables[claim], tables[claim + 1], taken)[0]
        choice.append(thing)
        taken = taken_after(taken, thing)
    return choice


def all_choices(rows):
    """Return all choices of the greatest weight, in the order of their matches."""
    tables = best_tables(rows)
    found = [([], 0)]
    for claim, row in enumerate(rows):
        found = [
            (choice + [thing], taken_after(taken, thing))
            for choice, taken in found
            for thing in best_steps(row, tables[claim], tables[claim + 1], taken)
        ]
    return [choice for choice, _ in found]


def ways_on(steps, ways, taken):
    """Return for each step what a table of ways tells of what is taken after it."""
    return [ways[taken_after(taken, thing)] for thing in steps]


class Numbering:
    """The choices of the greatest weight, numbered from 0 in the order of their matches."""

    def __init__(self, rows):
        self._rows = rows
        self._tables = best_tables(rows)
        # For each claim and for the end, by what is taken: in how many ways it goes on without loss of weight.
        self._ways = [[1] * len(self._tables[0])]
        for claim in reversed(range(len(rows))):
            behind = self._ways[0]
            ways = [sum(ways_on(self.steps(claim, taken), behind, taken)) for taken in range(len(behind))]
            self._ways = [ways] + self._ways

    def steps(self, claim, taken):
        """Return what a claim can get, if so much is taken, in the order of the matches."""
        return best_steps(self._rows[claim], self._tables[claim], self._tables[claim + 1], taken)

    def total(self):
        """Return how many choices there are."""
        return self._ways[0][0]

    def choice_at(self, number):
        """Return the choice with a number."""
        choice = []
        taken = 0
        for claim in range(len(self._rows)):
            steps = self.steps(claim, taken)
            ways = ways_on(steps, self._ways[claim + 1], taken)
            place = 0
            while number >= ways[place]:
                number -= ways[place]
                place += 1
            choice.append(steps[place])
            taken = taken_after(taken, steps[place])
        return choice

    def place_of(self, choice):
        """Return the number of a choice, or None if it is none of these."""
        number = 0
        taken = 0
        for claim, thing in enumerate(choice):
            steps = self.steps(claim, taken)
            if thing not in steps:
                return None
            before = steps[:steps.index(thing)]
            number += sum(ways_on(before, self._ways[claim + 1], taken))
            taken = taken_after(taken, thing)
        return number


def as_match(office, choice):
    """Return the match of a choice, with the labels of claims and things."""
    things = list(office.things)
    return {claim: things[thing] for claim, thing in zip(office.claims, choice) if thing is not None}
