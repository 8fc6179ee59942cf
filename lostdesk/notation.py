"""The texts of offices: a row for each feature, each entry, and each feature that an entry tells."""

from lostdesk.catalogs import ascends
from lostdesk.drafts import can_follow, drafted_office
from lostdesk.notes import told_names
from lostdesk.rows import Words, take_feature

# What rows can begin with, by the last row that does not begin with "is", "" before the first one.
FIRST_WORDS = {
    "": ("feature",),
    "feature": ("feature", "thing", "claim"),
    "thing": ("thing", "claim", "is"),
    "claim": ("claim", "is"),
}
# How many numbers stand behind the label of a thing and of a claim.
THING_NUMBERS = 1
CLAIM_NUMBERS = 3


def note_rows(note):
    """Return the rows of what a note tells."""
    return [" ".join(["is", name, *note[name]]) for name in told_names(note)]


def format_office(office):
    """Return the text of an office."""
    rows = [" ".join(["feature", name, *values]) for name, values in office.catalog.features]
    for label, thing in office.things.items():
        rows.append(f"thing {label} {thing.day}")
        rows.extend(note_rows(thing.note))
    for label, claim in office.claims.items():
        rows.append(f"claim {label} {claim.day} {claim.slips} {claim.worth}")
        rows.extend(note_rows(claim.note))
    return "\n".join(rows)


def take_told(words, features, told):
    """Take the words behind `is`, and add them to what an entry tells."""
    names = list(features)
    name = words.take_one_of(names)
    words.need(len(told) == 0 or names.index(list(told)[-1]) < names.index(name))
    values = [words.take_one_of(features[name])]
    while words.has_more():
        values.append(words.take_one_of(features[name]))
        words.need(ascends(values[-2:]))
    told[name] = tuple(values)


def take_entry(words, entries, others, count):
    """Take the words behind `thing` or `claim`, add the entry, and return the dict of what it tells, empty yet."""
    label = words.take_name()
    words.need(can_follow(label, entries, others))
    numbers = [words.take_number() for _ in range(count)]
    words.end()
    told = {}
    entries[label] = (numbers, told)
    return told


def parse_office(text):
    """Return the office of a text."""
    features = {}
    found = {}
    lost = {}
    told = {}
    last = ""
    for row, line in enumerate(text.split("\n")):
        words = Words(row, line)
        first = words.take_one_of(FIRST_WORDS[last])
        if first == "is":
            take_told(words, features, told)
            continue
        last = first
        if first == "feature":
            take_feature(words, features)
        elif first == "thing":
            told = take_entry(words, found, lost, THING_NUMBERS)
        else:
            told = take_entry(words, lost, found, CLAIM_NUMBERS)
    return drafted_office(tuple(features.items()), found, lost)
