"""What several tests need: the document's examples, offices, and a list of all matches of an office."""

from copy import deepcopy
from random import Random

from lostdesk.catalogs import Catalog
from lostdesk.errors import DeskError
from lostdesk.notes import Note
from lostdesk.offices import Claim, Office, Thing

EIGHT = "abcdefgh"


def told_error(error, expected):
    """Return an error as the document writes it, with the attributes that stand in the expected text."""
    name, _, rest = expected.partition("(")
    attributes = ", ".join(f"{key}={getattr(error, key)!r}" for key in eval(f"dict({rest}"))
    return f"raises {type(error).__name__}({attributes})"


def run_example(text):
    """Run an example of the document; return what it gives, and what it is to give."""
    *rows, expected = text.strip().split("\n")
    codes = [row.removeprefix(">>> ") for row in rows]
    names = {}
    for code in codes[:-1]:
        exec(code, names)
    try:
        return repr(eval(codes[-1], names)), expected
    except DeskError as error:
        return told_error(error, expected), expected


def graph_office(rows, worths=None):
    """Return an office with claims ca, cb .. that fit just the things ta, tb .. whose letters a row tells."""
    catalog = Catalog((("place", tuple(EIGHT)),))
    things = {"t" + letter: Thing(Note(catalog, {"place": (letter,)}), 5) for letter in EIGHT}
    claims = {}
    for place, row in enumerate(rows):
        told = {"place": tuple(row)} if row else {}
        day = 5 if row else 6
        worth = worths[place] if worths else 1
        claims["c" + EIGHT[place]] = Claim(Note(catalog, told), day, 0, worth)
    return Office(catalog, things, claims)


def plain_office(thing_count, claim_count):
    """Return an office in which nothing is told, and all fits all."""
    catalog = Catalog((("hue", ("blue", "red")),))
    note = Note(catalog, {})
    things = {"t" + letter: Thing(note, 3) for letter in EIGHT[:thing_count]}
    return Office(catalog, things, {"c" + letter: Claim(note, 2) for letter in EIGHT[:claim_count]})


def drawn_note(random, catalog):
    """Return a note in which some features are told."""
    told = {}
    for name, values in catalog.features:
        if random.random() < 0.7:
            chosen = random.sample(values, random.randint(1, len(values)))
            told[name] = tuple(sorted(chosen))
    return Note(catalog, told)


def drawn_office(random, most=4):
    """Return an office with up to so many things and claims, whose labels are in no order."""
    count = random.randint(1, 4)
    catalog = Catalog(tuple((name, tuple(EIGHT[:random.randint(2, 4)])) for name in random.sample("pqrs", count)))
    labels = random.sample([one + other for one in EIGHT for other in EIGHT], 2 * most)
    things = {}
    claims = {}
    for label in labels[:random.randint(0, most)]:
        things[label] = Thing(drawn_note(random, catalog), random.randint(0, 6))
    for label in labels[most:most + random.randint(0, most)]:
        note = drawn_note(random, catalog)
        claims[label] = Claim(note, random.randint(0, 4), random.randint(0, 2), random.choice([1, 1, 2, 3, 7]))
    return Office(catalog, things, claims)


def drawn_offices(count, most=4):
    """Return so many offices, the same ones each time."""
    return [drawn_office(Random(seed), most) for seed in range(count)]


def plain_misfits(office, claim, thing):
    """Return the features in which a claim and a thing have no common value, by their notes."""
    one, other = office.claims[claim].note, office.things[thing].note
    return [name for name, _ in office.catalog.features if not set(one[name]) & set(other[name])]


def plain_fits(office, claim, thing):
    """Tell whether a claim and a thing fit, by point 6."""
    if office.things[thing].day < office.claims[claim].day:
        return False
    return len(plain_misfits(office, claim, thing)) <= office.claims[claim].slips


def plain_score(office, claim, thing):
    """Return the score of a pair that fits, by point 10."""
    return office.claims[claim].worth * (len(office.catalog.names) - len(plain_misfits(office, claim, thing)))


def all_matches(office):
    """Return all matches of an office, in order, each as the list of its pairs."""
    found = [[]]
    for claim in sorted(office.claims):
        fitting = [thing for thing in office.things if plain_fits(office, claim, thing)]
        found += [pairs + [(claim, thing)] for pairs in found for thing in fitting
                  if thing not in dict(pairs).values()]
    return sorted(found)


def greatest_matches(office):
    """Return all matches of an office with the most pairs, in order, each as the list of its pairs."""
    found = all_matches(office)
    most = max(len(pairs) for pairs in found)
    return [pairs for pairs in found if len(pairs) == most]


def frozen(value):
    """Return all that a value is made of, as a text that can be compared."""
    if isinstance(value, dict):
        return f"dict {[(frozen(key), frozen(item)) for key, item in value.items()]}"
    if isinstance(value, (list, tuple)):
        return f"{type(value).__name__} {[frozen(item) for item in value]}"
    if hasattr(value, "__dict__"):
        return f"{type(value).__name__} {frozen(vars(value))}"
    return repr(value)


def spoil(value):
    """Change each list and dict in a value that was returned, as its caller may."""
    if isinstance(value, (list, tuple, dict)):
        for item in list(value.values()) if isinstance(value, dict) else list(value):
            spoil(item)
    if isinstance(value, (list, dict)):
        value.clear()


def checked(test, call, *arguments):
    """Call a function twice and return its result, or raise its error: by point 1, nothing may have changed."""
    before = frozen(arguments)
    outcomes = []
    for _ in range(2):
        try:
            result = call(*arguments)
            outcomes.append(deepcopy(result))
            spoil(result)
        except DeskError as error:
            outcomes.append(error)
        test.assertEqual(frozen(arguments), before)
    test.assertEqual(frozen(outcomes[0]), frozen(outcomes[1]))
    if isinstance(outcomes[0], DeskError):
        raise outcomes[0]
    return outcomes[0]


def told_attributes(test, error, call, *arguments):
    """Return the attributes of the error that a call must raise, in the order of their names."""
    with test.assertRaises(error) as caught:
        checked(test, call, *arguments)
    test.assertIs(type(caught.exception), error)
    return [value for _, value in sorted(vars(caught.exception).items())]
