"""What the tests of desks need: notes, all that a desk tells, and drawn operations."""

from helpers import frozen
from lostdesk.catalogs import Catalog
from lostdesk.notes import Note
from lostdesk.offices import Claim, Thing

FEATURES = (("hue", ("blue", "green", "red")), ("size", ("big", "small")))
CATALOG = Catalog(FEATURES)
PLAIN = Note(CATALOG, {})
RED = Note(CATALOG, {"hue": ("red",)})
NOT_RED = Note(CATALOG, {"hue": ("blue", "green")})
SMALL = Note(CATALOG, {"size": ("small",)})
OTHER = Note(Catalog(FEATURES[:1]), {})
NOTES = (PLAIN, RED, NOT_RED, SMALL)


def state(desk):
    """Return all that a desk tells of itself."""
    office = desk.office()
    return (office.catalog.features, frozen(office.things), frozen(office.claims), desk.marks, frozen(desk.history),
            desk.open_claims())


def drawn_operation(random):
    """Return an operation, perhaps one that raises an error."""
    name = random.choice(["find"] * 4 + ["lose"] * 4 + ["narrow"] * 3 + ["hand", "drop", "mark", "go", "undo", "redo"])
    thing, claim = random.choice("abcd"), random.choice("pqrs")
    if random.random() < 0.1:
        thing, claim = claim, thing
    label = random.choice([thing, claim, "zz"]) if random.random() < 0.2 else random.choice([thing, claim])
    if name == "find":
        return name, random.choice([thing] * 9 + ["9"]), Thing(random.choice(NOTES), random.randint(0, 3))
    if name == "lose":
        note = random.choice(NOTES * 3 + (OTHER,))
        return name, claim, Claim(note, random.randint(0, 2), random.randint(0, 1), random.randint(1, 3))
    if name == "hand":
        return name, claim, thing
    if name == "narrow":
        feature = random.choice(["hue"] * 5 + ["size"] * 4 + ["shape"])
        return name, label, feature, random.choice(["blue", "green", "red"] if feature == "hue" else ["big", "small"])
    if name == "drop":
        return name, label
    if name in ("mark", "go"):
        return name, random.choice(["x", "y", "x y"])
    return (name,)
