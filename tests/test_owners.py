"""Point 25: who can be the owner of one thing."""

import unittest
from random import Random

from helpers import drawn_offices, frozen, plain_fits
from lostdesk.catalogs import Catalog
from lostdesk.errors import Conflict, NoOwner, UnknownFeature, UnknownLabel
from lostdesk.notes import Note
from lostdesk.offices import Claim, Office, Thing
from lostdesk.owners import Owners

CATALOG = Catalog((("color", ("blue", "green", "red")), ("size", ("big", "small"))))
PLAIN = Note(CATALOG, {})
RED = Note(CATALOG, {"color": ("red",)})
SMALL = Note(CATALOG, {"size": ("small",)})


def office_of(claims, note=PLAIN):
    """Return an office with a thing, another thing that tells all, and claims."""
    other = Note(CATALOG, {"color": ("red",), "size": ("small",)})
    return Office(CATALOG, {"cap": Thing(other, 5), "hat": Thing(note, 5)}, claims)


def seen_note(note, feature, value):
    """Return a note in which a feature has only this value."""
    return Note(note.catalog, {name: note[name] for name in note.catalog.names} | {feature: (value,)})


def plain_remaining(office, thing, note, denied):
    """Return the claims that a thing with a note fits, but for those that were denied, in label order."""
    later = office.with_thing(thing, Thing(note, office.things[thing].day))
    return tuple(claim for claim in sorted(office.claims) if claim not in denied and plain_fits(later, claim, thing))


def plain_telling(office, thing, note, denied, features):
    """Return the first feature of a list behind whose value the fewest claims remain in the worst case, or None."""
    worst = [max(len(plain_remaining(office, thing, seen_note(note, feature, value), denied))
                 for value in note[feature]) for feature in features]
    return features[worst.index(min(worst))] if features else None


class OwnersTest(unittest.TestCase):
    def check_state(self, owners, note, remaining):
        for _ in range(2):
            self.assertEqual(owners.thing_note(), note)
            self.assertEqual((owners.remaining, type(owners.remaining)), (remaining, tuple))

    def check_error(self, owners, error, call, *told, **attributes):
        """Check that a call raises an error, twice, and that it changes nothing."""
        note, remaining, before = owners.thing_note(), owners.remaining, frozen(told)
        for _ in range(2):
            with self.assertRaises(error) as caught:
                call(*told)
            self.assertIs(type(caught.exception), error)
            self.assertEqual(vars(caught.exception), attributes)
            self.check_state(owners, note, remaining)
            self.assertEqual(frozen(told), before)

    def test_drawn_offices(self):
        seen = set()
        for seed, office in enumerate(drawn_offices(150, 6)):
            before = frozen(office)
            for thing in office.things:
                note = office.things[thing].note
                if not plain_remaining(office, thing, note, ()):
                    self.assertRaises(NoOwner, Owners, office, thing)
                    continue
                random, owners, denied = Random(seed), Owners(office, thing), []
                self.check_state(owners, note, plain_remaining(office, thing, note, denied))
                for _ in range(10):
                    note = self.step(random, owners, office, thing, note, denied, seen)
            self.assertEqual(frozen(office), before)
        self.assertLessEqual({"see", "deny", "narrower", Conflict, NoOwner, UnknownLabel}, seen)

    def step(self, random, owners, office, thing, note, denied, seen):
        """See a feature or deny a claim, compare with what remains by the office, and return the note then."""
        features = [random.choice(office.catalog.names) for _ in range(random.randint(0, 5))]
        self.assertEqual(owners.telling(features), plain_telling(office, thing, note, denied, features))
        if random.random() < 0.3:
            claim = random.choice(list(office.claims))
            remaining = plain_remaining(office, thing, note, denied + [claim])
            if claim not in owners.remaining or not remaining:
                error = NoOwner if claim in owners.remaining else UnknownLabel
                self.check_error(owners, error, owners.deny, claim)
                seen.add(error)
                return note
            denied.append(claim)
            self.assertEqual(owners.deny(claim), len(remaining))
            seen.add("deny")
        else:
            feature = random.choice(office.catalog.names)
            value = random.choice(office.catalog[feature])
            if value not in note[feature]:
                self.check_error(owners, Conflict, owners.see, feature, value, feature=feature)
                seen.add(Conflict)
                return note
            later = seen_note(note, feature, value)
            remaining = plain_remaining(office, thing, later, denied)
            if not remaining:
                self.check_error(owners, NoOwner, owners.see, feature, value)
                return note
            seen.add("narrower" if remaining != owners.remaining else "see")
            self.assertEqual(owners.see(feature, value), len(remaining))
            note = later
        self.check_state(owners, note, remaining)
        return note

    def test_labels_that_are_no_thing(self):
        office = office_of({"ann": Claim(RED, 2)})
        for label in ("zz", "", "ann"):
            for _ in range(2):
                with self.assertRaises(UnknownLabel) as caught:
                    Owners(office, label)
                self.assertIs(type(caught.exception), UnknownLabel)

    def test_a_thing_without_claims(self):
        for claims in ({}, {"ann": Claim(RED, 6)}, {"ann": Claim(Note(CATALOG, {"color": ("blue",)}), 2)}):
            with self.assertRaises(NoOwner) as caught:
                Owners(office_of(claims, RED), "hat")
            self.assertIs(type(caught.exception), NoOwner)
        self.assertRaises(UnknownLabel, Owners, office_of({}), "ann")

    def test_seen_one_behind_another(self):
        slip = Claim(Note(CATALOG, {"color": ("red",), "size": ("big",)}), 1, 1)
        claims = {"dee": slip, "ann": Claim(RED, 2), "bo": Claim(SMALL, 1), "cy": Claim(PLAIN, 5)}
        owners = Owners(office_of(claims), "hat")
        self.check_state(owners, PLAIN, ("ann", "bo", "cy", "dee"))
        self.assertEqual([owners.see("size", "small"), owners.remaining], [4, ("ann", "bo", "cy", "dee")])
        self.assertEqual([owners.see("size", "small"), owners.see("color", "green")], [4, 2])
        self.check_state(owners, Note(CATALOG, {"color": ("green",), "size": ("small",)}), ("bo", "cy"))
        self.check_error(owners, Conflict, owners.see, "color", "red", feature="color")

    def test_errors_of_see(self):
        note = Note(CATALOG, {"color": ("blue", "red")})
        owners = Owners(office_of({"ann": Claim(RED, 2), "bo": Claim(RED, 2)}, note), "hat")
        self.check_error(owners, UnknownFeature, owners.see, "shape", "red")
        self.check_error(owners, UnknownFeature, owners.see, "", "odd")
        for value in ("green", "odd", "big", ""):
            self.check_error(owners, Conflict, owners.see, "color", value, feature="color")
        self.check_error(owners, NoOwner, owners.see, "color", "blue")
        self.assertEqual(owners.see("color", "red"), 2)
        self.check_error(owners, Conflict, owners.see, "color", "blue", feature="color")

    def test_errors_of_deny(self):
        office = office_of({"ann": Claim(RED, 2), "bo": Claim(PLAIN, 2), "cy": Claim(PLAIN, 9), "dee": Claim(SMALL, 1)})
        owners = Owners(office, "hat")
        for claim in ("cy", "zz", "", "hat", "cap"):
            self.check_error(owners, UnknownLabel, owners.deny, claim)
        self.assertEqual([owners.deny("bo"), owners.remaining], [2, ("ann", "dee")])
        self.check_error(owners, UnknownLabel, owners.deny, "bo")
        self.assertEqual([owners.see("size", "big"), owners.remaining], [1, ("ann",)])
        self.check_error(owners, UnknownLabel, owners.deny, "dee")
        self.check_error(owners, NoOwner, owners.deny, "ann")
        self.check_error(owners, NoOwner, owners.see, "color", "blue")

    def test_a_denied_claim_does_not_come_back(self):
        owners = Owners(office_of({"ann": Claim(PLAIN, 2), "bo": Claim(PLAIN, 2), "cy": Claim(RED, 2)}), "hat")
        self.assertEqual(owners.deny("ann"), 2)
        self.assertEqual([owners.see("size", "big"), owners.see("color", "red")], [2, 2])
        self.assertEqual(owners.remaining, ("bo", "cy"))
        self.check_error(owners, UnknownLabel, owners.deny, "ann")

    def test_telling(self):
        blue = Note(CATALOG, {"color": ("blue",)})
        owners = Owners(office_of({"ann": Claim(RED, 2), "bo": Claim(blue, 1), "cy": Claim(SMALL, 1)}), "hat")
        # Behind a color two claims remain at worst, behind a size three.
        self.assertEqual([owners.telling(features) for features in (["size", "color"], ["color", "size"], ["size"])],
                         ["color", "color", "size"])
        for features in (["size", "size"], ["color", "color"], ["size", "color", "size", "color"]):
            self.assertEqual(owners.telling(features), "color" if "color" in features else "size")
        self.assertIsNone(owners.telling([]))
        self.check_state(owners, PLAIN, ("ann", "bo", "cy"))

    def test_the_first_of_several(self):
        owners = Owners(office_of({"ann": Claim(PLAIN, 2), "bo": Claim(PLAIN, 2)}), "hat")
        self.assertEqual([owners.telling(["size", "color"]), owners.telling(["color", "size"])], ["size", "color"])

    def test_telling_behind_see_and_deny(self):
        blue = Note(CATALOG, {"color": ("blue",)})
        owners = Owners(office_of({"ann": Claim(RED, 2), "bo": Claim(blue, 1), "cy": Claim(SMALL, 1)}), "hat")
        owners.deny("bo")
        self.assertEqual([owners.telling(["size", "color"]), owners.telling(["color", "size"])], ["size", "color"])
        owners = Owners(office_of({"ann": Claim(RED, 2), "bo": Claim(blue, 1), "cy": Claim(SMALL, 1)}), "hat")
        owners.see("color", "red")
        self.assertEqual([owners.telling(["size", "color"]), owners.telling(["color", "size"])], ["size", "color"])
        owners.see("size", "small")
        self.assertEqual([owners.telling(["size", "color"]), owners.telling([])], ["size", None])

    def test_features_that_are_none(self):
        owners = Owners(office_of({"ann": Claim(RED, 2)}), "hat")
        for features in (["shape"], ["color", "shape"], ["shape", "color"], ["color", "size", ""], ["red"]):
            self.check_error(owners, UnknownFeature, owners.telling, features)

    def test_what_is_handed_in_and_changed_later(self):
        things, claims = {"hat": Thing(PLAIN, 5)}, {"ann": Claim(RED, 2), "bo": Claim(PLAIN, 2)}
        office = Office(CATALOG, things, claims)
        owners, features = Owners(office, "hat"), ["size", "color"]
        before = frozen(office)
        things.clear()
        claims.clear()
        owners.see("color", "blue")
        self.assertEqual((owners.telling(features), features), ("size", ["size", "color"]))
        self.assertEqual((frozen(office), Owners(office, "hat").remaining), (before, ("ann", "bo")))
        other = Owners(office, "hat")
        other.deny("bo")
        self.assertEqual(owners.remaining, ("bo",))


if __name__ == "__main__":
    unittest.main()
