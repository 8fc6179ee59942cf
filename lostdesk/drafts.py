"""Drafts: what the readers of texts and of codes have in common.

What was read are features, as in a catalog, and entries: dicts from labels, in the order in which they were
read, to tuples of the numbers of a thing or a claim, as its class takes them, and what is told in its note.
"""

from lostdesk.catalogs import Catalog, ascends
from lostdesk.notes import Note
from lostdesk.offices import Claim, Office, Thing


def can_follow(label, entries, others):
    """Tell whether a label can stand behind those of the entries before it, and beside those of other ones."""
    return label not in others and ascends(list(entries)[-1:] + [label])


def drafted_office(features, found, lost):
    """Return the office of what was read, or raise the errors of its catalog, its entries or the office."""
    catalog = Catalog(features)
    things = {label: Thing(Note(catalog, told), *numbers) for label, (numbers, told) in found.items()}
    claims = {label: Claim(Note(catalog, told), *numbers) for label, (numbers, told) in lost.items()}
    return Office(catalog, things, claims)
