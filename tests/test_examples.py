"""The examples of the document's interface, word for word."""

import unittest

from helpers import run_example

CATALOGS_AND_NOTES = [
    """
>>> from lostdesk.catalogs import Catalog
>>> from lostdesk.notes import Note
>>> catalog = Catalog((("hue", ("blue", "red")), ("size", ("big", "small"))))
>>> note = Note(catalog, {"hue": ("red",)})
>>> [note["size"], note.description_count, note.both(Note(catalog, {"size": ("big",)})).description_count]
[('big', 'small'), 2, 1]
""",
    """
>>> from lostdesk.catalogs import Catalog
>>> from lostdesk.notes import Note
>>> catalog = Catalog((("hue", ("blue", "red")),))
>>> Note(catalog, {"hue": ("red",)}).narrowed("hue", "blue")
raises Conflict(feature='hue')
""",
]


class ExamplesTest(unittest.TestCase):
    def check(self, examples):
        for text in examples:
            with self.subTest(example=text):
                got, expected = run_example(text)
                self.assertEqual(got, expected)

    def test_catalogs_and_notes(self):
        self.check(CATALOGS_AND_NOTES)


if __name__ == "__main__":
    unittest.main()
