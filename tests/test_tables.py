"""Point 26: the table of what is told of all pairs."""

import unittest

from helpers import checked, drawn_offices, graph_office, greatest_matches, plain_fits, plain_office
from lostdesk.tables import table


def plain_table(office):
    """Return the table of an office, by the list of all its greatest matches."""
    found = greatest_matches(office)
    lines = []
    for claim in sorted(office.claims):
        line = claim + ":"
        for thing in sorted(office.things):
            part = len([pairs for pairs in found if (claim, thing) in pairs])
            if not plain_fits(office, claim, thing):
                line += " -"
            elif part == 0:
                line += " no"
            else:
                line += " sure" if part == len(found) else " may"
        lines.append(line)
    return "\n".join(lines)


class TableTest(unittest.TestCase):
    def test_drawn_offices(self):
        words = set()
        for office in drawn_offices(150) + drawn_offices(15, 5):
            told = checked(self, table, office)
            self.assertEqual(told, plain_table(office))
            words.update(told.split())
        self.assertLessEqual({"sure", "may", "no", "-"}, words)

    def test_no_claims(self):
        for count in (0, 1, 3):
            self.assertEqual(checked(self, table, plain_office(count, 0)), "")

    def test_no_things(self):
        self.assertEqual(checked(self, table, plain_office(0, 1)), "ca:")
        self.assertEqual(checked(self, table, plain_office(0, 3)), "ca:\ncb:\ncc:")

    def test_pairs_that_do_not_fit_beside_pairs_that_are_never_told(self):
        office = graph_office(["a", "ab", "", "cd"])
        for letter in "efgh":
            office = office.without("t" + letter)
        self.assertEqual(checked(self, table, office),
                         "ca: sure - - -\ncb: no sure - -\ncc: - - - -\ncd: - - may may")

    def test_eight_by_eight(self):
        line = " may" * 8
        self.assertEqual(checked(self, table, plain_office(8, 8)),
                         "\n".join(f"c{letter}:{line}" for letter in "abcdefgh"))


if __name__ == "__main__":
    unittest.main()
