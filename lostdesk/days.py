"""Days: what is there on a day, and who is served then, as things and claims come and go."""

from lostdesk.errors import InvalidNumber, InvalidTerms, UnknownLabel
from lostdesk.matches import judge, most_pairs, served
from lostdesk.offices import Office, claim_of, in_range, is_count, thing_of

LONGEST_TERM = 10 ** 9
LAST_DAY_ASKED = 2 * 10 ** 18


class Terms:
    """How many days things and claims are there, from their days on; they never change."""

    def __init__(self, keep, wait):
        if not in_range(keep, 1, LONGEST_TERM):
            raise InvalidTerms("keep")
        if not in_range(wait, 1, LONGEST_TERM):
            raise InvalidTerms("wait")
        self._keep = keep
        self._wait = wait

    @property
    def keep(self):
        """For how many days a thing is there."""
        return self._keep

    @property
    def wait(self):
        """For how many days a claim is there."""
        return self._wait


def there(entries, term, day):
    """Return a new dict with the things or claims that are there on a day, if each is for a term."""
    return {label: entry for label, entry in entries.items() if entry.day <= day < entry.day + term}


def open_on(office, terms, day):
    """Return the office with the things and claims alone that are there on a day."""
    if not in_range(day, 0, LAST_DAY_ASKED):
        raise InvalidNumber(f"no office of the day {day}")
    return Office(office.catalog, there(office.things, terms.keep, day), there(office.claims, terms.wait, day))


def turning_days(office, terms):
    """Return the ascending list of day 0 and all days on which something comes or has just gone."""
    stays = [(thing.day, terms.keep) for thing in office.things.values()]
    stays = stays + [(claim.day, terms.wait) for claim in office.claims.values()]
    return sorted(set([0] + [day for day, _ in stays] + [day + term for day, term in stays]))


def changes(office, terms):
    """Return the list of day 0 and all days with another number of pairs than the day before, with the numbers."""
    told = []
    for day in turning_days(office, terms):
        number = most_pairs(open_on(office, terms, day))
        if len(told) == 0 or told[-1][1] != number:
            told.append((day, number))
    return told


def first_day(office, terms, number):
    """Return the first day whose office has a match of at least so many pairs, or None."""
    if not is_count(number):
        raise InvalidNumber(f"a match cannot have {number} pairs")
    for day, most in changes(office, terms):
        if most >= number:
            return day
    return None


def spans(office, terms):
    """Return tuples of a number of days and the office of each of them, up to the day when nothing is there."""
    days = turning_days(office, terms)
    return [(behind - day, open_on(office, terms, day)) for day, behind in zip(days, days[1:])]


def days_of(told, word):
    """Return the sum of the days of which a word is told, by a list of tuples of days and words."""
    return sum([days for days, one in told if one == word])


def served_days(office, terms, label):
    """Return on how many days a label that is there is served always, and sometimes."""
    if label not in office:
        raise UnknownLabel(f"no thing and no claim {label}")
    told = [(days, served(present, label)) for days, present in spans(office, terms) if label in present]
    return days_of(told, "always"), days_of(told, "sometimes")


def paired_days(office, terms, claim, thing):
    """Return on how many days a claim and a thing, both there, are judged "surely", and "perhaps"."""
    claim_of(office, claim)
    thing_of(office, thing)
    told = [
        (days, judge(present, claim, thing))
        for days, present in spans(office, terms)
        if claim in present and thing in present
    ]
    return days_of(told, "surely"), days_of(told, "perhaps")
