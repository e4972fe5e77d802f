"""Readings: one year of each entry, each later than the one before.

All functions about readings take one list that holds for each entry the list of its years, from the first on.
"""


class Span:
    """An entry's soonest and its latest year in any reading."""

    def __init__(self, soonest, latest):
        self.soonest = soonest
        self.latest = latest

    def is_one_year(self):
        return self.soonest == self.latest


def first_later(years, before):
    """The first of the years that is later than before, or None."""
    for year in years:
        if year > before:
            return year
    return None


def last_earlier(years, behind):
    """The last of the years that is earlier than behind, or None."""
    for year in reversed(years):
        if year < behind:
            return year
    return None


def soonest_reading(years_of_each):
    """The years of the soonest reading, or None if there's no reading."""
    reading = []
    before = -1
    for years in years_of_each:
        year = first_later(years, before)
        if year is None:
            return None
        reading.append(year)
        before = year
    return reading


def latest_reading(years_of_each, last_year):
    """The years of the latest reading, or None if there's no reading."""
    backwards = []
    behind = last_year + 1
    for years in reversed(years_of_each):
        year = last_earlier(years, behind)
        if year is None:
            return None
        backwards.append(year)
        behind = year
    return list(reversed(backwards))


def entry_spans(years_of_each, last_year):
    """For each entry its span, or None if there's no reading."""
    # In no reading is any entry sooner than in the soonest one, or later than in the latest.
    soonest = soonest_reading(years_of_each)
    latest = latest_reading(years_of_each, last_year)
    if soonest is None or latest is None:
        return None
    return [Span(first, last) for first, last in zip(soonest, latest)]


def ways_to_reach(years, years_before, ways_before):
    """For each year, how many ways there are to have the entry before in an earlier one."""
    ways = []
    total = 0
    at = 0
    for year in years:
        while at < len(years_before) and years_before[at] < year:
            total = total + ways_before[at]
            at = at + 1
        ways.append(total)
    return ways


def count_readings(years_of_each):
    """How many readings there are, in full."""
    # One way to stand ahead of all years: so the first entry is counted like the others.
    years_before = [-1]
    ways = [1]
    for years in years_of_each:
        ways = ways_to_reach(years, years_before, ways)
        years_before = years
    return sum(ways)
