"""The calls that ask how years and entries are told. Each gives back the numbers that it answers."""

from reignyears.bounds import HIGHEST_YEAR
from reignyears.refusals import CANNOT_BE, NOT_THERE, OUT_OF_BOUNDS
from reignyears.years import entry_years, year_in_reign, year_name, year_round


def ny_name(chronicle, y):
    if y > HIGHEST_YEAR:
        return [OUT_OF_BOUNDS]
    if y < chronicle.first_year:
        return [CANNOT_BE]
    return [year_name(chronicle, y), year_in_reign(chronicle, y), year_round(chronicle, y)]


def ny_years(chronicle, i):
    if not chronicle.has_entry(i):
        return [NOT_THERE]
    years = entry_years(chronicle, chronicle.entries[i])
    if len(years) == 0:
        return [0, 0, 0]
    return [len(years), years[0], years[len(years) - 1]]


def ny_told(chronicle, i):
    if not chronicle.has_entry(i):
        return [NOT_THERE]
    entry = chronicle.entries[i]
    # One more than the year, since 0 tells that it isn't known.
    known = 0 if entry.known is None else entry.known + 1
    return [entry.name, entry.reign_year, known]


def ny_state(chronicle):
    reigns = [chronicle.reign_length, chronicle.name_total, chronicle.first_year, chronicle.last_year]
    changes = [len(chronicle.history.past), len(chronicle.history.undone)]
    return [len(chronicle.entries)] + reigns + changes
