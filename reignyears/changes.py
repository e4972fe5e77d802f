"""The calls that begin anew, change what is told, or take changes back. Each gives back the numbers it answers."""

from reignyears.bounds import FEWEST_NAMES, HIGHEST_FIRST_YEAR, HIGHEST_YEAR
from reignyears.bounds import MOST_ENTRIES, MOST_NAMES, MOST_REIGN_YEARS
from reignyears.chronicle import Entry
from reignyears.refusals import ALREADY_SO, CANNOT_BE, FULL, NOT_THERE, NOTHING_TO_END, OUT_OF_BOUNDS
from reignyears.years import entry_years


def fits_as_last_year(first_year, last_year):
    return first_year <= last_year and last_year <= HIGHEST_YEAR


def fits_as_start(t, n, f, e):
    if t < 1 or t > MOST_REIGN_YEARS:
        return False
    if n < FEWEST_NAMES or n > MOST_NAMES:
        return False
    return f <= HIGHEST_FIRST_YEAR and fits_as_last_year(f, e)


def ny_start(chronicle, t, n, f, e):
    if not fits_as_start(t, n, f, e):
        return [OUT_OF_BOUNDS]
    chronicle.begin(t, n, f, e)
    return [0]


def ny_tell(chronicle, k, j):
    if k >= chronicle.name_total or j >= chronicle.reign_length:
        return [OUT_OF_BOUNDS]
    number = len(chronicle.entries)
    if number == MOST_ENTRIES:
        return [FULL]
    chronicle.change_entries(chronicle.entries + [Entry(k, j, None)])
    return [number]


def ny_drop(chronicle):
    if len(chronicle.entries) == 0:
        return [NOTHING_TO_END]
    left = len(chronicle.entries) - 1
    chronicle.change_entries(chronicle.entries[:left])
    return [left]


def ny_know(chronicle, i, y):
    if not chronicle.has_entry(i):
        return [NOT_THERE]
    entry = chronicle.entries[i]
    if entry.known is not None:
        return [ALREADY_SO]
    if y not in entry_years(chronicle, entry):
        return [CANNOT_BE]
    chronicle.change_known(i, y)
    return [0]


def ny_forget(chronicle, i):
    if not chronicle.has_entry(i):
        return [NOT_THERE]
    known = chronicle.entries[i].known
    if known is None:
        return [NOTHING_TO_END]
    chronicle.change_known(i, None)
    return [known]


def ny_up_to(chronicle, e):
    if not fits_as_last_year(chronicle.first_year, e):
        return [OUT_OF_BOUNDS]
    before = chronicle.last_year
    if e == before:
        return [ALREADY_SO]
    chronicle.change_last_year(e)
    return [before]


def ny_back(chronicle):
    if len(chronicle.history.past) == 0:
        return [NOT_THERE]
    chronicle.step_back()
    return [len(chronicle.history.past)]


def ny_again(chronicle):
    if len(chronicle.history.undone) == 0:
        return [NOT_THERE]
    chronicle.step_again()
    return [len(chronicle.history.undone)]
