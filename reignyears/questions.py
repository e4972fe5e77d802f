"""The calls that change nothing. Each gives back the numbers that it answers, out behind the first."""

from reignyears.bounds import HIGHEST_YEAR, MOST_ENTRIES
from reignyears.readings import count_readings, latest_reading, soonest_reading
from reignyears.refusals import CANNOT_BE, NOT_THERE, OUT_OF_BOUNDS
from reignyears.years import all_entry_years, entry_years, year_in_reign, year_name, year_round

COUNTED_UP_TO = 1000000007


def ny_name(chronicle, y):
    if y > HIGHEST_YEAR:
        return [OUT_OF_BOUNDS]
    if y < chronicle.first_year:
        return [CANNOT_BE]
    return [year_name(chronicle, y), year_in_reign(chronicle, y), year_round(chronicle, y)]


def ny_years(chronicle, i):
    if not chronicle.has_entry(i):
        return [NOT_THERE]
    years = entry_years(chronicle, chronicle.entries[i])
    if len(years) == 0:
        return [0, 0, 0]
    return [len(years), years[0], years[len(years) - 1]]


def reading_answer(reading):
    """The answer that tells a reading, or that there's none (reading is None)."""
    if reading is None:
        return [CANNOT_BE]
    return [len(reading)] + reading + [0] * (MOST_ENTRIES - len(reading))


def ny_soonest(chronicle):
    return reading_answer(soonest_reading(all_entry_years(chronicle)))


def ny_latest(chronicle):
    return reading_answer(latest_reading(all_entry_years(chronicle), chronicle.last_year))


def ny_count(chronicle):
    total = count_readings(all_entry_years(chronicle))
    return [1 if total > 0 else 0, total % COUNTED_UP_TO]
