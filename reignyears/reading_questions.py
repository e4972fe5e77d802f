"""The calls that ask about readings. Each gives back the numbers that it answers, out behind the first."""

from reignyears.bounds import HIGHEST_YEAR, MOST_ENTRIES
from reignyears.readings import count_readings, entry_spans, latest_reading, soonest_reading
from reignyears.refusals import CANNOT_BE, NOT_THERE, OUT_OF_BOUNDS
from reignyears.years import all_entry_years, entry_years, round_length

COUNTED_UP_TO = 1000000007


def reading_answer(reading):
    """The answer that tells a reading, or that there's none (reading is None)."""
    if reading is None:
        return [CANNOT_BE]
    return [len(reading)] + reading + [0] * (MOST_ENTRIES - len(reading))


def all_spans(chronicle):
    """For each entry its span, or None if there's no reading."""
    return entry_spans(all_entry_years(chronicle), chronicle.last_year)


def ny_soonest(chronicle):
    return reading_answer(soonest_reading(all_entry_years(chronicle)))


def ny_latest(chronicle):
    return reading_answer(latest_reading(all_entry_years(chronicle), chronicle.last_year))


def ny_count(chronicle):
    total = count_readings(all_entry_years(chronicle))
    return [1 if total > 0 else 0, total % COUNTED_UP_TO]


def ny_sure(chronicle):
    spans = all_spans(chronicle)
    if spans is None:
        return [CANNOT_BE]
    sure = 0
    which = 0
    power = 1
    for span in spans:
        if span.is_one_year():
            sure = sure + 1
            which = which + power
        power = power * 2
    return [sure, which]


def ny_when(chronicle, i):
    if not chronicle.has_entry(i):
        return [NOT_THERE]
    spans = all_spans(chronicle)
    if spans is None:
        return [CANNOT_BE]
    return [spans[i].soonest, spans[i].latest]


def ny_apart(chronicle, i, j):
    if not chronicle.has_entry(j) or j <= i:
        return [NOT_THERE]
    spans = all_spans(chronicle)
    if spans is None:
        return [CANNOT_BE]
    least = spans[j].soonest - spans[i].latest
    return [max(0, least), spans[j].latest - spans[i].soonest]


def ny_one(chronicle):
    spans = all_spans(chronicle)
    if spans is None:
        return [CANNOT_BE]
    return [1 if all([span.is_one_year() for span in spans]) else 0]


def ny_rounds(chronicle, i):
    if not chronicle.has_entry(i):
        return [NOT_THERE]
    spans = all_spans(chronicle)
    if spans is None:
        return [CANNOT_BE]
    return [(spans[i].latest - spans[i].soonest) // round_length(chronicle)]


def ny_could(chronicle, i, y):
    if not chronicle.has_entry(i):
        return [NOT_THERE]
    if y > HIGHEST_YEAR:
        return [OUT_OF_BOUNDS]
    spans = all_spans(chronicle)
    if spans is None or y not in entry_years(chronicle, chronicle.entries[i]):
        return [0]
    # Any of its years between fits: the others before as at the soonest, those behind as at the latest.
    return [1 if spans[i].soonest <= y and y <= spans[i].latest else 0]
