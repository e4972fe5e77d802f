"""How years are told by names, and which years an entry has."""


def round_length(chronicle):
    return chronicle.reign_length * chronicle.name_total


def year_name(chronicle, year):
    return (year - chronicle.first_year) // chronicle.reign_length % chronicle.name_total


def year_in_reign(chronicle, year):
    return (year - chronicle.first_year) % chronicle.reign_length


def year_round(chronicle, year):
    return (year - chronicle.first_year) // round_length(chronicle)


def told_years(chronicle, entry):
    """All years that are looked at and told like the entry, from the first on."""
    first = chronicle.first_year + entry.name * chronicle.reign_length + entry.reign_year
    return list(range(first, chronicle.last_year + 1, round_length(chronicle)))


def entry_years(chronicle, entry):
    """The entry's years, from the first on."""
    if entry.known is None:
        return told_years(chronicle, entry)
    if entry.known <= chronicle.last_year:
        return [entry.known]
    return []


def all_entry_years(chronicle):
    """For each entry the list of its years."""
    return [entry_years(chronicle, entry) for entry in chronicle.entries]
