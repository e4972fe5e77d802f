"""How the tests write calls down and take answers apart."""

from reignyears.annals import answers

LARGEST = 4294967295

NO_YEARS = [0] * 10


def start(t, n, f, e):
    return [0, t, n, f, e]


def tell(k, j):
    return [1, k, j]


def drop():
    return [2]


def know(i, y):
    return [3, i, y]


def forget(i):
    return [4, i]


def up_to(e):
    return [5, e]


def name(y):
    return [6, y]


def years(i):
    return [7, i]


def soonest():
    return [8]


def latest():
    return [9]


def count():
    return [10]


def sure():
    return [11]


def when(i):
    return [12, i]


def apart(i, j):
    return [13, i, j]


def one():
    return [14]


def rounds(i):
    return [15, i]


def could(i, y):
    return [16, i, y]


def how_told(i):
    return [17, i]


def back():
    return [18]


def again():
    return [19]


def state():
    return [20]


def one_list(calls):
    return [number for call in calls for number in call]


def split(answered):
    """The numbers of each answer, without how many they are."""
    parts = []
    at = 0
    while at < len(answered):
        behind = at + 1 + answered[at]
        assert answered[at] > 0 and behind <= len(answered), answered
        parts.append(answered[at + 1:behind])
        at = behind
    return parts


def run(*calls):
    """One answer for each call."""
    parts = split(answers(one_list(calls)))
    assert len(parts) == len(calls), (calls, parts)
    return parts


def last(*calls):
    """The answer to the last call."""
    return run(*calls)[-1]


def padded(*entry_years):
    """What ny_soonest and ny_latest answer for these years."""
    return [len(entry_years)] + list(entry_years) + [0] * (10 - len(entry_years))


def asked(entries):
    """Every question, of so many entries and of one that isn't there."""
    calls = [state(), soonest(), latest(), count(), one(), sure(), name(0), name(500)]
    for i in range(entries + 1):
        calls += [how_told(i), years(i), when(i), rounds(i)]
        calls += [apart(i, j) for j in range(entries + 1)]
        calls += [could(i, y) for y in range(0, 80)]
    return calls
