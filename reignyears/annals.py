"""Goes through a list of calls on one object and gives back the list of their answers."""

from reignyears.changes import ny_drop, ny_forget, ny_know, ny_start, ny_tell, ny_up_to
from reignyears.chronicle import Chronicle
from reignyears.questions import ny_count, ny_latest, ny_name, ny_soonest, ny_years

# By the number of the call: how many whole numbers stand behind that.
NUMBERS_BEHIND = (4, 2, 0, 2, 1, 1, 1, 1, 0, 0, 0)

LAST_CHANGE = 5


def change_answer(chronicle, number, given):
    if number == 0:
        return ny_start(chronicle, given[0], given[1], given[2], given[3])
    if number == 1:
        return ny_tell(chronicle, given[0], given[1])
    if number == 2:
        return ny_drop(chronicle)
    if number == 3:
        return ny_know(chronicle, given[0], given[1])
    if number == 4:
        return ny_forget(chronicle, given[0])
    return ny_up_to(chronicle, given[0])


def question_answer(chronicle, number, given):
    if number == 6:
        return ny_name(chronicle, given[0])
    if number == 7:
        return ny_years(chronicle, given[0])
    if number == 8:
        return ny_soonest(chronicle)
    if number == 9:
        return ny_latest(chronicle)
    return ny_count(chronicle)


def call_answer(chronicle, number, given):
    if number <= LAST_CHANGE:
        return change_answer(chronicle, number, given)
    return question_answer(chronicle, number, given)


def answers(calls):
    chronicle = Chronicle()
    answered = []
    at = 0
    while at < len(calls):
        number = calls[at]
        behind = at + 1 + NUMBERS_BEHIND[number]
        answer = call_answer(chronicle, number, calls[at + 1:behind])
        answered.append(len(answer))
        answered.extend(answer)
        at = behind
    return answered
