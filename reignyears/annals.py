"""Goes through a list of calls on one object and gives back the list of their answers."""

from reignyears.changes import ny_again, ny_back, ny_drop, ny_forget, ny_know, ny_start, ny_tell, ny_up_to
from reignyears.chronicle import Chronicle
from reignyears.questions import ny_name, ny_state, ny_told, ny_years
from reignyears.reading_questions import ny_apart, ny_could, ny_count, ny_latest, ny_one
from reignyears.reading_questions import ny_rounds, ny_soonest, ny_sure, ny_when

# By the number of the call: how many whole numbers stand behind that.
NUMBERS_BEHIND = (4, 2, 0, 2, 1, 1, 1, 1, 0, 0, 0, 0, 1, 2, 0, 1, 2, 1, 0, 0, 0)

# The numbers of the calls in changes and in reading_questions; the others are in questions.
CHANGES = (0, 1, 2, 3, 4, 5, 18, 19)
READING_QUESTIONS = (8, 9, 10, 11, 12, 13, 14, 15, 16)


def change_answer(chronicle, number, given):
    if number == 0:
        return ny_start(chronicle, given[0], given[1], given[2], given[3])
    if number == 1:
        return ny_tell(chronicle, given[0], given[1])
    if number == 2:
        return ny_drop(chronicle)
    if number == 3:
        return ny_know(chronicle, given[0], given[1])
    if number == 4:
        return ny_forget(chronicle, given[0])
    if number == 5:
        return ny_up_to(chronicle, given[0])
    if number == 18:
        return ny_back(chronicle)
    return ny_again(chronicle)


def reading_question_answer(chronicle, number, given):
    if number == 8:
        return ny_soonest(chronicle)
    if number == 9:
        return ny_latest(chronicle)
    if number == 10:
        return ny_count(chronicle)
    if number == 11:
        return ny_sure(chronicle)
    if number == 12:
        return ny_when(chronicle, given[0])
    if number == 13:
        return ny_apart(chronicle, given[0], given[1])
    if number == 14:
        return ny_one(chronicle)
    if number == 15:
        return ny_rounds(chronicle, given[0])
    return ny_could(chronicle, given[0], given[1])


def question_answer(chronicle, number, given):
    if number == 6:
        return ny_name(chronicle, given[0])
    if number == 7:
        return ny_years(chronicle, given[0])
    if number == 17:
        return ny_told(chronicle, given[0])
    return ny_state(chronicle)


def call_answer(chronicle, number, given):
    if number in CHANGES:
        return change_answer(chronicle, number, given)
    if number in READING_QUESTIONS:
        return reading_question_answer(chronicle, number, given)
    return question_answer(chronicle, number, given)


def answers(calls):
    chronicle = Chronicle()
    answered = []
    at = 0
    while at < len(calls):
        number = calls[at]
        behind = at + 1 + NUMBERS_BEHIND[number]
        answer = call_answer(chronicle, number, calls[at + 1:behind])
        answered.append(len(answer))
        answered.extend(answer)
        at = behind
    return answered
