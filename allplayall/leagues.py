"""A line of calls on one new object, and what they answer."""

from allplayall.calls import asked, read_calls
from allplayall.each_stage import CHANGES_OF_EACH, QUESTIONS_OF_EACH, STATES
from allplayall.refusals import NO_SUCH, NOT_STARTED, TOO_MANY
from allplayall.stage_five import CHANGES_OF_FIVE, QUESTIONS_OF_FIVE
from allplayall.stage_four import QUESTIONS_OF_FOUR
from allplayall.stage_one import QUESTIONS_OF_ONE
from allplayall.stage_six import CHANGES_OF_SIX, QUESTIONS_OF_SIX
from allplayall.stage_three import QUESTIONS_OF_THREE
from allplayall.stage_two import CHANGES_OF_TWO, QUESTIONS_OF_TWO
from allplayall.ways import MOST_RENAMED
from allplayall.whole import CALLS_OF_WHOLE, Whole, is_league

START = 0
# The calls of the stages, from here on, begin with a hundred each.
HUNDRED = 100
SIX = 6


def changes_league(number):
    if number % HUNDRED in CHANGES_OF_EACH:
        return True
    return number in CHANGES_OF_TWO or number in CHANGES_OF_FIVE or number in CHANGES_OF_SIX


def change_league(league, number, given):
    """The league as it is then, and the answer."""
    # Six has a start of its own, so it is looked at ahead of what each stage has.
    if number in CHANGES_OF_SIX:
        return asked(CHANGES_OF_SIX[number], league, given)
    if number % HUNDRED in CHANGES_OF_EACH:
        return asked(CHANGES_OF_EACH[number % HUNDRED], league, given)
    if number in CHANGES_OF_TWO:
        return asked(CHANGES_OF_TWO[number], league, given)
    return asked(CHANGES_OF_FIVE[number], league, given)


def told_of_league(league, number, given):
    """What a stage's call answers that changes nothing."""
    if number % HUNDRED in QUESTIONS_OF_EACH:
        return asked(QUESTIONS_OF_EACH[number % HUNDRED], league, given)
    if number in QUESTIONS_OF_ONE:
        return asked(QUESTIONS_OF_ONE[number], league, given)
    if number in QUESTIONS_OF_TWO:
        return asked(QUESTIONS_OF_TWO[number], league, given)
    if number in QUESTIONS_OF_THREE:
        return asked(QUESTIONS_OF_THREE[number], league, given)
    if number in QUESTIONS_OF_FOUR:
        return asked(QUESTIONS_OF_FOUR[number], league, given)
    if number in QUESTIONS_OF_FIVE:
        return asked(QUESTIONS_OF_FIVE[number], league, given)
    if number in QUESTIONS_OF_SIX:
        return asked(QUESTIONS_OF_SIX[number], league, given)
    return asked(STATES[number], league, given)


def stage_answer(whole, number, k, given):
    if not is_league(whole, k):
        return [NO_SUCH]
    league = whole.leagues[k]
    if number // HUNDRED == SIX and len(league) > MOST_RENAMED:
        return [TOO_MANY]
    if not changes_league(number):
        return told_of_league(league, number, given)
    outcome = change_league(league, number, given)
    answer = outcome[1]
    if answer[0] >= 0:
        whole.change(whole.leagues[:k] + [outcome[0]] + whole.leagues[k + 1:])
    return answer


def call_answer(whole, number, given):
    if number == START:
        whole.begin()
        return [0]
    if not whole.started:
        return [NOT_STARTED]
    if number >= HUNDRED:
        return stage_answer(whole, number, given[0], given[1:])
    return asked(CALLS_OF_WHOLE[number], whole, given)


def answers(calls):
    """For each call, in order, how many numbers it answers, and these."""
    whole = Whole()
    told = []
    for number, given in read_calls(calls):
        answer = call_answer(whole, number, given)
        told.append(len(answer))
        told.extend(answer)
    return told
