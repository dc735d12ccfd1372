"""The way in: a list of calls on one new object, and what each of them is answered."""

from seasonlake.keeper import Keeper, answer_call

# By the call: how many whole numbers stand behind it, ahead of its list.
NUMBERS = (0, 0, 0, 3, 2, 2, 2, 0)
CALLS_WITH_LIST = (0, 1, 6, 7)


def answers(calls):
    keeper = Keeper()
    answered = []
    place = 0
    while place < len(calls):
        call = calls[place]
        end = place + 1 + NUMBERS[call]
        numbers = calls[place + 1:end]
        row = []
        if call in CALLS_WITH_LIST:
            row = calls[end + 1:end + 1 + calls[end]]
            end += 1 + len(row)
        answer = answer_call(keeper, call, numbers, row)
        answered.append(len(answer))
        answered.extend(answer)
        place = end
    return answered
