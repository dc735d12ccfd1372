"""The way in: a list of calls on one new object, and what each of them is answered.

A refusal is its number alone: -20 while there is no lake, -1 where a number or the list
isn't as told, -3 where a weather can't come so or a lake would hold too much.
"""

from seasonlake.keeper import Keeper
from seasonlake.reckonings import answer_reckoning
from seasonlake.tellings import answer_telling

# By the call: how many whole numbers stand behind it, ahead of its list.
NUMBERS = (0, 0, 0, 3, 2, 2, 2, 0, 0, 2, 2, 2, 3, 0, 0, 0)
CALLS_WITH_LIST = (0, 1, 6, 7, 10, 11)
CALLS_WITHOUT_LAKE = (0, 1, 15)
RECKONINGS = (3, 4, 5, 6, 9, 10, 11, 12)


def answer_call(keeper, call, numbers, row):
    if keeper.lake is None and call not in CALLS_WITHOUT_LAKE:
        return [-20]
    if call in RECKONINGS:
        return answer_reckoning(keeper, call, numbers, row)
    return answer_telling(keeper, call, row)


def answers(calls):
    keeper = Keeper()
    answered = []
    place = 0
    while place < len(calls):
        call = calls[place]
        end = place + 1 + NUMBERS[call]
        numbers = calls[place + 1:end]
        row = []
        if call in CALLS_WITH_LIST:
            row = calls[end + 1:end + 1 + calls[end]]
            end += 1 + len(row)
        answer = answer_call(keeper, call, numbers, row)
        answered.append(len(answer))
        answered.extend(answer)
        place = end
    return answered
