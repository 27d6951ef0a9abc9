"""Calls on one codec, handed in as one list of whole numbers and answered as one."""

from greyreel.codec import Codec
from greyreel.words import answer_backward, answer_forward, answer_levels, answer_smooth, answer_values

# By a call's number: how many whole numbers it has, and how many rows.
SHAPES = (
    (3, 0), (2, 1), (0, 1), (1, 0), (0, 1), (4, 1), (4, 0), (0, 0),
    (0, 1), (0, 1), (1, 1), (1, 1), (3, 1),
)
FIRST_WITHOUT_CODEC = 8


def answers(calls):
    codec = Codec()
    result = []
    place = 0
    while place < len(calls):
        number = calls[place]
        count, rows = SHAPES[number]
        whole = calls[place + 1:place + 1 + count]
        place += 1 + count
        row = []
        if rows == 1:
            row = calls[place + 1:place + 1 + calls[place]]
            place += 1 + calls[place]
        if number < FIRST_WITHOUT_CODEC:
            answer = answer_of_codec(codec, number, whole, row)
        else:
            answer = answer_without_codec(number, whole, row)
        result.append(len(answer))
        result.extend(answer)
    return result


def answer_of_codec(codec, number, whole, row):
    if number == 0:
        return codec.begin(whole[0], whole[1], whole[2])
    if number == 1:
        return codec.code(whole[0], whole[1], row)
    if number == 2:
        return codec.read(row)
    if number == 3:
        return codec.picture(whole[0])
    if number == 4:
        return codec.show(row)
    if number == 5:
        return codec.search(whole[0], whole[1], whole[2], whole[3], row)
    if number == 6:
        return codec.moved(whole[0], whole[1], whole[2], whole[3])
    return codec.about()


def answer_without_codec(number, whole, row):
    if number == 8:
        return answer_forward(row)
    if number == 9:
        return answer_backward(row)
    if number == 10:
        return answer_levels(whole[0], row)
    if number == 11:
        return answer_values(whole[0], row)
    return answer_smooth(whole[0], whole[1], whole[2], row)
