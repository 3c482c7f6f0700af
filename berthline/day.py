"""The deeds of a day along a quay, told as rows of words."""
from berthline.digits import number_of, text_of
from berthline.errors import NoShip, QuayError
from berthline.quay import Quay


def metres(word):
    number = number_of(word)
    if number is None:
        raise NoShip("a ship's length is a whole number of metres")
    return number


def done(quay, words):
    if len(words) == 3 and words[0] == "come":
        return text_of(quay.come(words[1], metres(words[2])))
    if len(words) == 2 and words[0] == "leave":
        quay.leave(words[1])
        return "gone"
    if words == ["up"]:
        return text_of(quay.move_up())
    # Words that tell no deed of the three are refused, not guessed at.
    return "no"


def answer(quay, row):
    try:
        return done(quay, row.split())
    except QuayError:
        return "no"


def told(length, gap, rows):
    quay = Quay(length, gap)
    return [answer(quay, row) for row in rows]


def berths(length, gap, rows):
    quay = Quay(length, gap)
    for row in rows:
        answer(quay, row)
    return quay.ships
