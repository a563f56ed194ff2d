"""The program's one function: calls in, answers out."""

from setpress.desk import Desk
from setpress.reading import Reader
from setpress.refusals import NotKept, NotThere, WrongList, WrongNumber

# By a call's number: its name; how many whole numbers, and how many rows behind them, are handed in with it.
CALLS = {
    0: ("put", 1, 1),
    1: ("told", 1, 0),
    2: ("size", 2, 0),
    3: ("pack", 6, 0),
    4: ("unpack", 3, 0),
    5: ("join", 2, 0),
    6: ("shift", 3, 0),
    7: ("fit", 4, 0),
    8: ("places", 4, 0),
    9: ("cut", 5, 1),
    10: ("move", 2, 0),
}


class Call:
    """A call as it is read: its name, its whole numbers, its rows."""

    def __init__(self, reader):
        form = CALLS[reader.take()]
        self.name = form[0]
        self.whole = [reader.take() for k in range(form[1])]
        self.rows = [reader.take_row() for k in range(form[2])]


def perform(desk, call):
    whole = call.whole
    if call.name == "put":
        return desk.put(whole[0], call.rows[0])
    if call.name == "told":
        return desk.told(whole[0])
    if call.name == "size":
        return desk.size(whole[0], whole[1])
    if call.name == "pack":
        return desk.pack(whole[0], whole[1], whole[2], whole[3], whole[4], whole[5])
    if call.name == "unpack":
        return desk.unpack(whole[0], whole[1], whole[2])
    if call.name == "join":
        return desk.join(whole[0], whole[1])
    if call.name == "shift":
        return desk.shift(whole[0], whole[1], whole[2])
    if call.name == "fit":
        return desk.fit(whole[0], whole[1], whole[2], whole[3])
    if call.name == "places":
        return desk.places(whole[0], whole[1], whole[2], whole[3])
    if call.name == "cut":
        return desk.cut(whole[0], whole[1], whole[2], whole[3], whole[4], call.rows[0])
    return desk.move(whole[0], whole[1])


def answer(desk, call):
    try:
        return perform(desk, call)
    except WrongNumber:
        return [-1]
    except WrongList:
        return [-3]
    except NotThere:
        return [-4]
    except NotKept:
        return [-6]


def answers(calls):
    """For each of the calls, in order, how many numbers are answered, and these."""
    reader = Reader(calls)
    desk = Desk()
    numbers = []
    while not reader.ended():
        answered = answer(desk, Call(reader))
        numbers.append(len(answered))
        numbers.extend(answered)
    return numbers
