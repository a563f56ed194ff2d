"""The eight lists, and the calls on them."""

from setpress.packing import Packed
from setpress.refusals import NoSuchBox, NotKept, WrongNumber
from setpress.sizes import column_size, row_size
from setpress.things import MOST_NUMBERS, check_kept, in_range, read_list, tell_list

LISTS = 8
NO_GREATEST_DEPTH = -1


def check_choice(number, choices):
    if not 0 <= number < choices:
        raise WrongNumber()


def check_length(number):
    if not in_range(number, "length"):
        raise WrongNumber()


class Desk:
    """Eight lists, empty at first.

    A call takes a list's place with a new one and changes none: so one that's refused on the way leaves all as it was.
    """

    def __init__(self):
        self.lists = [[] for k in range(LISTS)]

    def put(self, k, t):
        check_choice(k, LISTS)
        things = read_list(t)
        if len(t) > MOST_NUMBERS:
            raise NotKept()
        self.lists[k] = things
        return [len(things)]

    def told(self, k):
        check_choice(k, LISTS)
        return tell_list(self.lists[k])

    def size(self, k, column):
        check_choice(k, LISTS)
        check_choice(column, 2)
        things = self.lists[k]
        size = column_size(things, NO_GREATEST_DEPTH) if column == 1 else row_size(things)
        return [size.width, size.height, size.depth]

    def pack(self, k, j, kind, how, a, m):
        check_choice(k, LISTS)
        check_choice(j, LISTS)
        check_choice(kind, 3)
        check_choice(how, 3)
        check_length(a)
        check_length(m)
        packed = Packed(self.lists[k], kind, how, a, m)
        self.keep(j, [packed.box])
        return packed.said

    def unpack(self, k, i, j):
        check_choice(k, LISTS)
        check_choice(j, LISTS)
        self.lists[j] = self.box_at(k, i)["things"]
        return [len(self.lists[j])]

    def join(self, j, k):
        check_choice(j, LISTS)
        check_choice(k, LISTS)
        self.keep(j, self.lists[j] + self.lists[k])
        return [len(self.lists[j])]

    def keep(self, k, things):
        check_kept(things)
        self.lists[k] = things

    def box_at(self, k, i):
        things = self.lists[k]
        if i >= len(things) or things[i]["kind"] != "box":
            raise NoSuchBox()
        return things[i]
