"""The eight lists, and the calls on them."""

from setpress.cutting import Cut, what_moves_out, what_stays
from setpress.fitting import fit_column
from setpress.leaves import box_leaves
from setpress.packing import Packed
from setpress.refusals import NotKept, NotThere, WrongList, WrongNumber
from setpress.sizes import column_size, row_size
from setpress.things import MOST_NUMBERS, check_kept, in_range, read_glue, read_list, tell_list

LISTS = 8
NO_GREATEST_DEPTH = -1


def check_choice(number, choices):
    if not 0 <= number < choices:
        raise WrongNumber()


def check_length(number):
    if not in_range(number, "length"):
        raise WrongNumber()


def check_other(number, other):
    if number == other:
        raise WrongNumber()


def glue_told(numbers):
    try:
        return read_glue(numbers)
    except WrongList:
        raise WrongNumber() from None


class Desk:
    """Eight lists, empty at first.

    A call takes a list's place with a new one and changes none: so one that's refused on the way leaves all as it was.
    """

    def __init__(self):
        self.lists = [[] for k in range(LISTS)]

    def put(self, k, t):
        check_choice(k, LISTS)
        things = read_list(t)
        if len(t) > MOST_NUMBERS:
            raise NotKept()
        self.lists[k] = things
        return [len(things)]

    def told(self, k):
        check_choice(k, LISTS)
        return tell_list(self.lists[k])

    def size(self, k, column):
        check_choice(k, LISTS)
        check_choice(column, 2)
        things = self.lists[k]
        size = column_size(things, NO_GREATEST_DEPTH) if column == 1 else row_size(things)
        return [size.width, size.height, size.depth]

    def pack(self, k, j, kind, how, a, m):
        check_choice(k, LISTS)
        check_choice(j, LISTS)
        check_choice(kind, 3)
        check_choice(how, 3)
        check_length(a)
        check_length(m)
        packed = Packed(self.lists[k], kind, how, a, m)
        self.keep(j, [packed.box])
        return packed.said

    def unpack(self, k, i, j):
        check_choice(k, LISTS)
        check_choice(j, LISTS)
        self.lists[j] = self.box_at(k, i)["things"]
        return [len(self.lists[j])]

    def join(self, j, k):
        check_choice(j, LISTS)
        check_choice(k, LISTS)
        self.keep(j, self.lists[j] + self.lists[k])
        return [len(self.lists[j])]

    def shift(self, k, i, s):
        check_choice(k, LISTS)
        check_length(s)
        box = dict(self.box_at(k, i))
        box["shift"] = s
        things = self.lists[k]
        self.lists[k] = things[:i] + [box] + things[i + 1:]
        return [0]

    def fit(self, k, i, v, m):
        check_choice(k, LISTS)
        check_length(v)
        check_length(m)
        things = self.lists[k]
        if i > len(things):
            raise NotThere()
        fit = fit_column(things[:i], v, m)
        return [1, fit.excess] if fit.excess > 0 else [0, fit.badness]

    def places(self, k, i, x, y):
        check_choice(k, LISTS)
        check_length(x)
        check_length(y)
        return box_leaves(self.box_at(k, i), x, y)

    def cut(self, k, j, m, v, d, g):
        check_choice(k, LISTS)
        check_choice(j, LISTS)
        check_choice(m, LISTS)
        check_other(j, m)
        check_length(v)
        check_length(d)
        cut = Cut(self.lists[k], v, d, glue_told(g))
        self.keep_both(j, cut.upper_part, m, cut.rest)
        return [cut.penalty]

    def move(self, k, j):
        check_choice(k, LISTS)
        check_choice(j, LISTS)
        check_other(k, j)
        things = self.lists[k]
        self.keep_both(k, what_stays(things), j, what_moves_out(things))
        return [len(self.lists[j])]

    def keep(self, k, things):
        check_kept(things)
        self.lists[k] = things

    def keep_both(self, k, things, j, others):
        # The second list is looked at before the first is kept: so neither is kept without the other.
        check_kept(others)
        self.keep(k, things)
        self.lists[j] = others

    def box_at(self, k, i):
        things = self.lists[k]
        if i >= len(things) or things[i]["kind"] != "box":
            raise NotThere()
        return things[i]
