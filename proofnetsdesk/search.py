"""The calls on a sequent that is held, and the list of calls that is handed in."""

from proofnetsdesk.clusters import Groups, find_nets, is_net
from proofnetsdesk.formulas import leaves_of, sequent_form
from proofnetsdesk.links import count_matchings, read_links, write_links
from proofnetsdesk.reading import read_sequent
from proofnetsdesk.texts import written

FIRST_SEQUENT = "a, ~a"
MOST_LEAVES = 24
MOST_MATCHINGS = 1000

# The refusals.
NO_SUCH_TEXT = -1
OUT_OF_RANGE = -2
NOT_THERE = -4
TOO_LARGE = -5
TOO_MANY_MATCHINGS = -7

# By a call's number: how many whole numbers it has, and how many rows behind them.
NUMBERS_OF_CALLS = (0, 0, 0, 0, 1, 0, 0, 2, 0, 0, 1, 1, 1)
ROWS_OF_CALLS = (1, 0, 0, 0, 0, 1, 1, 0, 0, 0, 0, 0, 0)


class UnknownCall(ValueError):
    pass


class Sequent:
    def __init__(self, formulas):
        self.formulas = formulas
        self.leaves = leaves_of(formulas)
        self.groups = Groups(formulas)
        self.matching_count = count_matchings(self.leaves)
        # Kept once they are found, for many calls may ask about one sequent.
        self.found_nets = None

    def has_too_many_matchings(self):
        return self.matching_count > MOST_MATCHINGS

    def nets(self):
        if self.found_nets is None:
            self.found_nets = find_nets(self.groups, self.leaves) if self.matching_count > 0 else []
        return self.found_nets


def with_count(text):
    return [len(text)] + text


# Each method but the first is a call, and answers the list of its numbers.
class Desk:
    def __init__(self):
        self.held = Sequent(read_sequent(written(FIRST_SEQUENT)))

    def take_sequent(self, text):
        formulas = read_sequent(text)
        if formulas is None:
            return [NO_SUCH_TEXT]
        leaf_count = len(leaves_of(formulas))
        if leaf_count > MOST_LEAVES:
            return [TOO_LARGE]
        self.held = Sequent(formulas)
        return [leaf_count]

    def tell_form(self):
        return with_count(sequent_form(self.held.formulas))

    def tell_matchings(self):
        return [self.held.matching_count]

    def tell_nets(self):
        if self.held.has_too_many_matchings():
            return [TOO_MANY_MATCHINGS]
        return [len(self.held.nets())]

    def nth_net(self, k):
        if k < 0:
            return [OUT_OF_RANGE]
        if self.held.has_too_many_matchings():
            return [TOO_MANY_MATCHINGS]
        nets = self.held.nets()
        if k >= len(nets):
            return [NOT_THERE]
        return with_count(write_links(nets[k]))

    def place_of_net(self, text):
        matching = read_links(self.held.leaves, text)
        if matching is None:
            return [NO_SUCH_TEXT]
        if not is_net(self.held.groups, matching):
            return [NOT_THERE]
        if self.held.has_too_many_matchings():
            return [TOO_MANY_MATCHINGS]
        return [self.held.nets().index(matching)]

    def net_behind(self, text):
        matching = read_links(self.held.leaves, text)
        if matching is None:
            return [NO_SUCH_TEXT]
        if self.held.has_too_many_matchings():
            return [TOO_MANY_MATCHINGS]
        for net in self.held.nets():
            if net > matching:
                return with_count(write_links(net))
        return [NOT_THERE]


# numbers are the whole numbers of the call, rows its rows.
def answer(desk, call, numbers, rows):
    if call == 0:
        return desk.take_sequent(rows[0])
    if call == 1:
        return desk.tell_form()
    if call == 2:
        return desk.tell_matchings()
    if call == 3:
        return desk.tell_nets()
    if call == 4:
        return desk.nth_net(numbers[0])
    if call == 5:
        return desk.place_of_net(rows[0])
    if call == 6:
        return desk.net_behind(rows[0])
    raise UnknownCall(f"no call has the number {call}")


def answers(calls):
    desk = Desk()
    given_back = []
    at = 0
    while at < len(calls):
        call = calls[at]
        numbers_end = at + 1 + NUMBERS_OF_CALLS[call]
        numbers = calls[at + 1:numbers_end]
        at = numbers_end
        rows = []
        while len(rows) < ROWS_OF_CALLS[call]:
            row_end = at + 1 + calls[at]
            rows.append(calls[at + 1:row_end])
            at = row_end
        given_back.extend(with_count(answer(desk, call, numbers, rows)))
    return given_back
