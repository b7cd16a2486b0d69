"""The calls on a sequent that is held, and the list of calls that is handed in."""

from proofnetsdesk.clusters import Groups, find_nets, is_net
from proofnetsdesk.formulas import PAR, TENSOR, compound, halves, kind_of, leaves_of, sequent_form
from proofnetsdesk.links import count_matchings, read_links, write_links
from proofnetsdesk.proving import Prover
from proofnetsdesk.reading import MOST_FORMULAS, read_sequent
from proofnetsdesk.texts import written

FIRST_SEQUENT = "a, ~a"
MOST_LEAVES = 24
MOST_MATCHINGS = 1000
MOST_LEAVES_TO_PROVE = 12

# The refusals.
NO_SUCH_TEXT = -1
OUT_OF_RANGE = -2
NOT_THERE = -4
TOO_LARGE = -5
TOO_MANY_MATCHINGS = -7
TOO_MANY_LEAVES = -8

# By a call's number: how many whole numbers it has, and how many rows behind them.
NUMBERS_OF_CALLS = (0, 0, 0, 0, 1, 0, 0, 2, 0, 0, 1, 1, 1)
ROWS_OF_CALLS = (1, 0, 0, 0, 0, 1, 1, 0, 0, 0, 0, 0, 0)


class UnknownCall(ValueError):
    pass


class Sequent:
    def __init__(self, formulas):
        self.formulas = formulas
        self.leaves = leaves_of(formulas)
        self.groups = Groups(formulas)
        self.matching_count = count_matchings(self.leaves)
        # Kept once they are found, for many calls may ask about one sequent.
        self.found_nets = None

    def has_formula(self, i):
        return 0 <= i < len(self.formulas)

    def has_leaf(self, i):
        return 0 <= i < len(self.leaves)

    def has_too_many_leaves(self):
        return len(self.leaves) > MOST_LEAVES_TO_PROVE

    def has_too_many_matchings(self):
        return self.matching_count > MOST_MATCHINGS

    def nets(self):
        if self.found_nets is None:
            self.found_nets = find_nets(self.groups, self.leaves) if self.matching_count > 0 else []
        return self.found_nets


def with_count(text):
    return [len(text)] + text


# Each method but the first is a call, and answers the list of its numbers.
class Desk:
    def __init__(self):
        self.held = Sequent(read_sequent(written(FIRST_SEQUENT)))
        self.prover = Prover()

    def take_sequent(self, text):
        formulas = read_sequent(text)
        if formulas is None:
            return [NO_SUCH_TEXT]
        leaf_count = len(leaves_of(formulas))
        if leaf_count > MOST_LEAVES:
            return [TOO_LARGE]
        self.held = Sequent(formulas)
        return [leaf_count]

    def tell_form(self):
        return with_count(sequent_form(self.held.formulas))

    def tell_matchings(self):
        return [self.held.matching_count]

    def tell_nets(self):
        if self.held.has_too_many_matchings():
            return [TOO_MANY_MATCHINGS]
        return [len(self.held.nets())]

    def nth_net(self, k):
        if k < 0:
            return [OUT_OF_RANGE]
        if self.held.has_too_many_matchings():
            return [TOO_MANY_MATCHINGS]
        nets = self.held.nets()
        if k >= len(nets):
            return [NOT_THERE]
        return with_count(write_links(nets[k]))

    def place_of_net(self, text):
        matching = read_links(self.held.leaves, text)
        if matching is None:
            return [NO_SUCH_TEXT]
        if not is_net(self.held.groups, matching):
            return [NOT_THERE]
        if self.held.has_too_many_matchings():
            return [TOO_MANY_MATCHINGS]
        return [self.held.nets().index(matching)]

    def net_behind(self, text):
        matching = read_links(self.held.leaves, text)
        if matching is None:
            return [NO_SUCH_TEXT]
        if self.held.has_too_many_matchings():
            return [TOO_MANY_MATCHINGS]
        for net in self.held.nets():
            if net > matching:
                return with_count(write_links(net))
        return [NOT_THERE]

    def tell_linked(self, i, j):
        if not self.held.has_leaf(i) or not self.held.has_leaf(j):
            return [OUT_OF_RANGE]
        if self.held.has_too_many_matchings():
            return [TOO_MANY_MATCHINGS]
        return [len([net for net in self.held.nets() if net[i] == j])]

    def tell_forced(self):
        if self.held.has_too_many_matchings():
            return [TOO_MANY_MATCHINGS]
        nets = self.held.nets()
        if not nets:
            return [NOT_THERE]
        pairs = []
        for leaf, other in enumerate(nets[0]):
            if leaf < other and all([net[leaf] == other for net in nets]):
                pairs.extend([leaf, other])
        return [len(pairs) // 2] + pairs

    def tell_provable(self):
        if self.held.has_too_many_leaves():
            return [TOO_MANY_LEAVES]
        return [1 if self.prover.is_provable(self.held.formulas) else 0]

    def tell_splits(self, k):
        if not self.held.has_formula(k) or kind_of(self.held.formulas[k]) != TENSOR:
            return [NOT_THERE]
        if self.held.has_too_many_leaves():
            return [TOO_MANY_LEAVES]
        return with_count([way.count(True) for way in self.prover.splits(self.held.formulas, k)])

    def shut_formulas(self, i):
        if not self.held.has_formula(i) or not self.held.has_formula(i + 1):
            return [NOT_THERE]
        formulas = self.held.formulas
        self.held = Sequent(formulas[:i] + [compound(PAR, formulas[i], formulas[i + 1])] + formulas[i + 2:])
        return [len(self.held.formulas)]

    def part_par(self, i):
        if not self.held.has_formula(i) or kind_of(self.held.formulas[i]) != PAR:
            return [NOT_THERE]
        formulas = self.held.formulas
        if len(formulas) == MOST_FORMULAS:
            return [TOO_LARGE]
        self.held = Sequent(formulas[:i] + halves(formulas[i]) + formulas[i + 1:])
        return [len(self.held.formulas)]


# numbers are the whole numbers of the call, rows its rows.
def answer(desk, call, numbers, rows):
    if call == 0:
        return desk.take_sequent(rows[0])
    if call == 1:
        return desk.tell_form()
    if call == 2:
        return desk.tell_matchings()
    if call == 3:
        return desk.tell_nets()
    if call == 4:
        return desk.nth_net(numbers[0])
    if call == 5:
        return desk.place_of_net(rows[0])
    if call == 6:
        return desk.net_behind(rows[0])
    if call == 7:
        return desk.tell_linked(numbers[0], numbers[1])
    if call == 8:
        return desk.tell_forced()
    if call == 9:
        return desk.tell_provable()
    if call == 10:
        return desk.tell_splits(numbers[0])
    if call == 11:
        return desk.shut_formulas(numbers[0])
    if call == 12:
        return desk.part_par(numbers[0])
    raise UnknownCall(f"no call has the number {call}")


def answers(calls):
    desk = Desk()
    given_back = []
    at = 0
    while at < len(calls):
        call = calls[at]
        numbers_end = at + 1 + NUMBERS_OF_CALLS[call]
        numbers = calls[at + 1:numbers_end]
        at = numbers_end
        rows = []
        while len(rows) < ROWS_OF_CALLS[call]:
            row_end = at + 1 + calls[at]
            rows.append(calls[at + 1:row_end])
            at = row_end
        given_back.extend(with_count(answer(desk, call, numbers, rows)))
    return given_back
