"""Whether a sequent is provable, found out by taking it apart."""

from proofnetsdesk.formulas import PAR, TENSOR, halves, kind_of, leaves_of
from proofnetsdesk.links import count_matchings


# A sequent with a par is provable just if it is with the two formulas in the par's place, so no way is lost.
def without_pars(formulas):
    apart = []
    due = list(reversed(formulas))
    while due:
        formula = due.pop()
        if kind_of(formula) == PAR:
            parts = halves(formula)
            due.extend([parts[1], parts[0]])
        else:
            apart.append(formula)
    return apart


# Each pair of an atom and its dual begins a proof, and each tensor makes two proofs one. Most ways to give formulas
# away fail by these counts alone, and a sequent of 12 leaves that passes has at most 7 formulas.
def has_fitting_counts(formulas):
    leaves = leaves_of(formulas)
    tensors = sum([formula.count((TENSOR, ())) for formula in formulas])
    return len(leaves) == 2 * tensors + 2 and count_matchings(leaves) > 0


# For each way to give so many formulas: whether each goes with the first one. In the order that splits are told in.
def ways_to_give(count):
    ways = [[]]
    for place in range(count):
        longer = []
        for way in ways:
            longer.append(way + [True])
            longer.append(way + [False])
        ways = longer
    return ways


# Those of the others that go with the first one, or those that don't.
def given(others, way, to_first):
    return [other for other, goes_first in zip(others, way) if goes_first == to_first]


class Prover:
    def __init__(self):
        # What has been found out already, for the same sequents come up in many ways.
        self.known = {}

    def is_provable(self, formulas):
        if not has_fitting_counts(formulas):
            return False
        apart = sorted(without_pars(formulas))
        key = tuple([tuple(formula) for formula in apart])
        if key not in self.known:
            self.known[key] = self.find_out(apart)
        return self.known[key]

    # Only for formulas with fitting counts, none of which is a par.
    def find_out(self, formulas):
        if len(leaves_of(formulas)) == 2:
            return True
        for place, formula in enumerate(formulas):
            if kind_of(formula) == TENSOR and self.splits(formulas, place):
                return True
        return False

    def splits(self, formulas, place):
        if not has_fitting_counts(formulas):
            return []
        parts = halves(formulas[place])
        others = formulas[:place] + formulas[place + 1:]
        return [way for way in ways_to_give(len(others)) if self.is_split(parts, others, way)]

    def is_split(self, parts, others, way):
        return (
            self.is_provable([parts[0]] + given(others, way, True))
            and self.is_provable([parts[1]] + given(others, way, False))
        )
