"""Which matchings of a sequent are nets.

Clusters are told by a list: for each point, or for each group of points that are one from the beginning,
a number that is the same for all of one cluster.
"""

from proofnetsdesk.formulas import PAR, TENSOR
from proofnetsdesk.links import NOBODY, free_partners, no_partners, with_pair


# What all matchings of a sequent have in common. Formulas are trees, so the edges of tensors never join
# what is one cluster already: the groups that they make are told by one walk, before any link.
class Groups:
    def __init__(self, formulas):
        self.size = 0
        # The groups of a par, of its first formula and of its second one.
        self.pars = []
        self.leaf_groups = []
        for formula in formulas:
            self.take_formula(formula)

    def new_group(self):
        self.size += 1
        return self.size - 1

    def take_formula(self, formula):
        due = [self.new_group()]
        for kind, name in formula:
            group = due.pop()
            if kind == TENSOR:
                due.extend([group, group])
            elif kind == PAR:
                first = self.new_group()
                second = self.new_group()
                self.pars.append((group, first, second))
                due.extend([second, first])
            else:
                self.leaf_groups.append(group)

    def separate(self):
        return list(range(self.size))

    # Each link and each taken par makes two clusters one, so how many are left in the end is known ahead.
    def can_become_one(self):
        return self.size - len(self.leaf_groups) // 2 - len(self.pars) == 1


# None if the two are in one cluster already.
def joined(clusters, one, other):
    kept = clusters[one]
    given_up = clusters[other]
    if kept == given_up:
        return None
    return [kept if cluster == given_up else cluster for cluster in clusters]


def joined_leaves(groups, clusters, leaf, other):
    return joined(clusters, groups.leaf_groups[leaf], groups.leaf_groups[other])


def can_take_all(pars, clusters):
    waiting = pars
    while waiting:
        left = []
        for par in waiting:
            if clusters[par[1]] != clusters[par[2]]:
                left.append(par)
            else:
                clusters = joined(clusters, par[0], par[1])
                if clusters is None:
                    return False
        if len(left) == len(waiting):
            return False
        waiting = left
    return True


def is_net(groups, partners):
    if not groups.can_become_one():
        return False
    clusters = groups.separate()
    for leaf, other in enumerate(partners):
        if leaf < other:
            clusters = joined_leaves(groups, clusters, leaf, other)
            if clusters is None:
                return False
    return can_take_all(groups.pars, clusters)


# The matchings that have one pair more than this one, the last in order first, each with its clusters.
# Those are left out where the pair joins one cluster with itself: whatever pairs follow, that's no net.
def one_pair_more(groups, leaves, partners, clusters):
    leaf = partners.index(NOBODY)
    more = []
    for other in reversed(free_partners(leaves, partners, leaf)):
        together = joined_leaves(groups, clusters, leaf, other)
        if together is not None:
            more.append((with_pair(partners, leaf, other), together))
    return more


# All nets in their order. Only for leaves that have a matching: else the search may be long, and in vain.
def find_nets(groups, leaves):
    if not groups.can_become_one():
        return []
    nets = []
    begun = [(no_partners(leaves), groups.separate())]
    while begun:
        last = begun.pop()
        if NOBODY in last[0]:
            begun.extend(one_pair_more(groups, leaves, last[0], last[1]))
        elif can_take_all(groups.pars, last[1]):
            nets.append(last[0])
    return nets
