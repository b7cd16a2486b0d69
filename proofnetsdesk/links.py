"""Matchings of a sequent's leaves, and the texts of their links.

A matching is the list of each leaf's partner. So Python's order of lists is the order of matchings.
"""

from proofnetsdesk.formulas import PLAIN
from proofnetsdesk.texts import BLANK, DASH, pieces_between, written

# The partner of a leaf that has none yet.
NOBODY = -1


def factorial(number):
    product = 1
    for factor in range(2, number + 1):
        product *= factor
    return product


# Counts by name how many leaves are plain, or how many are turned.
def counted_names(leaves, plain):
    counts = {}
    for kind, name in leaves:
        if (kind == PLAIN) == plain:
            counts[name] = counts.get(name, 0) + 1
    return counts


# The plain leaves of a name take its turned ones in any order, name by name: trying all would take too long.
def count_matchings(leaves):
    plain = counted_names(leaves, True)
    if plain != counted_names(leaves, False):
        return 0
    product = 1
    for count in plain.values():
        product *= factorial(count)
    return product


def can_link(one, other):
    return one[1] == other[1] and one[0] != other[0]


# The leaves that can still become the partner of this one, which is the first without a partner.
def free_partners(leaves, partners, leaf):
    return [
        other
        for other in range(leaf + 1, len(leaves))
        if partners[other] == NOBODY and can_link(leaves[leaf], leaves[other])
    ]


def no_partners(leaves):
    return [NOBODY] * len(leaves)


def with_pair(partners, leaf, other):
    more = list(partners)
    more[leaf] = other
    more[other] = leaf
    return more


def write_pair(leaf, other):
    return written(str(leaf)) + [DASH] + written(str(other))


def write_links(partners):
    text = []
    for leaf, other in enumerate(partners):
        if leaf < other:
            if text:
                text.append(BLANK)
            text.extend(write_pair(leaf, other))
    return text


# The matching that has these links, or None if no matching of the leaves has.
def read_links(leaves, text):
    pieces = pieces_between(text, BLANK) if text else []
    if 2 * len(pieces) != len(leaves):
        return None
    partners = no_partners(leaves)
    for piece in pieces:
        # By the order of the pairs, each one begins with the first leaf that no pair before it has.
        leaf = partners.index(NOBODY)
        told = [other for other in free_partners(leaves, partners, leaf) if write_pair(leaf, other) == piece]
        if not told:
            return None
        partners = with_pair(partners, leaf, told[0])
    return partners
