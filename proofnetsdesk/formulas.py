"""Formulas, and how they are written.

A formula is the list of its nodes: the formula itself, then the nodes of its first one, then those of its second one.
A node is its kind and its name; the name is the tuple of its bytes, without any for a tensor or a par.
So no formula needs calls within one another, and its dual has a node for each of its nodes, in the same order.
"""

from proofnetsdesk.texts import BLANK, COMMA

# But for PLAIN, a kind is the byte that it is written with.
PLAIN = 0
TURNED = 126
TENSOR = 42
PAR = 124

OPENING = 40
CLOSING = 41


def dual(formula):
    opposite = {PLAIN: TURNED, TURNED: PLAIN, TENSOR: PAR, PAR: TENSOR}
    return [(opposite[kind], name) for kind, name in formula]


def compound(kind, first, second):
    return [(kind, ())] + first + second


def is_atom_kind(kind):
    return kind == PLAIN or kind == TURNED


def kind_of(formula):
    return formula[0][0]


# The two formulas that a tensor or a par is of.
def halves(formula):
    end = 1
    # How many formulas are still to come before the first one is whole.
    due = 1
    while due > 0:
        due += -1 if is_atom_kind(formula[end][0]) else 1
        end += 1
    return [formula[1:end], formula[end:]]


def in_brackets(text):
    return [OPENING] + text + [CLOSING]


def atom_form(kind, name):
    if kind == TURNED:
        return [TURNED] + list(name)
    return list(name)


# first and second are each a kind and a form.
def compound_form(kind, first, second):
    first_form = first[1]
    if not is_atom_kind(first[0]):
        first_form = in_brackets(first_form)
    second_form = second[1]
    if not is_atom_kind(second[0]) and second[0] != kind:
        second_form = in_brackets(second_form)
    return first_form + [kind] + second_form


def formula_form(formula):
    # From the end on, the two forms that a node needs are the last ones made.
    made = []
    for kind, name in reversed(formula):
        if is_atom_kind(kind):
            made.append((kind, atom_form(kind, name)))
        else:
            first = made.pop()
            second = made.pop()
            made.append((kind, compound_form(kind, first, second)))
    return made[0][1]


def sequent_form(formulas):
    form = []
    for place, formula in enumerate(formulas):
        if place > 0:
            form.extend([COMMA, BLANK])
        form.extend(formula_form(formula))
    return form


def leaves_of(formulas):
    leaves = []
    for formula in formulas:
        leaves.extend([node for node in formula if is_atom_kind(node[0])])
    return leaves
