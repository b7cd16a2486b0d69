"""What the tests share: calls are built, answers are taken apart, and a slow reference says what is right.

The reference follows the document word by word and shares no code with the package.
"""

import functools
import itertools
import os
import sys

ROOT = os.path.dirname(os.path.dirname(os.path.abspath(__file__)))
if ROOT not in sys.path:
    sys.path.insert(0, ROOT)

from proofnetsdesk.search import answers

FORM = [1]
MATCHINGS = [2]
NETS = [3]
FORCED = [8]
PROVABLE = [9]


def as_bytes(text):
    return list(text.encode("latin-1")) if isinstance(text, str) else list(text)


def with_row(call, text):
    row = as_bytes(text)
    return [call, len(row)] + row


def sequent(text):
    return with_row(0, text)


def nth(k):
    return [4, k]


def place(text):
    return with_row(5, text)


def behind(text):
    return with_row(6, text)


def linked(i, j):
    return [7, i, j]


def splits(k):
    return [10, k]


def shut(i):
    return [11, i]


def opened(i):
    return [12, i]


def taken_apart(flat):
    found = []
    at = 0
    while at < len(flat):
        end = at + 1 + flat[at]
        found.append(flat[at + 1:end])
        at = end
    assert at == len(flat), "the last answer is cut off"
    return found


def run(*calls):
    """The answers to the calls on one object, each as a list."""
    return taken_apart(answers([number for call in calls for number in call]))


def last(*calls):
    """The answer to the last of the calls."""
    return run(*calls)[-1]


def told(answer):
    """The text of an answer that is how many bytes, then they; or the refusal."""
    if len(answer) == 1 and answer[0] < 0:
        return answer[0]
    assert answer[0] == len(answer) - 1, answer
    return bytes(answer[1:]).decode("ascii")


# The reference: reading.

class NoFormula(Exception):
    pass


LETTERS = "abcdefghijklmnopqrstuvwxyz"
WORD = LETTERS + "0123456789"


def reference_tokens(text):
    tokens = []
    at = 0
    while at < len(text):
        end = at
        while end < len(text) and text[end] in WORD:
            end += 1
        if end > at:
            if end - at > 12 or text[at] not in LETTERS:
                raise NoFormula
            tokens.append(text[at:end])
            at = end
        elif text[at] in "~*|()":
            tokens.append(text[at])
            at += 1
        elif text[at:at + 2] == "-o":
            tokens.append("-o")
            at += 2
        elif text[at] == " ":
            at += 1
        else:
            raise NoFormula
    return tokens


def reference_dual(formula):
    if formula[0] == "atom":
        return ("atom", formula[1], not formula[2])
    return ("|" if formula[0] == "*" else "*", reference_dual(formula[1]), reference_dual(formula[2]))


class ReferenceReader:
    """One method for each kind of thing that the document names; opened is how many signs are open at this place."""

    def __init__(self, tokens):
        self.tokens = tokens
        self.at = 0

    def peek(self):
        return self.tokens[self.at] if self.at < len(self.tokens) else None

    def step(self):
        self.at += 1

    def checked(self, opened):
        if opened > 100:
            raise NoFormula
        return opened

    def formula(self, opened):
        first = self.chain(opened, None)
        if self.peek() != "-o":
            return first
        self.step()
        return ("|", reference_dual(first), self.formula(self.checked(opened + 1)))

    def chain(self, opened, sign):
        first = self.part(opened)
        found = self.peek()
        if found not in ("*", "|"):
            return first
        if sign not in (None, found):
            raise NoFormula
        self.step()
        return (found, first, self.chain(self.checked(opened + 1), found))

    def part(self, opened):
        found = self.peek()
        self.step()
        if found == "~":
            return reference_dual(self.part(self.checked(opened + 1)))
        if found == "(":
            inner = self.formula(self.checked(opened + 1))
            if self.peek() != ")":
                raise NoFormula
            self.step()
            return inner
        if found is None or found[0] not in LETTERS:
            raise NoFormula
        return ("atom", found, False)


def reference_formula(text):
    if len(text) > 2000:
        raise NoFormula
    reader = ReferenceReader(reference_tokens(text))
    formula = reader.formula(0)
    if reader.peek() is not None:
        raise NoFormula
    return formula


def reference_sequent(text):
    """The formulas, or None if the text is no sequent's text."""
    if text.strip(" ") == "":
        return []
    pieces = text.split(",")
    if len(pieces) > 20:
        return None
    try:
        return [reference_formula(piece) for piece in pieces]
    except NoFormula:
        return None


def reference_form(formula):
    if formula[0] == "atom":
        return ("~" if formula[2] else "") + formula[1]
    first, second = reference_form(formula[1]), reference_form(formula[2])
    if formula[1][0] != "atom":
        first = "(" + first + ")"
    if formula[2][0] not in ("atom", formula[0]):
        second = "(" + second + ")"
    return first + formula[0] + second


# The reference: matchings and nets. A node is its way from the root: the formula's number, then 1s and 2s.

def nodes_of(formula, way):
    found = [(way, formula)]
    if formula[0] != "atom":
        found += nodes_of(formula[1], way + (1,)) + nodes_of(formula[2], way + (2,))
    return found


def all_nodes(formulas):
    return [node for number, formula in enumerate(formulas) for node in nodes_of(formula, (number,))]


def leaves_of(formulas):
    return [(way, formula) for way, formula in all_nodes(formulas) if formula[0] == "atom"]


def pairings(leaves, free):
    """All ways to part the free leaves into pairs that may be linked, in no order that matters."""
    if not free:
        return [[]]
    found = []
    one, rest = free[0], free[1:]
    for other in rest:
        if leaves[one][1][1] == leaves[other][1][1] and leaves[one][1][2] != leaves[other][1][2]:
            left = [leaf for leaf in rest if leaf != other]
            found += [[(one, other)] + more for more in pairings(leaves, left)]
    return found


def comes_before(one, other):
    """-1, 0 or 1: how two matchings are ordered."""
    partners, others = {}, {}
    for table, pairs in ((partners, one), (others, other)):
        for first, second in pairs:
            table[first], table[second] = second, first
    for leaf in sorted(partners):
        if partners[leaf] != others[leaf]:
            return -1 if partners[leaf] < others[leaf] else 1
    return 0


def reference_matchings(formulas):
    leaves = leaves_of(formulas)
    found = pairings(leaves, list(range(len(leaves))))
    return sorted(found, key=functools.cmp_to_key(comes_before))


def reference_is_net(formulas, pairs):
    leaves = leaves_of(formulas)
    nodes = all_nodes(formulas)
    clusters = [{way} for way, formula in nodes]

    def cluster_of(way):
        return next(cluster for cluster in clusters if way in cluster)

    def join(one, other):
        first, second = cluster_of(one), cluster_of(other)
        if first is second:
            return False
        first |= second
        clusters[:] = [cluster for cluster in clusters if cluster is not second]
        return True

    edges = [(way, way + (side,)) for way, formula in nodes if formula[0] == "*" for side in (1, 2)]
    edges += [(leaves[one][0], leaves[other][0]) for one, other in pairs]
    for one, other in edges:
        if not join(one, other):
            return False
    pars = [way for way, formula in nodes if formula[0] == "|"]
    while True:
        ready = [way for way in pars if cluster_of(way + (1,)) is cluster_of(way + (2,))]
        if not ready:
            return len(clusters) == 1 and not pars
        if not join(ready[0], ready[0] + (1,)):
            return False
        pars.remove(ready[0])


def links_text(pairs):
    return " ".join(f"{one}-{other}" for one, other in sorted(pairs))


@functools.lru_cache(maxsize=None)
def reference_nets(formulas):
    return [pairs for pairs in reference_matchings(formulas) if reference_is_net(formulas, pairs)]


# The reference: provable, with every choice tried that the document names. Formulas are in a tuple.

@functools.lru_cache(maxsize=None)
def reference_provable(formulas):
    if len(formulas) == 2 and formulas[0][0] == "atom" and formulas[1] == reference_dual(formulas[0]):
        return True
    for place, formula in enumerate(formulas):
        if formula[0] == "|" and reference_provable(formulas[:place] + formula[1:] + formulas[place + 1:]):
            return True
        if formula[0] == "*" and reference_splits(formulas, place):
            return True
    return False


def reference_splits(formulas, place):
    """For each split, in their order, how many formulas are given to the first one."""
    first, second = formulas[place][1:]
    others = formulas[:place] + formulas[place + 1:]
    found = []
    for way in itertools.product("AB", repeat=len(others)):
        to_first = tuple(other for other, side in zip(others, way) if side == "A")
        to_second = tuple(other for other, side in zip(others, way) if side == "B")
        if reference_provable((first,) + to_first) and reference_provable((second,) + to_second):
            found.append(len(to_first))
    return found


class ReferenceDesk:
    """Answers the calls one by one, for sequents whose matchings can all be tried."""

    def __init__(self):
        self.formulas = tuple(reference_sequent("a, ~a"))

    def answer(self, call):
        asked = (self.sequent, self.form, self.matchings, self.nets, self.nth, self.place, self.behind, self.linked,
                 self.forced, self.provable, self.splits, self.shut, self.opened)[call[0]]
        if call[0] in (0, 5, 6):
            return asked(bytes(call[2:]).decode("latin-1"))
        return asked(*call[1:])

    def leaf_count(self):
        return len(leaves_of(self.formulas))

    def ordered_nets(self):
        return reference_nets(self.formulas)

    def links_of(self, text):
        """The matching with these links, or None."""
        for pairs in reference_matchings(self.formulas):
            if links_text(pairs) == text:
                return pairs
        return None

    def sequent(self, text):
        formulas = reference_sequent(text)
        if formulas is None:
            return [-1]
        if len(leaves_of(formulas)) > 24:
            return [-5]
        self.formulas = tuple(formulas)
        return [self.leaf_count()]

    def form(self):
        return counted(", ".join(reference_form(formula) for formula in self.formulas))

    def matchings(self):
        return [len(reference_matchings(self.formulas))]

    def nets(self):
        return [len(self.ordered_nets())]

    def nth(self, k):
        if k < 0:
            return [-2]
        nets = self.ordered_nets()
        return counted(links_text(nets[k])) if k < len(nets) else [-4]

    def place(self, text):
        pairs = self.links_of(text)
        if pairs is None:
            return [-1]
        before = [net for net in self.ordered_nets() if comes_before(net, pairs) < 0]
        return [len(before)] if reference_is_net(self.formulas, pairs) else [-4]

    def behind(self, text):
        pairs = self.links_of(text)
        if pairs is None:
            return [-1]
        later = [net for net in self.ordered_nets() if comes_before(net, pairs) > 0]
        return counted(links_text(later[0])) if later else [-4]

    def linked(self, i, j):
        numbers = range(self.leaf_count())
        if i not in numbers or j not in numbers:
            return [-2]
        return [len([net for net in self.ordered_nets() if (i, j) in net or (j, i) in net])]

    def forced(self):
        nets = self.ordered_nets()
        if not nets:
            return [-4]
        common = sorted(set.intersection(*[set(net) for net in nets]))
        return [len(common)] + [leaf for pair in common for leaf in pair]

    def provable(self):
        if self.leaf_count() > 12:
            return [-8]
        return [int(reference_provable(self.formulas))]

    def splits(self, k):
        if k not in range(len(self.formulas)) or self.formulas[k][0] != "*":
            return [-4]
        if self.leaf_count() > 12:
            return [-8]
        found = reference_splits(self.formulas, k)
        return [len(found)] + found

    def shut(self, i):
        numbers = range(len(self.formulas))
        if i not in numbers or i + 1 not in numbers:
            return [-4]
        self.formulas = self.formulas[:i] + (("|",) + self.formulas[i:i + 2],) + self.formulas[i + 2:]
        return [len(self.formulas)]

    def opened(self, i):
        if i not in range(len(self.formulas)) or self.formulas[i][0] != "|":
            return [-4]
        if len(self.formulas) + 1 > 20:
            return [-5]
        self.formulas = self.formulas[:i] + self.formulas[i][1:] + self.formulas[i + 1:]
        return [len(self.formulas)]


def counted(text):
    return [len(text)] + as_bytes(text)


# Texts of sequents that are made, always the same ones, for the tests that go through many.

def grown_sequent(source, names, tensors, formulas):
    """Leaves that can all be matched, put together in some way, with so many tensors."""
    parts = list(names) + ["~" + name for name in names]
    source.shuffle(parts)
    signs = ["*"] * min(tensors, max(len(parts) - formulas, 0))
    signs += ["|"] * (len(parts) - formulas - len(signs))
    source.shuffle(signs)
    for sign in signs:
        first = parts.pop(source.randrange(len(parts)))
        second = parts.pop(source.randrange(len(parts)))
        parts.insert(source.randrange(len(parts) + 1), f"({first}{sign}{second})")
    return ", ".join(parts)
