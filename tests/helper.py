"""What the tests share: calls are built, answers are taken apart, and a slow reference says what is right.

The reference follows the document word by word and shares no code with the package.
"""

import functools
import os
import sys

ROOT = os.path.dirname(os.path.dirname(os.path.abspath(__file__)))
if ROOT not in sys.path:
    sys.path.insert(0, ROOT)

from proofnetsdesk.search import answers

FORM = [1]
MATCHINGS = [2]
NETS = [3]


def as_bytes(text):
    return list(text.encode("latin-1")) if isinstance(text, str) else list(text)


def with_row(call, text):
    row = as_bytes(text)
    return [call, len(row)] + row


def sequent(text):
    return with_row(0, text)


def nth(k):
    return [4, k]


def place(text):
    return with_row(5, text)


def behind(text):
    return with_row(6, text)


def taken_apart(flat):
    found = []
    at = 0
    while at < len(flat):
        end = at + 1 + flat[at]
        found.append(flat[at + 1:end])
        at = end
    assert at == len(flat), "the last answer is cut off"
    return found


def run(*calls):
    """The answers to the calls on one object, each as a list."""
    return taken_apart(answers([number for call in calls for number in call]))


def last(*calls):
    """The answer to the last of the calls."""
    return run(*calls)[-1]


def told(answer):
    """The text of an answer that is how many bytes, then they; or the refusal."""
    if len(answer) == 1 and answer[0] < 0:
        return answer[0]
    assert answer[0] == len(answer) - 1, answer
    return bytes(answer[1:]).decode("ascii")


# The reference: reading.

class NoFormula(Exception):
    pass


LETTERS = "abcdefghijklmnopqrstuvwxyz"
WORD = LETTERS + "0123456789"


def reference_tokens(text):
    tokens = []
    at = 0
    while at < len(text):
        end = at
        while end < len(text) and text[end] in WORD:
            end += 1
        if end > at:
            if end - at > 12 or text[at] not in LETTERS:
                raise NoFormula
            tokens.append(text[at:end])
            at = end
        elif text[at] in "~*|()":
            tokens.append(text[at])
            at += 1
        elif text[at:at + 2] == "-o":
            tokens.append("-o")
            at += 2
        elif text[at] == " ":
            at += 1
        else:
            raise NoFormula
    return tokens


def reference_dual(formula):
    if formula[0] == "atom":
        return ("atom", formula[1], not formula[2])
    return ("|" if formula[0] == "*" else "*", reference_dual(formula[1]), reference_dual(formula[2]))


class ReferenceReader:
    """One method for each kind of thing that the document names; opened is how many signs are open at this place."""

    def __init__(self, tokens):
        self.tokens = tokens
        self.at = 0

    def peek(self):
        return self.tokens[self.at] if self.at < len(self.tokens) else None

    def step(self):
        self.at += 1

    def checked(self, opened):
        if opened > 100:
            raise NoFormula
        return opened

    def formula(self, opened):
        first = self.chain(opened, None)
        if self.peek() != "-o":
            return first
        self.step()
        return ("|", reference_dual(first), self.formula(self.checked(opened + 1)))

    def chain(self, opened, sign):
        first = self.part(opened)
        found = self.peek()
        if found not in ("*", "|"):
            return first
        if sign not in (None, found):
            raise NoFormula
        self.step()
        return (found, first, self.chain(self.checked(opened + 1), found))

    def part(self, opened):
        found = self.peek()
        self.step()
        if found == "~":
            return reference_dual(self.part(self.checked(opened + 1)))
        if found == "(":
            inner = self.formula(self.checked(opened + 1))
            if self.peek() != ")":
                raise NoFormula
            self.step()
            return inner
        if found is None or found[0] not in LETTERS:
            raise NoFormula
        return ("atom", found, False)


def reference_formula(text):
    if len(text) > 2000:
        raise NoFormula
    reader = ReferenceReader(reference_tokens(text))
    formula = reader.formula(0)
    if reader.peek() is not None:
        raise NoFormula
    return formula


def reference_sequent(text):
    """The formulas, or None if the text is no sequent's text."""
    if text.strip(" ") == "":
        return []
    pieces = text.split(",")
    if len(pieces) > 20:
        return None
    try:
        return [reference_formula(piece) for piece in pieces]
    except NoFormula:
        return None


def reference_form(formula):
    if formula[0] == "atom":
        return ("~" if formula[2] else "") + formula[1]
    first, second = reference_form(formula[1]), reference_form(formula[2])
    if formula[1][0] != "atom":
        first = "(" + first + ")"
    if formula[2][0] not in ("atom", formula[0]):
        second = "(" + second + ")"
    return first + formula[0] + second


# The reference: matchings and nets. A node is its way from the root: the formula's number, then 1s and 2s.

def nodes_of(formula, way):
    found = [(way, formula)]
    if formula[0] != "atom":
        found += nodes_of(formula[1], way + (1,)) + nodes_of(formula[2], way + (2,))
    return found


def all_nodes(formulas):
    return [node for number, formula in enumerate(formulas) for node in nodes_of(formula, (number,))]


def leaves_of(formulas):
    return [(way, formula) for way, formula in all_nodes(formulas) if formula[0] == "atom"]


def pairings(leaves, free):
    """All ways to part the free leaves into pairs that may be linked, in no order that matters."""
    if not free:
        return [[]]
    found = []
    one, rest = free[0], free[1:]
    for other in rest:
        if leaves[one][1][1] == leaves[other][1][1] and leaves[one][1][2] != leaves[other][1][2]:
            left = [leaf for leaf in rest if leaf != other]
            found += [[(one, other)] + more for more in pairings(leaves, left)]
    return found


def comes_before(one, other):
    """-1, 0 or 1: how two matchings are ordered."""
    partners, others = {}, {}
    for table, pairs in ((partners, one), (others, other)):
        for first, second in pairs:
            table[first], table[second] = second, first
    for leaf in sorted(partners):
        if partners[leaf] != others[leaf]:
            return -1 if partners[leaf] < others[leaf] else 1
    return 0


def reference_matchings(formulas):
    leaves = leaves_of(formulas)
    found = pairings(leaves, list(range(len(leaves))))
    return sorted(found, key=functools.cmp_to_key(comes_before))


def reference_is_net(formulas, pairs):
    leaves = leaves_of(formulas)
    nodes = all_nodes(formulas)
    clusters = [{way} for way, formula in nodes]

    def cluster_of(way):
        return next(cluster for cluster in clusters if way in cluster)

    def join(one, other):
        first, second = cluster_of(one), cluster_of(other)
        if first is second:
            return False
        first |= second
        clusters[:] = [cluster for cluster in clusters if cluster is not second]
        return True

    edges = [(way, way + (side,)) for way, formula in nodes if formula[0] == "*" for side in (1, 2)]
    edges += [(leaves[one][0], leaves[other][0]) for one, other in pairs]
    for one, other in edges:
        if not join(one, other):
            return False
    pars = [way for way, formula in nodes if formula[0] == "|"]
    while True:
        ready = [way for way in pars if cluster_of(way + (1,)) is cluster_of(way + (2,))]
        if not ready:
            return len(clusters) == 1 and not pars
        if not join(ready[0], ready[0] + (1,)):
            return False
        pars.remove(ready[0])


def links_text(pairs):
    return " ".join(f"{one}-{other}" for one, other in sorted(pairs))


# Texts of sequents that are made, always the same ones, for the tests that go through many.

def grown_sequent(source, names, tensors, formulas):
    """Leaves that can all be matched, put together in some way, with so many tensors."""
    parts = list(names) + ["~" + name for name in names]
    source.shuffle(parts)
    signs = ["*"] * min(tensors, max(len(parts) - formulas, 0))
    signs += ["|"] * (len(parts) - formulas - len(signs))
    source.shuffle(signs)
    for sign in signs:
        first = parts.pop(source.randrange(len(parts)))
        second = parts.pop(source.randrange(len(parts)))
        parts.insert(source.randrange(len(parts) + 1), f"({first}{sign}{second})")
    return ", ".join(parts)
