"""A SHELF: TERMS under LABELS, and what their BUNDLES have to do with one another."""

from idleclauses.codes import missed_by_clauses
from idleclauses.errors import BadLabel, Missing, TooMany
from idleclauses.terms import bundle_of

MOST_LABELS = 20
MOST_LETTERS = 8


class Shelf:
    """TERMS under LABELS, and beside them the BUNDLES of these TERMS."""

    def __init__(self):
        self.terms = {}
        self.bundles = {}

    def put(self, label, term):
        """Puts a TERM under a LABEL, in the place of an elder one."""
        if not _is_label(label):
            raise BadLabel(label)
        bundle = bundle_of(term)
        if label not in self.terms and len(self.terms) >= MOST_LABELS:
            raise TooMany(MOST_LABELS)
        self.terms[label] = term
        self.bundles[label] = bundle

    def need_label(self, label):
        """Itself, if it is one of the LABELS."""
        if not _is_label(label) or label not in self.terms:
            raise Missing(label)
        return label

    def take(self, label):
        """Takes a LABEL away; its TERM."""
        self.need_label(label)
        del self.bundles[label]
        return self.terms.pop(label)

    def seek(self, label):
        """The TERM under a LABEL."""
        return self.terms[self.need_label(label)]

    def stronger(self, label):
        """The other LABELS of as many NAMES by whose CLAUSES all of this one's are met."""
        names, clauses = self.bundles[self.need_label(label)]
        missed = missed_by_clauses(clauses)
        found = []
        for other, (other_names, other_clauses) in self.bundles.items():
            if other != label and other_names == names and missed & ~missed_by_clauses(other_clauses) == 0:
                found.append(other)
        return tuple(sorted(found))

    def labels(self):
        """The ascending tuple of its LABELS."""
        return tuple(sorted(list(self.terms)))

    def alike(self):
        """The ascending tuple of all pairs of LABELS of TERMS with the same BUNDLE."""
        found = self.labels()
        return tuple([(one, other) for at, one in enumerate(found) for other in found[at + 1:]
                      if self.bundles[one] == self.bundles[other]])

    def __len__(self):
        return len(self.terms)

    def __contains__(self, label):
        return _is_label(label) and label in self.terms

    def __eq__(self, other):
        return isinstance(other, Shelf) and self.terms == other.terms


def _is_label(thing):
    """Whether any thing is a LABEL: 1 to 8 letters from a to z."""
    if not isinstance(thing, str) or not 1 <= len(thing) <= MOST_LETTERS:
        return False
    return all(["a" <= letter <= "z" for letter in thing])
