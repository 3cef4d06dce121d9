"""A BENCH: a BUNDLE on which CLAUSES are put, struck and settled, and deeds are taken back."""

from idleclauses.bundles import need_bundle, put_to
from idleclauses.errors import BadNumber, Missing, NothingLeft
from idleclauses.forms import is_integer, is_literal_row
from idleclauses.kernels import kernel
from idleclauses.tidy import greatest_tidy, struck_by


class Bench:
    """A BUNDLE, and the deeds that led to it.

    Of each deed there are its word, its argument, and the BUNDLE ahead of it.
    """

    def __init__(self, bundle):
        self.now = need_bundle(bundle)
        self.deeds = []

    @property
    def bundle(self):
        """The BUNDLE that is on it now."""
        return self.now

    def kernel_now(self):
        """The KERNEL of the BUNDLE that is on it now."""
        return kernel(self.now)

    def put(self, clause):
        """Puts a CLAUSE to it; the CLAUSES that are USED now and were not so."""
        ahead = self.now
        self.lead_to("put", clause, put_to(ahead, clause))
        used = _used_clauses(ahead)
        return tuple([row for row in _used_clauses(self.now) if row not in used])

    def strike(self, clause):
        """Takes a CLAUSE away; those that are left, were USED, and are not so any more."""
        ahead = self.now
        names, clauses = ahead
        if not is_literal_row(names, clause) or clause not in clauses:
            raise Missing(clause)
        self.lead_to("strike", clause, (names, tuple([row for row in clauses if row != clause])))
        used = _used_clauses(self.now)
        return tuple([row for row in _used_clauses(ahead) if row != clause and row not in used])

    def settle(self):
        """Takes all CLAUSES away that are not USED; a TIDY SETTING that meets just these."""
        setting = greatest_tidy(self.now)
        self.lead_to("settle", None, struck_by(self.now, setting))
        return setting

    def lead_to(self, word, given, bundle):
        """Does a deed, which leads to this BUNDLE."""
        self.deeds.append((word, given, self.now))
        self.now = bundle

    def undo(self, many=1):
        """Takes so many deeds back, the last one first."""
        if not is_integer(many) or many < 1:
            raise BadNumber(many)
        if many > len(self.deeds):
            raise NothingLeft(many)
        self.now = self.deeds[-many][2]
        del self.deeds[-many:]

    def copy(self):
        """A Bench that stands likewise, and goes on by itself."""
        other = Bench(self.now)
        other.deeds = list(self.deeds)
        return other

    def trial(self):
        """An object for one with statement, behind which the Bench is as it was ahead of it."""
        return Trial(self)

    def __len__(self):
        return len(self.deeds)

    def __eq__(self, other):
        # Alike deeds that lead on to alike BUNDLES have begun with alike ones.
        return isinstance(other, Bench) and self.now == other.now and self.deeds == other.deeds


class Trial:
    """Holds how a Bench stands when a with statement begins, and leads it back there."""

    def __init__(self, held):
        self.held = held
        self.now = None
        self.deeds = None

    def __enter__(self):
        self.now = self.held.now
        self.deeds = list(self.held.deeds)
        return self.held

    def __exit__(self, kind, value, trace):
        self.held.now = self.now
        self.held.deeds = self.deeds


def _used_clauses(bundle):
    """The USED CLAUSES of a BUNDLE, ascending."""
    _, clauses = bundle
    return [clauses[number] for number in kernel(bundle)]


def under(manager, deed):
    """What a deed returns with what a manager gives to a with statement."""
    with manager as one:
        return deed(one)
