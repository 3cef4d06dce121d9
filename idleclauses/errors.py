"""What is refused, and why; each error keeps what it is made with."""


class ClauseError(ValueError):
    """Something that is passed is not what is wanted."""


class BadBundle(ClauseError):
    """No BUNDLE; part tells which part of it is wrong."""

    def __init__(self, part):
        self.part = part


class BadPaper(ClauseError):
    """No PAPER that holds; part tells which part of it is wrong."""

    def __init__(self, part):
        self.part = part


class BadChain(ClauseError):
    """No CHAIN; number is that of the first wrong STEP, or None."""

    def __init__(self, number):
        self.number = number


class BadTidy(ClauseError):
    """Not TIDY in turn; number is that of the first wrong SETTING, or None."""

    def __init__(self, number):
        self.number = number


class BadSetting(ClauseError):
    """No SETTING of the names."""

    def __init__(self, given):
        self.given = given


class BadNumber(ClauseError):
    """No number of the kind that is wanted."""

    def __init__(self, given):
        self.given = given


class BadLot(ClauseError):
    """No LOT of the names."""

    def __init__(self, given):
        self.given = given


class BadClause(ClauseError):
    """No CLAUSE of the names."""

    def __init__(self, given):
        self.given = given


class BadHalves(ClauseError):
    """No HALVES of the BUNDLE."""

    def __init__(self, given):
        self.given = given


class BadWeighing(ClauseError):
    """No WEIGHING of the BUNDLE."""

    def __init__(self, given):
        self.given = given


class BadNumbers(ClauseError):
    """No NUMBERS of the BUNDLE."""

    def __init__(self, given):
        self.given = given


class BadMatching(ClauseError):
    """No MATCHING of the BUNDLE."""

    def __init__(self, given):
        self.given = given


class BadPrices(ClauseError):
    """No PRICES of the BUNDLE."""

    def __init__(self, given):
        self.given = given


class BadLabel(ClauseError):
    """No LABEL."""

    def __init__(self, given):
        self.given = given


class BadTerm(ClauseError):
    """No TERM; path leads to what is wrong in it."""

    def __init__(self, path):
        self.path = path


class Unweighed(ClauseError):
    """A BUNDLE without HALVES; hefts are HEFTS that clash."""

    def __init__(self, hefts):
        self.hefts = hefts


class BadText(ClauseError):
    """No text that can be read; line and word tell where."""

    def __init__(self, line, word):
        self.line = line
        self.word = word


class TooMany(OverflowError):
    """More than most, which is how many there may be."""

    def __init__(self, most):
        self.most = most


class NothingLeft(RuntimeError):
    """Not so many deeds left to take back; many is how many were asked for."""

    def __init__(self, many):
        self.many = many


class Missing(KeyError):
    """Something asked for that is not there."""

    def __init__(self, given):
        self.given = given
