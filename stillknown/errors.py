"""The errors of the package: each one directly below StillError."""


class StillError(ValueError):
    """What all errors of the package have above them."""


class BadLoop(StillError):
    """part: which part of the loop is wrong."""

    def __init__(self, part):
        super().__init__("a part of a loop is not as told")
        self.part = part


class BadPattern(StillError):
    """part: which part of the pattern is wrong."""

    def __init__(self, part):
        super().__init__("a part of a pattern is not as told")
        self.part = part


class BadBook(StillError):
    """part: which part or parameter is wrong, None for the parameter book."""

    def __init__(self, part):
        super().__init__("no book, or a part of a book is not as told")
        self.part = part


class BadRows(StillError):
    """at: the index of the first item that is no row, None for no list."""

    def __init__(self, at):
        super().__init__("the rows are no row list of the kinds")
        self.at = at


class BadRow(StillError):
    """What is to be put in is no row."""


class NoQuestion(StillError):
    """name: what was given as a name."""

    def __init__(self, name):
        super().__init__("there is no question of this name")
        self.name = name


class BadExpression(StillError):
    """spot: the indexes that lead to the first part with a wrong form."""

    def __init__(self, spot):
        super().__init__("this is no expression over the book")
        self.spot = spot


class TooMany(StillError):
    """most: how many are let at most."""

    def __init__(self, most):
        super().__init__("there are more than are let")
        self.most = most


class BadKinds(StillError):
    """The kinds are no list of 1 to 3 different names."""


class BadKind(StillError):
    """kind: what was given as a kind."""

    def __init__(self, kind):
        super().__init__("this is no kind of the book")
        self.kind = kind


class BadForm(StillError):
    """This is no form, or not the form that is asked."""


class BadPath(StillError):
    """This is no path in the expression."""


class BadRule(StillError):
    """This names no rule that can be applied there."""


class BadNumber(StillError):
    """part: the name of the parameter."""

    def __init__(self, part):
        super().__init__("the number is not as told")
        self.part = part


class BadMix(StillError):
    """part: the name of the parameter."""

    def __init__(self, part):
        super().__init__("the mix is not as told")
        self.part = part


class BadPieces(StillError):
    """These are no pieces that span."""


class BadReadings(StillError):
    """at: the index of the first item that is no reading, None for no list."""

    def __init__(self, at):
        super().__init__("the readings are not as told")
        self.at = at


class BadReading(StillError):
    """This is no reading."""


class BadPaper(StillError):
    """The paper has not the form that is asked."""


class BadNumbers(StillError):
    """The numbers are not as told, or a result is not whole."""


class BadModulus(StillError):
    """The modulus is no number within its bounds."""


class BadWanted(StillError):
    """The wanted remainders are not as told."""


class Endless(StillError):
    """There are endlessly many answers."""


class BadOrder(StillError):
    """This is no order of the rows."""


class BadSide(StillError):
    """This is no side of a piece."""


class BadPrices(StillError):
    """The prices are not as told."""


class BadChoice(StillError):
    """This is no choice as it is asked."""


class BadIndex(StillError):
    """This is no index of an offered reading."""


class BadKeep(StillError):
    """at: the index of the first wrong item, None for no list."""

    def __init__(self, at):
        super().__init__("the keep is not as told")
        self.at = at


class NotKnown(StillError):
    """This is not told by what was kept."""


class BadAmong(StillError):
    """What is known of the folded rows is not as told."""


class BadExpressions(StillError):
    """These are no 1 to 4 expressions."""


class OtherKinds(StillError):
    """The books have not the same kinds."""


class BadBooks(StillError):
    """at: the index of the first wrong item, None for no list."""

    def __init__(self, at):
        super().__init__("the versions are not as told")
        self.at = at


class NoVersion(StillError):
    """at: what was given as an index."""

    def __init__(self, at):
        super().__init__("there is no version with this index")
        self.at = at


class BadMarks(StillError):
    """The marks are not as told."""


class BadLayout(StillError):
    """This is no layout."""


class BadLot(StillError):
    """This is no lot of workers."""


class BadLinks(StillError):
    """The links are no tree of the workers."""


class BadRoot(StillError):
    """The root is no worker of the links."""


class BadFilling(StillError):
    """This is no filling of the layout."""


class BadTies(StillError):
    """The ties are not as told."""


class BadTie(StillError):
    """This is none of the ties."""


class BadTuples(StillError):
    """The tuples of the seats are not as told."""


class BadChecks(StillError):
    """The checks are not as told."""


class BadCount(StillError):
    """The count is no number within its bounds."""


class BadSeat(StillError):
    """This is no seat."""


class BadSeats(StillError):
    """The seats are not as told."""


class BadPlaces(StillError):
    """at: the index of the first wrong item, None for no list of 1 to 3."""

    def __init__(self, at):
        super().__init__("the places are not as told")
        self.at = at


class BadWidth(StillError):
    """The width is no number within its bounds."""


class BadScheme(StillError):
    """This is no scheme for the seats and the width."""


class Unfit(StillError):
    """What is heard does not agree."""


class BadPolynomial(StillError):
    """This is no polynomial."""


class BadTold(StillError):
    """name: the name of the first wrong answer, None for other keys."""

    def __init__(self, name):
        super().__init__("the told answers are not as told")
        self.name = name


class NoPlace(StillError):
    """at: what was given as an index."""

    def __init__(self, at):
        super().__init__("there is no row with this index")
        self.at = at


class BadName(StillError):
    """This is no name, or it is taken."""


class NotNow(StillError):
    """word: the word of the deed."""

    def __init__(self, word):
        super().__init__("this deed can not be done now")
        self.word = word


class NothingDone(StillError):
    """There is no deed to take back."""


class BadJournal(StillError):
    """at: the index of the first wrong item."""

    def __init__(self, at):
        super().__init__("the journal is not right")
        self.at = at


class BadText(StillError):
    """at: the number of the first wrong line."""

    def __init__(self, at):
        super().__init__("the text is not one of a book")
        self.at = at
