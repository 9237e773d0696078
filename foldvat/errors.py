"""What this program refuses, a class of its own for each kind."""


class FoldError(ValueError):
    """Any refusal."""


class NoPlaces(FoldError):
    """No number of places that a strip can have."""


class NoRow(FoldError):
    """No row of deeds of this strip."""


class NoColumn(FoldError):
    """No column at which something lies."""


class NoDepth(FoldError):
    """No depth of the pile at this column."""


class NoPlace(FoldError):
    """No place that is asked for here."""


class NoLine(FoldError):
    """No line between two columns."""


class NoKind(FoldError):
    """No kind of bend."""


class NoNumber(FoldError):
    """No number that is due here."""


class NoDip(FoldError):
    """No dip behind this row."""


class NoVat(FoldError):
    """No vat of this strip."""


class NoMark(FoldError):
    """No mark of this vat."""


class NoPattern(FoldError):
    """No pattern of hills and dales."""


class TooMany(FoldError):
    """More hills and dales than a row of deeds can be asked for."""


class NoWay(FoldError):
    """No way to fold."""


class Full(FoldError):
    """No room for one more."""


class Nothing(FoldError):
    """Nothing that could be opened."""


class NoHistory(FoldError):
    """No list of deeds that can be done so."""


class NoText(FoldError):
    """No text of a history: its field tells the first row that is wrong, or None."""

    def __init__(self, line):
        super().__init__("this is no text of a history")
        self.line = line


class NoForm(FoldError):
    """No row that the desk knows."""


class NoneYet(FoldError):
    """Nothing that could be undone."""
