"""All errors of the package, with their families and fields."""


class AlikeError(ValueError):
    """The base class of all errors of the package."""


class PaperError(AlikeError):
    """A checker did not accept its thing."""


class RuleError(AlikeError):
    """A parameter cannot be used, or a rule or plan does not allow what is asked."""


class LiveError(AlikeError):
    """A live table cannot do what is asked."""


class TextError(AlikeError):
    """A text cannot be read."""


class InvalidPaper(PaperError):
    """The thing is wrong at the place at, for the reason word."""

    def __init__(self, word, at):
        self.word = word
        self.at = at


class NotUsable(RuleError):
    """The parameter with the name word is not as stated."""

    def __init__(self, word, at):
        self.word = word
        self.at = at


class Refused(RuleError):
    """The rule has no chain, as its triple shows."""

    def __init__(self, triple):
        self.triple = triple


class Unfit(RuleError):
    """No rule with a chain has the answers within the lot."""

    def __init__(self, lot):
        self.lot = lot


class Trusted(RuleError):
    """The rule may be trusted with the way, so it has no break."""

    def __init__(self, way):
        self.way = way


class Blocked(RuleError):
    """The group is too heavy for what is asked."""

    def __init__(self, group):
        self.group = group


class InvalidEvent(LiveError):
    """The event is refused for the reason."""

    def __init__(self, event, reason):
        self.event = event
        self.reason = reason


class NothingToUndo(LiveError):
    """The log has fewer events than steps."""

    def __init__(self, steps):
        self.steps = steps


class InvalidText(TextError):
    """The line with the number line is wrong at its piece with the number field."""

    def __init__(self, line, field):
        self.line = line
        self.field = field


class InvalidRow(TextError):
    """The row with the number row does not fit to one ahead of it."""

    def __init__(self, row):
        self.row = row
