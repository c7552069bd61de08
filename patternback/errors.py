"""The errors with which a text that is no pattern is refused."""


class PatternError(ValueError):
    """A text is no pattern."""


class Unclosed(PatternError):
    """At the end a group or a set is open, or a `~` has nothing behind it."""


class Unopened(PatternError):
    """A `)` closes no group, or a `]` closes no set."""


class NothingAhead(PatternError):
    """A `*` or `?` doesn't stand straight behind a sign, a set or a group."""


class EmptyRound(PatternError):
    """A `*` stands behind a piece that may take nothing."""


class TooDeep(PatternError):
    """A group begins where as many are open as may be."""
