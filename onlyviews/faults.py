"""The errors of answering, rules and holders."""


class AnswerError(ValueError):
    """The base class of these errors."""


class NotAnswered(AnswerError):
    """The kept views do not answer a view."""

    def __init__(self):
        # Without this method any arguments would be taken, as ValueError does.
        pass


class InvalidRule(AnswerError):
    """What was offered is no rule."""

    def __init__(self):
        pass


class NotShown(AnswerError):
    """The reasons that were offered are not reasons of the rule."""

    def __init__(self):
        pass


class NoRule(AnswerError):
    """A batch is not taken: index is the first kept view without a rule for it."""

    def __init__(self, index):
        self.index = index


class NotOffered(AnswerError):
    """There is no rule for a batch and a view."""

    def __init__(self):
        pass
