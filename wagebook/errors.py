"""The errors of the program's own, one for each refusal."""


class NoHours(ValueError):
    """The hours of a day are below nought or above 24."""


class NoTable(ValueError):
    """Bands or a due table are not in the form that they must have."""


class TooEarly(ValueError):
    """A payday is for a week ahead of that of the person's last one."""
