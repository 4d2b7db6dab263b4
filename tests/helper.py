"""What the tests share: how a refusal is looked at, and values told apart down to their kinds."""

from carvebed import errors

REFUSALS = (
    "TooLong", "NoRow", "NoPlace", "TooDeep", "Twice", "Open", "NoSub",
    "NoForm", "NoBed", "NoMeasure", "NoCell", "NoCutter",
)


def refusal_of(function, asked):
    """The names of all refusals that what was raised is one of; None where nothing was raised."""
    try:
        function(asked)
    except errors.CarveError as error:
        return [name for name in REFUSALS if isinstance(error, getattr(errors, name))]
    return None


def text_of(*rows):
    return "\n".join(rows)


def exact(value):
    """A text that differs for lists and tuples, and for truths and numbers, where == may not."""
    if isinstance(value, (list, tuple)):
        return type(value).__name__ + "(" + ", ".join([exact(part) for part in value]) + ")"
    return type(value).__name__ + " " + repr(value)


def lists_in(value):
    """All lists within a value, itself too."""
    found = []
    if isinstance(value, list):
        found.append(value)
    if isinstance(value, (list, tuple)):
        for part in value:
            found.extend(lists_in(part))
    return found
