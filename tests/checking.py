"""What the tests share to check errors."""

from callplans.errors import PlanError


def error_of(call, *values, **named):
    """Returns the PlanError that a call raises as a tuple of its name and its values; None if it raises none."""
    try:
        call(*values, **named)
    except PlanError as error:
        return (type(error).__name__, *vars(error).values())
    return None
