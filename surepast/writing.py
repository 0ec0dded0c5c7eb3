"""Models, signs and rows, written as their texts."""

from surepast.errors import BadValue
from surepast.models import MOST_SIGNS, are_states, check_model, check_signs


def numbers_text(numbers):
    """Return the text of the numbers."""
    return " ".join([str(number) for number in numbers])


def table_text(table):
    """Return the text of rows of costs."""
    return ", ".join([numbers_text(costs) for costs in table])


def model_text(model):
    """Return the text of the model."""
    check_model(model)
    begin, change, show = model
    return " | ".join([numbers_text(begin), table_text(change), table_text(show)])


def signs_text(model, signs):
    """Return the text of the signs."""
    check_signs(model, signs)
    return numbers_text(signs)


def row_text(model, row):
    """Return the text of the row."""
    check_model(model)
    if not are_states(row, model, 0, MOST_SIGNS):
        raise BadValue("row")
    return numbers_text(row)
