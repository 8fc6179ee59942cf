"""What several tests need: examples of the document that are run word for word."""

from lostdesk.errors import DeskError


def told_error(error, expected):
    """Return an error as the document writes it, with the attributes that stand in the expected text."""
    name, _, rest = expected.partition("(")
    attributes = ", ".join(f"{key}={getattr(error, key)!r}" for key in eval(f"dict({rest}"))
    return f"raises {type(error).__name__}({attributes})"


def run_example(text):
    """Run an example of the document; return what it gives, and what it is to give."""
    *rows, expected = text.strip().split("\n")
    codes = [row.removeprefix(">>> ") for row in rows]
    names = {}
    for code in codes[:-1]:
        exec(code, names)
    try:
        return repr(eval(codes[-1], names)), expected
    except DeskError as error:
        return told_error(error, expected), expected
