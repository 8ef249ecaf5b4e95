"""What several tests need: the error that a call raises, as words and attributes."""


def refusal(work, *arguments):
    """The error that a call raises, as a tuple: its class's name and its attributes; None if it raises none."""
    from partloft.errors import LoftError
    try:
        work(*arguments)
    except LoftError as error:
        return (type(error).__name__,) + tuple(vars(error).values())
    return None
