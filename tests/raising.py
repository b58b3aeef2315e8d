"""What a call raises, for the tests."""


def raised(function, *arguments):
    """The error that a call raises, as the name of its class and its attributes; None if it raises none."""
    try:
        function(*arguments)
    except ValueError as error:
        return (type(error).__name__, dict(vars(error)))
    return None
