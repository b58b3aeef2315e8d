"""What a call raises, for the tests."""


def raised(function, *arguments):
    """The error that a call raises, as the name of its class and its attributes; None if it raises none."""
    try:
        function(*arguments)
    except ValueError as error:
        return (type(error).__name__, dict(vars(error)))
    return None


def told(function, *arguments, **more):
    """What a call returns, or else the error that it raises, as a tuple of the name of its class and its attributes."""
    found = raised(lambda: function(*arguments, **more))
    return function(*arguments, **more) if found is None else (found[0], *found[1].values())
