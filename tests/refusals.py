"""What the tests of refusals share."""


def refused(kind, value, call, *handed):
    """What the refusal tells: the value of that name on a refusal of just that kind."""
    try:
        told = call(*handed)
    except kind as error:
        return getattr(error, value) if value else error
    raise AssertionError(f"{handed!r} was let by and told {told!r}")
