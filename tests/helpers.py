"""What several tests share."""

FIELDS = {
    "Malformed": "at",
    "Unknown": "name",
    "Twice": "name",
    "Misused": "name",
    "Width": "name",
    "Unbounded": "name",
    "Undriven": "name",
    "Driven": "name",
    "Latched": "name",
    "Circular": "name",
    "Unbuildable": "name",
    "Unsettled": "cycle",
    "Uncovered": "need",
    "NotACut": "node",
    "Unsupported": "words",
}


def failure(call, *arguments, **keywords):
    """Return the class name and the field of the error that a call raises, or None."""
    from clockwright.errors import Refused

    try:
        call(*arguments, **keywords)
    except Refused as error:
        name = type(error).__name__
        return (name, getattr(error, FIELDS[name]))
    return None


def lit(number):
    """Return the literal that a number in a text stands for."""
    return ("lit", f"{number:b}")


def ref(name):
    return ("ref", name)


A, B, C, D = ref("a"), ref("b"), ref("c"), ref("d")
