"""Deeds: what is done to a hall, as tuples."""

from measurehall.errors import BadDeed


def is_deed(deed):
    """Tell whether deed is one by its word and count."""
    # The patterns below take lists, too.
    if not isinstance(deed, tuple):
        return False
    match deed:
        case ("task" | "machine", _, _):
            return True
        case ("tell", _, _, _, _):
            return True
        case ("strike", _):
            return True
        case ("clean" | "publish",):
            return True
        case _:
            return False


def check_deeds(deeds):
    """Refuse what is no list of deeds, by its first that is none."""
    if not isinstance(deeds, list):
        raise BadDeed(-1)
    for at, deed in enumerate(deeds):
        if not is_deed(deed):
            raise BadDeed(at)
