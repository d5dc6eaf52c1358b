"""The texts of the routines of the known houses."""

HAS = """turn:
    if at end and marked:
        return yes
    return no"""
PUT = """down:
    if not next:
        make
turn:
    if marked:
        return no
    mark
    return yes"""
STRIKE = """turn:
    if not at end or not marked:
        return no
    unmark
    if at root or not others == 0:
        return yes
up:
    cut
    if at root or marked or not others == 0:
        return yes"""
BEGINS = """turn:
    if not at end:
        return no
    if at root and not marked and others == 0:
        return no
    return yes"""
LONGEST = """down:
    if marked:
        keep
turn:
    if marked:
        keep
    return p"""
KEPT_STRIKE = """down:
    if at root or marked or not others == 0:
        keep
turn:
    if not at end or not marked:
        return no
    unmark
    if at root or not others == 0:
        return yes
    return yes, cut"""
JOINED_PUT = """down:
    if not next:
        make
    if at root or marked or not others == 0:
        f = false
    else:
        f = true
turn:
    if marked:
        return no
    mark
    f = false
    return yes"""
JOINED_STRIKE = """turn:
    if not at end or not marked:
        return no
    unmark
    if at root:
        return yes
    if others == 1:
        f = true
    if not others == 0:
        return yes
up:
    cut
    if at root or marked:
        return yes
    if others == 1:
        f = true
    if not others == 0:
        return yes"""
LAZY_STRIKE = """turn:
    if not at end or not marked:
        return no
    unmark
    return yes"""


def texts_of(name):
    """A dict from the wishes, in order, to the texts of a known house; None for any other value."""
    if name == "up":
        return {"has": HAS, "put": PUT, "strike": STRIKE, "begins": BEGINS, "longest": LONGEST}
    if name == "kept":
        return {"has": HAS, "put": PUT, "strike": KEPT_STRIKE, "begins": BEGINS, "longest": LONGEST}
    if name == "joined":
        return {"has": HAS, "put": JOINED_PUT, "strike": JOINED_STRIKE, "begins": BEGINS, "longest": LONGEST}
    if name == "lazy":
        return {"has": HAS, "put": PUT, "strike": LAZY_STRIKE, "longest": LONGEST}
    return None
