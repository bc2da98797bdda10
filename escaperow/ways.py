"""Ways of framing: which signs they have, and what is refused as a way."""

from escaperow.errors import BadWay

LEAST_TOP = 3
MOST_TOP = 16
LONGEST_CODE = 4
MOST_TURNED = 3


def need_way(way):
    """Let a way go; refuse with BadWay what is none."""
    why = fault_of(way)
    if why is not None:
        raise BadWay(why)


def fault_of(way):
    """The first word of point 3 that is so of the way, None of a way without a fault."""
    turnings, inner = unturned(way)
    if len(turnings) > MOST_TURNED:
        return "deep"
    top, end = inner[1:3]
    if not is_top(top):
        return "top"
    if not is_sign(end, top):
        return "end"
    find_fault = FAULTS[inner[0]]
    why = find_fault(inner)
    if why is None and not all([is_turning(signs, top) for signs in turnings]):
        return "signs"
    return why


def unturned(way):
    """The signs of the turned ones, from the outermost on, and the way within them all."""
    turnings = []
    inner = way
    while inner[0] == "turned":
        turnings.append(inner[1])
        inner = inner[2]
    return turnings, inner


def plain_signs(top, end):
    """All plain signs, as they rise."""
    return [sign for sign in range(top) if sign != end]


def first_unsigned(signs, top):
    """The first place at which no sign stands, None if there is none."""
    for at, sign in enumerate(signs):
        if not is_sign(sign, top):
            return at
    return None


def is_whole(number):
    """Whether it is a whole number; True and False are none, though Python counts them so."""
    return type(number) is int


def is_top(number):
    """Whether signs can have this top."""
    return is_whole(number) and LEAST_TOP <= number <= MOST_TOP


def is_sign(number, top):
    """Whether it is one of the signs below top."""
    return is_whole(number) and 0 <= number < top


def is_plain(number, top, end):
    """Whether it is a sign, and not the end."""
    return is_sign(number, top) and number != end


def is_turning(signs, top):
    """Whether each sign stands there once."""
    return first_unsigned(signs, top) is None and sorted(signs) == list(range(top))


def codes_fault(way):
    """The fault of codes, or None."""
    _, top, end, codes = way
    if len(codes) != top or not all([is_code(code, top, end) for code in codes]):
        return "codes"
    return None if stand_apart(codes) else "codes"


def is_code(code, top, end):
    """Whether it is one to four plain signs."""
    return 1 <= len(code) <= LONGEST_CODE and all([is_plain(sign, top, end) for sign in code])


def stand_apart(codes):
    """Whether no code is the beginning of another one, and none the same."""
    for at, code in enumerate(codes):
        for other in codes[at + 1:]:
            shared = min(len(code), len(other))
            if code[:shared] == other[:shared]:
                return False
    return True


def escapes_fault(way):
    """The fault of escapes, or None."""
    _, top, end, mark, pairs = way
    if not is_plain(mark, top, end):
        return "mark"
    signs = [sign for sign, code in pairs]
    codes = [code for sign, code in pairs]
    if first_unsigned(signs, top) is not None or signs != sorted(set(signs)):
        return "pairs"
    if end not in signs or mark not in signs:
        return "pairs"
    if not all([is_plain(code, top, end) for code in codes]) or len(set(codes)) != len(codes):
        return "pairs"
    return None


def counts_fault(way):
    """The fault of counts, or None."""
    _, top, end, limit = way
    return None if is_whole(limit) and 2 <= limit < top else "limit"


def ranks_fault(way):
    """None, as ranks have nothing but a top and an end."""
    return None


FAULTS = {"codes": codes_fault, "escapes": escapes_fault, "counts": counts_fault, "ranks": ranks_fault}
