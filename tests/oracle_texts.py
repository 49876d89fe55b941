"""A second account of [10]: each way through a text is gone alone, from its first instruction to its end."""


def ways_of(body, at=0):
    """All ways through a body from a place on, each the list of the places that it comes to."""
    if at == len(body):
        return [[]]
    word = body[at][0]
    if word in ("return", "fail"):
        return [[at]]
    behind = {"jump": {body[at][-1]}, "if": {at + 1, body[at][-1]}}.get(word, {at + 1})
    return [[at] + rest for k in sorted(behind) for rest in ways_of(body, k)]


class Found:
    def __init__(self):
        self.calm, self.blind, self.reads, self.result = True, True, set(), set()


def looks_of(library):
    functions = library[2]
    found = {}
    for f in range(len(functions) - 1, -1, -1):
        found[f] = Found()
        for way in ways_of(functions[f][3]):
            go(functions[f], way, found, found[f])
    words = {(): "none", ("made",): "made", ("given",): "given", ("given", "made"): "both"}
    return [(found[f].calm, words[tuple(sorted(found[f].result))], tuple(sorted(found[f].reads)), found[f].blind)
            for f in range(len(functions))]


def go(function, way, found, own):
    parameters, sorts, result, body = function
    has = [{"given"} if v < parameters and sort is not None else set() for v, sort in enumerate(sorts)]
    for at in way:
        match body[at]:
            case ("make", s):
                has[s] = {"made"}
            case ("copy", s, t):
                has[s] = set(has[t])
            case ("get", s, t, i):
                if "given" in has[t]:
                    own.reads.add((sorts[t], i))
                has[s] = set(has[t]) if sorts[s] is not None else set()
            case ("put", t, i, u):
                own.calm = own.calm and "given" not in has[t] | has[u]
            case ("same", *_):
                own.blind = False
            case ("return", t):
                own.result |= has[t]
            case ("call", s, g, args):
                own.calm, own.blind = own.calm and found[g].calm, own.blind and found[g].blind
                own.reads |= found[g].reads
                passed = set().union(*[has[one] for one in args]) if "given" in found[g].result else set()
                has[s] = found[g].result & {"made"} | passed
