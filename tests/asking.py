"""Asks the program by the calls' names: ask("begin 7", "stand") gives [[0], [1, 1]]."""

from squarehouse.house import answers

# Each call's name and how many numbers it has, in the order of the calls' numbers from 0 on.
CALLS = (
    ("begin", 1), ("prime", 1), ("undo", 0), ("past", 0), ("sums", 0), ("besides", 1),
    ("stayat", 1), ("bring", 0), ("termhere", 0), ("wander", 0), ("from_here", 0), ("value", 0),
    ("ways", 1), ("foretold", 1), ("standing", 0), ("keptkinds", 0),
    ("go", 1), ("on", 1), ("before", 1), ("stand", 0), ("kind", 1), ("manyof", 2), ("nth", 2),
    ("place", 1), ("sum_of_kind", 1), ("part", 1), ("pairs", 2), ("threes", 3), ("run", 1),
    ("runs", 1), ("least", 0), ("product", 1),
    ("square", 0), ("squareback", 0), ("after", 2), ("tail", 1), ("foot", 1), ("round_of", 1),
    ("onround", 1), ("meet", 2), ("same", 2), ("hang", 2), ("comesto", 1), ("roundsof", 1),
    ("rounds", 0), ("depth", 0),
    ("nextbeside", 0), ("fold", 2), ("folds", 1), ("foldedall", 1), ("column", 1), ("row", 1),
    ("under", 0), ("over", 0), ("inside", 2), ("multiple", 2), ("where", 2), ("turnedpairs", 1),
    ("long", 1), ("fewest", 1), ("roundby", 2), ("dealt", 1), ("dealtto", 1), ("dealtpairs", 0),
    ("term", 1), ("out", 1), ("times", 2), ("pair", 2), ("many", 1), ("full", 1), ("first", 1), ("zero", 0),
    ("never", 0), ("three", 0), ("ofkind", 1), ("most", 0), ("fewestanswers", 0), ("worth", 4),
    ("productof", 0), ("with_more", 2),
    ("put", 1), ("take", 1), ("kept", 0), ("move", 1), ("timesall", 1), ("grow", 0), ("leads", 2), ("of", 1),
    ("common", 2), ("into", 2), ("threesround", 1), ("differ", 1), ("who", 0), ("inner", 0), ("group", 0),
    ("greatest", 0), ("steps", 2),
    ("split", 1), ("otherroot", 1), ("leastroot", 0), ("roots", 0), ("index", 1), ("class_of", 1), ("power", 1),
    ("members", 1), ("firstof", 1), ("behind", 2), ("rowof", 1), ("table", 0), ("differs", 2), ("even", 1),
    ("evenzero", 1), ("sumof", 1), ("timesclass", 2), ("opposite", 1),
)
# Those by which the house may become another, but begin and undo.
CHANGING = (
    "prime", "besides", "stayat", "bring", "termhere", "wander", "go", "on", "before", "square", "squareback",
    "nextbeside", "term", "out", "times", "pair", "put", "take", "move", "timesall", "grow", "split", "otherroot",
)
# A house in which each call has something to tell: two terms, two points kept, other classes, another root.
BUSY = ("begin 13", "go 5", "bring", "termhere", "go 4", "besides 11", "term 2", "put 7", "split 3", "otherroot 7")
# Numbers by which each call is answered, and not refused, in that house, where 1 and 1 won't do.
GOOD_NUMBERS = {
    "prime": "11", "besides": "5", "stayat": "0", "nth": "1 0", "out": "0", "times": "0 2", "pair": "0 1",
    "take": "5", "timesall": "2", "leads": "1 2", "common": "1 2", "into": "1 2", "split": "4", "otherroot": "6",
}
NUMBERS = {name: number for number, (name, arity) in enumerate(CALLS)}
ARITIES = dict(CALLS)
GREATEST = 4294967295
HOUSE_PRIMES = (5, 7, 11, 13, 17, 19, 23, 29, 31, 37, 41, 43, 47, 53, 59, 61, 67, 71, 73, 79, 83, 89, 97)
ODD_PRIMES = tuple(n for n in range(3, 200) if all(n % d for d in range(2, n)))
MOST_CALLS = 80
MOST_NUMBERS = 400


def packed(calls):
    flat = []
    for call in calls:
        words = call.split()
        given = [int(word) for word in words[1:]]
        if len(given) != ARITIES[words[0]]:
            raise ValueError(call)
        flat += [NUMBERS[words[0]]] + given
    return flat


def sample(name):
    """A call of that name that's answered in the busy house, and changes it, if it's one that may."""
    return f"{name} {GOOD_NUMBERS.get(name, ' '.join(['1'] * ARITIES[name]))}".strip()


def unpacked(flat):
    found = []
    at = 0
    while at < len(flat):
        found.append(flat[at + 1:at + 1 + flat[at]])
        at += 1 + flat[at]
    if at != len(flat):
        raise ValueError("the answers end within one")
    return found


def ask(*calls):
    flat = packed(calls)
    if not calls or len(calls) > MOST_CALLS or len(flat) > MOST_NUMBERS:
        raise ValueError("no such list is handed in")
    found = unpacked(answers(flat))
    if len(found) != len(calls):
        raise ValueError("not as many answers as calls")
    return found


def last(*calls):
    return ask(*calls)[-1]


def each(setup, calls):
    """Answers calls that change nothing, however many, all behind the same setup."""
    found = []
    most = MOST_CALLS - len(setup)
    for at in range(0, len(calls), most):
        found += ask(*setup, *calls[at:at + most])[len(setup):]
    return found


def by(prime, calls):
    return each([f"begin {prime}"], calls)
