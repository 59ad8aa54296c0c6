"""Asks the program by the calls' names: ask("begin 7", "stand") gives [[0], [1, 1]]."""

from squarehouse.house import answers

# Each call's name and how many numbers it has, in the order of the calls' numbers from 0 on.
CALLS = (
    ("begin", 1), ("prime", 1), ("undo", 0), ("past", 0), ("sums", 0), ("besides", 1),
    ("stayat", 1), ("bring", 0), ("termhere", 0), ("wander", 0), ("from_here", 0), ("value", 0),
    ("ways", 1), ("foretold", 1), ("standing", 0), ("keptkinds", 0),
    ("go", 1), ("on", 1), ("before", 1), ("stand", 0), ("kind", 1), ("manyof", 2), ("nth", 2),
    ("place", 1), ("sum_of_kind", 1), ("part", 1), ("pairs", 2), ("threes", 3), ("run", 1),
    ("runs", 1), ("least", 0), ("product", 1),
    ("square", 0), ("squareback", 0), ("after", 2), ("tail", 1), ("foot", 1), ("round_of", 1),
    ("onround", 1), ("meet", 2), ("same", 2), ("hang", 2), ("comesto", 1), ("roundsof", 1),
    ("rounds", 0), ("depth", 0),
    ("nextbeside", 0), ("fold", 2), ("folds", 1), ("foldedall", 1), ("column", 1), ("row", 1),
    ("under", 0), ("over", 0), ("inside", 2), ("multiple", 2), ("where", 2), ("turnedpairs", 1),
)
NUMBERS = {name: number for number, (name, arity) in enumerate(CALLS)}
ARITIES = dict(CALLS)
GREATEST = 4294967295
HOUSE_PRIMES = (5, 7, 11, 13, 17, 19, 23, 29, 31, 37, 41, 43, 47, 53, 59, 61, 67, 71, 73, 79, 83, 89, 97)
ODD_PRIMES = tuple(n for n in range(3, 200) if all(n % d for d in range(2, n)))
MOST_CALLS = 80
MOST_NUMBERS = 400


def packed(calls):
    flat = []
    for call in calls:
        words = call.split()
        given = [int(word) for word in words[1:]]
        if len(given) != ARITIES[words[0]]:
            raise ValueError(call)
        flat += [NUMBERS[words[0]]] + given
    return flat


def unpacked(flat):
    found = []
    at = 0
    while at < len(flat):
        found.append(flat[at + 1:at + 1 + flat[at]])
        at += 1 + flat[at]
    if at != len(flat):
        raise ValueError("the answers end within one")
    return found


def ask(*calls):
    flat = packed(calls)
    if not calls or len(calls) > MOST_CALLS or len(flat) > MOST_NUMBERS:
        raise ValueError("no such list is handed in")
    found = unpacked(answers(flat))
    if len(found) != len(calls):
        raise ValueError("not as many answers as calls")
    return found


def last(*calls):
    return ask(*calls)[-1]


def each(setup, calls):
    """Answers calls that change nothing, however many, all behind the same setup."""
    found = []
    most = MOST_CALLS - len(setup)
    for at in range(0, len(calls), most):
        found += ask(*setup, *calls[at:at + most])[len(setup):]
    return found


def by(prime, calls):
    return each([f"begin {prime}"], calls)
