"""LEDGERs done deed for deed in Fractions, without the program, and LEDGERs of dice.

A place is a dict: by the number of the entry whose WASH it came with [spirit, water].
"""

from fractions import Fraction

from tests import makers, rounds

NAMES = ("a", "oak", "elm", "zzzzzz")


def put(place, number, part, amount):
    place.setdefault(number, [Fraction(0), Fraction(0)])[part] += amount


def put_all(place, other):
    for number, pair in other.items():
        for part in (0, 1):
            put(place, number, part, pair[part])


def amount_of(place):
    return sum((sum(pair) for pair in place.values()), Fraction(0))


def liquor_of(place):
    return tuple(makers.as_pair(sum((pair[part] for pair in place.values()), Fraction(0))) for part in (0, 1))


def parts_of(place):
    """As made_of must tell them."""
    return tuple((number, tuple(map(makers.as_pair, place[number]))) for number in sorted(place) if any(place[number]))


def pour(place, into, amount):
    share = Fraction(amount) / amount_of(place)
    for number, pair in place.items():
        for part in (0, 1):
            put(into, number, part, pair[part] * share)
            pair[part] -= pair[part] * share


def at_first():
    return {name: {} for name in ("kept", "receiver", "casks", "pot", "lost", "samples", "drawn")}


def word_against(rules, state, deed):
    word, casks = deed[0], state["casks"]
    if word == "run":
        brought = sum(Fraction(rounds.brought(rules[:2], deed[1:], part), 100) for part in (0, 1))
        return "full" if amount_of(state["kept"]) + brought > rules[2] else None
    if word == "fill":
        source, new, amount = state["receiver"], deed[1], deed[2] + rules[3]
    elif word == "part":
        source, new, amount = casks.get(deed[1]), deed[2], deed[3]
    elif word == "draw":
        source, new, amount = casks.get(deed[1]), None, deed[2]
    else:
        return "nothing" if any(name not in casks for name in deed[1:]) else None
    if source is None:
        return "nothing"
    if new in casks:
        return "twice"
    return "less" if amount_of(source) < amount else None


def run(rules, state, number, step):
    (rows, loss), (wash, (low, high)) = rules[1], step
    charge = state["kept"]
    state["kept"] = {}
    for part in (0, 1):
        off = rounds.tenths_off(rules[0], part)
        put(state["pot"], number, part, Fraction(wash[part] * (10 - off), 10))
        put(state["lost"], number, part, Fraction(wash[part] * off * rules[0][1], 100))
        put(charge, number, part, Fraction(rounds.brought(rules[:2], step, part), 100))
        for source, pair in charge.items():
            put(state["pot"], source, part, pair[part] * (10 - sum(row[part] for row in rows)) / 10)
            for at, row in enumerate(rows):
                gone = pair[part] * row[part] / 10
                put(state["lost"], source, part, gone * loss / 10)
                goes = "receiver" if low <= at < high else "kept"
                put(state[goes], source, part, gone * (10 - loss) / 10)


def do(rules, state, number, deed):
    word, casks = deed[0], state["casks"]
    if word == "run":
        run(rules, state, number, deed[1:])
    elif word == "fill":
        # As strong as what is there: one behind the other is as both at once.
        casks[deed[1]] = {}
        pour(state["receiver"], casks[deed[1]], deed[2])
        if rules[3]:
            pour(state["receiver"], state["samples"], rules[3])
    elif word == "part":
        casks[deed[2]] = {}
        pour(casks[deed[1]], casks[deed[2]], deed[3])
    elif word == "join":
        put_all(casks[deed[2]], casks[deed[1]])
        casks[deed[1]] = {}
    else:
        pour(casks[deed[1]], state["drawn"], deed[2])


def in_turn(ledger):
    """The entries with their numbers, as they are done."""
    return sorted(enumerate(ledger), key=lambda row: (row[1][0], row[0]))


def done(rules, ledger, day):
    """What is where behind all deeds up to this DAY, and (DAY, WORD) of the first that fails, else None."""
    state = at_first()
    for number, (on, deed) in in_turn(ledger):
        if on <= day:
            word = word_against(rules, state, deed)
            if word is not None:
                return state, (on, word)
            do(rules, state, number, deed)
    return state, None


def fails(rules, ledger):
    for many in range(len(ledger)):
        failing = done(rules, ledger[:many + 1], 9999)[1]
        if failing is not None:
            return (many, *failing)
    return None


def standing(rules, ledger, day):
    state = done(rules, ledger, day)[0]
    casks = tuple((name, liquor_of(state["casks"][name])) for name in sorted(state["casks"]))
    out = tuple(liquor_of(state[name]) for name in ("pot", "lost", "samples", "drawn"))
    return (liquor_of(state["kept"]), liquor_of(state["receiver"]), casks, out)


def rate(rules, spirit, amount):
    return [rate for start, rate in rules[4] if start * amount <= 100 * spirit][-1]


def duties(rules, ledger):
    """The duty of each DAY on which casks are filled, of a LEDGER that stands."""
    told = {}
    state = at_first()
    for number, (on, deed) in in_turn(ledger):
        do(rules, state, number, deed)
        if deed[0] == "fill":
            spirit = makers.as_fraction(liquor_of(state["casks"][deed[1]])[0])
            told[on] = told.get(on, 0) + spirit * rate(rules, spirit, deed[2])
    return tuple((day, makers.as_pair(told[day])) for day in sorted(told))


def runs(rules, ledger):
    """(CHARGE, HEART, KEPT) of each run, as they are done, of a LEDGER that stands."""
    told = []
    state = at_first()
    for number, (on, deed) in in_turn(ledger):
        # With an empty receiver what is in it behind a run is its heart.
        there = state["receiver"]
        if deed[0] == "run":
            state["receiver"] = {}
            charge = {-1: [makers.as_fraction(part) for part in liquor_of(state["kept"])]}
            for part in (0, 1):
                put(charge, number, part, Fraction(rounds.brought(rules[:2], deed[1:], part), 100))
        do(rules, state, number, deed)
        if deed[0] == "run":
            told.append((liquor_of(charge), liquor_of(state["receiver"]), liquor_of(state["kept"])))
            put_all(state["receiver"], there)
    return told


def differing(then, now):
    then, now = dict(then), dict(now)
    return tuple((key, then.get(key), now.get(key)) for key in sorted({**then, **now}) if then.get(key) != now.get(key))


def moved(rules, ledger, entry):
    then, now = ledger[:entry], ledger[:entry + 1]
    casks = [standing(rules, some, 9999)[2] for some in (then, now)]
    return (differing(*casks), differing(duties(rules, then), duties(rules, now)))


def dice_rules(dice):
    first = (((5, 2), (5, 2)), dice.randrange(3))
    second = makers.still(dice)
    while rounds.tenths_off(second, 0) + rounds.tenths_off(second, 1) < 9:
        second = makers.still(dice)
    return (first, (second[0], dice.randrange(3)), dice.choice((300, 900, 9000)), dice.randrange(4), ((0, 3), (50, 9)))


def dice_deed(dice, rules):
    word = dice.choice(("run", "run", "fill", "fill", "part", "join", "draw"))
    if word == "run":
        wash = (dice.randrange(600), dice.randrange(600))
        return ("run", dice.choice((wash, wash, (0, 50), (50, 0))), makers.cut(dice, rules[1]))
    one, other = dice.sample(NAMES, 2)
    amount = dice.choice((1, 2, 5, 20, 60))
    return {"fill": ("fill", one, amount), "part": ("part", one, other, amount), "join": ("join", one, other),
            "draw": ("draw", one, amount)}[word]


def dice_ledger(dice, rules, many):
    """A LEDGER of so many entries that stands."""
    ledger = ()
    while len(ledger) < many:
        entry = (dice.choice((0, 3, 3, 7, 8, 500, 9999)), dice_deed(dice, rules))
        if done(rules, ledger + (entry,), 9999)[1] is None:
            ledger += (entry,)
    return ledger
