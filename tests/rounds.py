"""ROUNDs run one by one, reckoned without the program, from the rows of the stills alone."""

from fractions import Fraction


def tenths_off(still, part):
    return sum(row[part] for row in still[0])


def brought(plan, step, part):
    """What the WASH brings to the CHARGE, in hundredths."""
    return step[0][part] * tenths_off(plan[0], part) * (10 - plan[0][1])


def factor(plan, step, part):
    """Of the CHARGE so many hundredths are kept."""
    rows, loss = plan[1]
    low, high = step[1]
    return sum(row[part] for row in rows[:low] + rows[high:]) * (10 - loss)


def run_rounds(plan, steps, kept, many):
    """For each ROUND the CHARGEs of its STEPs and what is kept behind it, as Fractions."""
    told = []
    kept = list(kept)
    for _ in range(many):
        charges = []
        for step in steps:
            charge = [kept[part] + Fraction(brought(plan, step, part), 100) for part in (0, 1)]
            charges.append(tuple(charge))
            kept = [charge[part] * Fraction(factor(plan, step, part), 100) for part in (0, 1)]
        told.append((tuple(charges), tuple(kept)))
    return told


def first_over(plan, steps, cap, many):
    """(N, J) of the first CHARGE above cap in so many ROUNDs, from nothing kept; None where there is none."""
    kept, scale = [0, 0], 100
    for number in range(many):
        for at, step in enumerate(steps):
            # All in numbers of so many parts of a measure, so that no fraction is ever put in lowest terms.
            charge = [kept[part] + brought(plan, step, part) * scale // 100 for part in (0, 1)]
            if sum(charge) > cap * scale:
                return (number, at)
            kept = [charge[part] * factor(plan, step, part) for part in (0, 1)]
            scale *= 100
    return None


def round_factor(plan, steps, part):
    told = Fraction(1)
    for step in steps:
        told *= Fraction(factor(plan, step, part), 100)
    return told


def grows(plan, steps):
    return any(
        round_factor(plan, steps, part) == 1 and any(brought(plan, step, part) for step in steps) for part in (0, 1)
    )


def long_run(plan, steps):
    """The steady LIQUOR as Fractions, a part that stays being 0; not for one that grows."""
    told = []
    added = run_rounds(plan, steps, (Fraction(0), Fraction(0)), 1)[0][1]
    for part in (0, 1):
        left = 1 - round_factor(plan, steps, part)
        told.append(added[part] / left if left else Fraction(0))
    return tuple(told)


def greatest(plan, steps):
    """The greatest CHARGE of the long run, in measures."""
    return max(sum(charge) for charge in run_rounds(plan, steps, long_run(plan, steps), 1)[0][0])
