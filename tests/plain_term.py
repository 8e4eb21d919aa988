"""What the document says of a term, done once more the plainest way, for the tests to compare with."""
import itertools
import random
from fractions import Fraction

WORKS = ((10, 10, False), (10, 20, False), (30, 5, True), (50, 20, False), (60, 100, False))
PUPILS = ("ann", "bob", "cid", "z")


def plain_known(pages, known):
    return sorted(set([page for page in pages if page[0] <= known]))


def plain_pupils(pages, known=200):
    return sorted(set([deed[1] for told, deed in plain_known(pages, known) if deed[0] in ("try", "excuse")]))


def plain_rules(pages, day, known=200):
    """Tell (drop, cut, second) on a day as known on a day."""
    values = {"drop": (-1, -1, 0), "cut": (-1, -1, 0), "second": (-1, -1, "best")}
    for told, deed in plain_known(pages, known):
        if deed[0] == "rule" and deed[1] <= day:
            values[deed[2]] = max(values[deed[2]], (deed[1], told, deed[3]))
    return tuple([values[name][2] for name in ("drop", "cut", "second")])


def plain_result(pages, pupil, number, day, known=200):
    tries = []
    for told, deed in plain_known(pages, known):
        if deed == ("excuse", pupil, number):
            return "excused"
        if deed[:3] == ("try", pupil, number) and deed[4] <= day:
            tries.append((deed[4], deed[3]))
    return tuple([(points, tried) for tried, points in sorted(tries)][-3:]) or None


def plain_score(work, rules, result):
    if result == "excused":
        return None
    points = []
    for had, day in result or ((0, 0),):
        taken = Fraction(had * rules[1] * max(0, day - work[0]), 100).__floor__()
        points.append(max(0, had - taken))
    return {"best": max(points), "last": points[-1], "mean": sum(points) // len(points)}[rules[2]]


def plain_best(rows, drop, extra):
    """Tell the greatest share that is left by a dropping, None without a row."""
    if not rows:
        return None
    lots = itertools.combinations(rows, max(1, len(rows) - drop))
    return max(Fraction(sum(row[0] for row in lot) + extra, sum(row[1] for row in lot)) for lot in lots)


def plain_mark(works, pages, pupil, day, known=200):
    """Tell the share of a pupil's mark, None where there is none."""
    if pupil not in plain_pupils(pages, known):
        return None
    rows, extra = [], 0
    for number, work in enumerate(works):
        if work[0] <= day:
            points = plain_score(work, plain_rules(pages, work[0], known),
                                 plain_result(pages, pupil, number, day, known))
            if points is not None and work[2]:
                extra += points
            elif points is not None:
                rows.append((points, work[1]))
    return plain_best(rows, plain_rules(pages, day, known)[0], extra)


def share(mark):
    """Tell the share of a Mark, or None."""
    return None if mark is None else Fraction(mark.points, mark.most)


def any_page(chance, works, pupils=PUPILS):
    """Tell a page of these works, each deed as often as another one."""
    told, day, number = chance.randint(0, 80), chance.randint(0, 80), chance.randrange(len(works))
    word = chance.choice(("rule", "try", "try", "excuse"))
    if word == "rule":
        name, value = chance.choice((("drop", chance.randint(0, 5)), ("cut", chance.choice((0, 1, 5, 10, 100))),
                                     ("second", chance.choice(("best", "last", "mean")))))
        return (told, ("rule", day, name, value))
    if word == "try":
        return (told, ("try", chance.choice(pupils), number, chance.randint(0, works[number][1]), day))
    return (told, ("excuse", chance.choice(pupils), number))


def any_works(chance):
    """Tell one to six works, some on one day."""
    days = sorted([chance.choice((0, 10, 20, 20, 45, 60, 61)) for work in range(chance.randint(1, 6))])
    return tuple([(day, chance.choice((1, 5, 10, 100)), chance.random() < 0.2) for day in days])


def many_terms(many, seed, most=40):
    """Tell so many tuples (works, pages), the same ones each time."""
    chance = random.Random(seed)
    terms = []
    for term in range(many):
        works = any_works(chance)
        terms.append((works, tuple([any_page(chance, works) for page in range(chance.randint(0, most))])))
    return terms
