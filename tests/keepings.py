"""Webs with prices that the tests make themselves, and plain searches through all their plans."""

from itertools import product

from tests.making import a_web, maker

WORDS = ("out", "load", "make")


def needs_of_row(row):
    """All rows that a row names."""
    return {"given": (), "either": row[1:]}.get(row[0], row[-1])


def a_keeping(seed, rows=5, most_wanted=2, most=6):
    """A web, making, loading, wanted."""
    rng = maker(seed)
    web = a_web(seed, rows=rows)
    making = [rng.randrange(most) for _ in web]
    shelf = rng.choice([(None, 0, 3, most), (None, None, 1, 2), (1, 2, 3), (None,)])
    loading = [rng.choice(shelf) for _ in web]
    wanted = sorted(rng.sample(range(len(web)), rng.randint(0, min(most_wanted, len(web)))))
    return web, making, loading, wanted


def is_right(keeping, plan):
    """Whether a plan of words is right."""
    web, _, loading, wanted = keeping
    for at, word in enumerate(plan):
        if word == "out" and at in wanted or word == "load" and loading[at] is None:
            return False
        if word == "make" and any(plan[need] == "out" for need in needs_of_row(web[at])):
            return False
    return True


def price_of(keeping, plan):
    """What is paid by a plan."""
    _, making, loading, _ = keeping
    return sum(loading[at] if word == "load" else making[at] for at, word in enumerate(plan) if word != "out")


def all_plans(keeping):
    """All right plans with their prices."""
    told = []
    for plan in product(WORDS, repeat=len(keeping[0])):
        if is_right(keeping, plan):
            told.append((price_of(keeping, plan), plan))
    return told


def least_price(keeping):
    """The least price of all plans, by a plain search from the last row back."""
    web, making, loading, wanted = keeping

    def cheapest(at, had):
        if at < 0:
            return 0
        if at not in had:
            return cheapest(at - 1, had)
        made = making[at] + cheapest(at - 1, had | set(needs_of_row(web[at])))
        return made if loading[at] is None else min(made, loading[at] + cheapest(at - 1, had))

    return cheapest(len(web) - 1, set(wanted))
