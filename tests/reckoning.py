"""A second reckoning, straight from the words: it reads rows by itself and tries every collation."""

GAP = 2 ** 32 - 1
LOST = 2 ** 24
GAP_CELL = "gap"


def numbers(*cells):
    """A row in numbers, of gaps (GAP_CELL) and words (tuples of letters)."""
    told = []
    for cell in cells:
        if cell == GAP_CELL:
            told.append(GAP)
        else:
            told.append(len(cell))
            told.extend(cell)
    return told


def read(told):
    """The cells of a row in numbers, or None if the numbers are no row's."""
    rest = list(told)
    cells = []
    while rest:
        kind = rest.pop(0)
        if kind == GAP:
            cells.append(GAP_CELL)
            continue
        if kind > 512 or kind > len(rest):
            return None
        word, rest = tuple(rest[:kind]), rest[kind:]
        if not all(0 <= letter < 2 ** 21 or letter == LOST for letter in word):
            return None
        cells.append(word)
    return cells


def price(word, other):
    if word == other and not any(letter == LOST for letter in word):
        return 0
    if len(word) == len(other) and all(a == b or LOST in (a, b) for a, b in zip(word, other)):
        return 1
    return 4


def collations(x, y, last=None):
    """Every collation of the cells x and y, as (steps, cost); last is the step ahead of them."""
    if not x and not y:
        yield (), 0
    for step, takes_x, takes_y, paid in next_steps(x, y, last):
        for steps, rest in collations(x[takes_x:], y[takes_y:], step):
            yield (step,) + steps, paid + rest


def next_steps(x, y, last):
    x_word = bool(x) and x[0] != GAP_CELL
    y_word = bool(y) and y[0] != GAP_CELL
    if x_word and y_word:
        yield 0, 1, 1, price(x[0], y[0])
    if x_word and last in (6, 1):
        yield 1, 1, 0, 0
    if y_word and last in (5, 2):
        yield 2, 0, 1, 0
    if x_word:
        yield 3, 1, 0, 3
    if y_word:
        yield 4, 0, 1, 3
    if x and not x_word:
        yield 5, 1, 0, 0
    if y and not y_word:
        yield 6, 0, 1, 0


def follow(x, y, steps):
    """What steps cost over the cells x and y; None if they are no collation of the two."""
    paid, last = 0, None
    for step in steps:
        allowed = {each: (takes_x, takes_y, more) for each, takes_x, takes_y, more in next_steps(x, y, last)}
        if step not in allowed:
            return None
        takes_x, takes_y, more = allowed[step]
        x, y, paid, last = x[takes_x:], y[takes_y:], paid + more, step
    return None if x or y else paid


def least_by_parts(x, y, last=None, known=None):
    """The first of the least collations of the cells x and y, as (cost, steps), for longer rows."""
    known = {} if known is None else known
    place = (len(x), len(y), last)
    if place not in known:
        found = [(0, ())] if not x and not y else []
        for step, takes_x, takes_y, paid in next_steps(x, y, last):
            rest, steps = least_by_parts(x[takes_x:], y[takes_y:], step, known)
            found.append((paid + rest, (step,) + steps))
        known[place] = min(found)
    return known[place]


def least(x, y):
    """The first of the least collations of x and y in numbers, as (cost, steps); None if one is no row."""
    x_cells, y_cells = read(x), read(y)
    if x_cells is None or y_cells is None:
        return None
    return min((paid, steps) for steps, paid in collations(tuple(x_cells), tuple(y_cells)))


def cost(x, y):
    """What cost answers to x and y in numbers."""
    found = least(x, y)
    return [-1] if found is None else [found[0]]


def steps(x, y):
    """What steps answers to x and y in numbers."""
    found = least(x, y)
    return [-1] if found is None else list(found[1])


def costs(x, y):
    """Every collation of x and y in numbers, with its cost; None if one is no row."""
    x_cells, y_cells = read(x), read(y)
    if x_cells is None or y_cells is None:
        return None
    return dict(collations(tuple(x_cells), tuple(y_cells)))


def judge(x, y, s):
    """What judge answers to x and y in numbers and the steps s."""
    known = costs(x, y)
    return [-1] if known is None else [known.get(tuple(s), -6)]


def places(steps):
    """The places that steps go through, from (0, 0) on."""
    i = j = 0
    passed = [(0, 0)]
    for step in steps:
        i += step in (0, 1, 3, 5)
        j += step in (0, 2, 4, 6)
        passed.append((i, j))
    return passed


def leasts_through(x, y):
    """For each place of x and y in numbers the least cost through it; None if one is no row."""
    known = costs(x, y)
    if known is None:
        return None
    leasts = {}
    for steps, paid in known.items():
        for place in places(steps):
            leasts[place] = min(paid, leasts.get(place, paid))
    return leasts


def through(i, j, x, y):
    """What through answers to a place and x and y in numbers."""
    leasts = leasts_through(x, y)
    return [-1] if leasts is None else [leasts.get((i, j), -4)]


def paid_up_to(x, y):
    """For each place of the cells x and y and each step that may lead there the least paid before."""
    paid = {(0, 0, None): 0}
    for i in range(len(x) + 1):
        for j in range(len(y) + 1):
            for last in (None, 0, 1, 2, 3, 4, 5, 6):
                if (i, j, last) in paid:
                    for step, takes_x, takes_y, more in next_steps(x[i:], y[j:], last):
                        there = (i + takes_x, j + takes_y, step)
                        paid[there] = min(paid[i, j, last] + more, paid.get(there, paid[i, j, last] + more))
    return paid


def leasts_through_by_parts(x, y):
    """For each place of the cells x and y the least cost through it, for longer rows."""
    leasts, known = {}, {}
    for (i, j, last), before in paid_up_to(x, y).items():
        whole = before + least_by_parts(x[i:], y[j:], last, known)[0]
        leasts[i, j] = min(whole, leasts.get((i, j), whole))
    return leasts


def runs(steps, kind, taking):
    """The runs of steps of a kind: lists of the cells of the row that the steps named in taking take."""
    found, last, cell = [], None, 0
    for step in steps:
        if step == kind:
            if last != kind:
                found.append([])
            found[-1].append(cell)
        cell += step in taking
        last = step
    return found


def all_moves(x, y, steps):
    """Every move of a collation of the cells x and y, as (words of x, words of y)."""
    for missing in runs(steps, 3, (0, 1, 3, 5)):
        for added in runs(steps, 4, (0, 2, 4, 6)):
            for n in range(2, min(len(missing), len(added)) + 1):
                for a in range(len(missing) - n + 1):
                    for b in range(len(added) - n + 1):
                        of_x, of_y = missing[a:a + n], added[b:b + n]
                        if all(price(x[i], y[j]) == 0 for i, j in zip(of_x, of_y)):
                            yield of_x, of_y


def moves_of(x, y, steps):
    """What moves answers of a collation of the cells x and y."""
    left, answer = list(all_moves(x, y, steps)), []
    while left:
        of_x, of_y = min(left, key=lambda move: (-len(move[0]), move[0][0], move[1][0]))
        answer += [of_x[0], of_y[0], len(of_x)]
        left = [move for move in left if not set(move[0]) & set(of_x) and not set(move[1]) & set(of_y)]
    return answer


def moves(x, y, s):
    """What moves answers to x and y in numbers and the steps s."""
    x_cells, y_cells = read(x), read(y)
    if x_cells is None or y_cells is None:
        return [-1]
    return [-6] if follow(x_cells, y_cells, s) is None else moves_of(x_cells, y_cells, s)
