"""Need rows: for each state the least number of signs of a caption to be exchanged so that its speech leads there."""


def first_need_row(rules, start=0):
    """The need row of the empty pair, from a state."""
    return tuple([0 if state == start else None for state in range(len(rules))])


def need_row_behind(rules, row, letter, sign):
    """The need row to which a heard letter and a sign of the caption, one of any letters, lead a need row."""
    least = [None for _ in row]
    for state, worth in enumerate(row):
        if worth is not None:
            for h, c, after in rules.rows[state]:
                if h == letter:
                    least[after] = lesser(least[after], worth + exchanges(c, sign))
    return tuple(least)


def need_rows(rules, speech, caption, start=0):
    """The need rows of all beginnings of a pair, from the empty one on, and from a state."""
    rows = [first_need_row(rules, start)]
    for letter, sign in zip(speech, caption):
        rows.append(need_row_behind(rules, rows[-1], letter, sign))
    return rows


def needs_ahead(rules, speech, caption):
    """For each place of a pair, and its end, a row of the least numbers of exchanges behind it from each state on."""
    rows = [tuple([0 for _ in range(len(rules))])]
    for letter, sign in reversed(list(zip(speech, caption))):
        rows.append(tuple([need_ahead(row, letter, sign, rows[-1]) for row in rules.rows]))
    rows.reverse()
    return rows


def need_ahead(moves, letter, sign, ahead):
    """The least number of exchanges from a state with these moves on, or None if none of them leads on."""
    best = None
    for h, c, after in moves:
        if h == letter and ahead[after] is not None:
            best = lesser(best, ahead[after] + exchanges(c, sign))
    return best


def exchanges(sign, shown):
    """1 if a sign is another one than the one that is shown, 0 if not."""
    return 0 if sign == shown else 1


def lesser(one, other):
    """The lesser one of two numbers, of which the first one may be None."""
    return other if one is None else min(one, other)


def least_worth(row):
    """The least number of a row that may have None, or None."""
    return min([worth for worth in row if worth is not None], default=None)
