"""Where all stand behind a putting in. Nothing is refused here: whoever calls has checked."""


def with_new_one(rule, wide, places, rank):
    """The places of all, by rank, when one more is put in at this rank."""
    low = places[rank - 1] if rank > 0 else -1
    high = places[rank] if rank < len(places) else wide
    if high - low > 1:
        return inserted(places, rank, (low + high) // 2)
    if rule == "even":
        return laid_evenly(wide, len(places) + 1)
    ahead = free_ahead(places, low)
    behind = free_behind(wide, places, high)
    if is_taken_ahead(rule, low, high, ahead, behind):
        return inserted([at - 1 if ahead < at <= low else at for at in places], rank, low)
    return inserted([at + 1 if high <= at < behind else at for at in places], rank, high)


def inserted(places, rank, at):
    """The places with one more of this rank."""
    return places[:rank] + [at] + places[rank:]


def laid_evenly(wide, many):
    """The places of so many, spread over the whole shelf."""
    return [rank * wide // many for rank in range(many)]


def free_ahead(places, low):
    """The nearest free place ahead of low, None if there is none."""
    free = [at for at in range(low) if at not in places]
    return free[-1] if free else None


def free_behind(wide, places, high):
    """The nearest free place behind high, None if there is none."""
    free = [at for at in range(high + 1, wide) if at not in places]
    return free[0] if free else None


def is_taken_ahead(rule, low, high, ahead, behind):
    """Whether the free place ahead is taken in, not the one behind."""
    if ahead is None:
        return False
    if behind is None or rule == "left":
        return True
    return low - ahead <= behind - high


def count_moved(places, laid, rank):
    """How many stand elsewhere than they did before the one of this rank was put in."""
    others = laid[:rank] + laid[rank + 1:]
    return len([was for was, now in zip(places, others) if was != now])
