"""The windows of rows in which deeds may be begun (13)."""


def narrowed(waits, windows):
    """Windows narrowed by waits, rising, or None where some first is behind its last."""
    firsts = [first for first, last in windows]
    lasts = [last for first, last in windows]
    # Waits rise and lead to later deeds, so once from ahead and once from behind is as good as again and again.
    for i, j, many in waits:
        firsts[j] = max(firsts[j], firsts[i] + many)
    for i, j, many in waits[::-1]:
        lasts[i] = min(lasts[i], lasts[j] - many)
    if any(first > last for first, last in zip(firsts, lasts)):
        return None
    return tuple(zip(firsts, lasts))


def with_window(windows, k, window):
    """Windows with another one for deed k."""
    return windows[:k] + (window,) + windows[k + 1:]


def part_ahead(windows, k, row):
    """Windows with deed k begun ahead of a row."""
    first, last = windows[k]
    return with_window(windows, k, (first, min(last, row - 1)))


def part_from(windows, k, row):
    """Windows with deed k begun from a row on."""
    first, last = windows[k]
    return with_window(windows, k, (max(first, row), last))
