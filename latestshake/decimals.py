"""Decimals: floors at powers of 10, written in figures with a point."""

# So many figures are written at once: Python itself refuses to write some thousands.
AT_ONCE = 1000


def ten_to(places):
    """10 to the power of places."""
    power = 1
    for _ in range(places):
        power *= 10
    return power


def in_figures(whole):
    """A whole number from 0 on in figures, however many."""
    written, by = "", ten_to(AT_ONCE)
    while whole >= by:
        whole, piece = divmod(whole, by)
        written = str(piece).zfill(AT_ONCE) + written
    return str(whole) + written


def with_point(floor, places):
    """A whole number in figures, with a point ahead of the last ones."""
    written = in_figures(abs(floor)).zfill(places + 1)
    if places > 0:
        # Without places written[:-places] would be empty.
        written = written[:-places] + "." + written[-places:]
    return "-" + written if floor < 0 else written
