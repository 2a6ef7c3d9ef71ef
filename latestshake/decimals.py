"""Decimals: floors at powers of 10, written in figures with a point."""


def ten_to(places):
    """10 to the power of places."""
    power = 1
    for _ in range(places):
        power *= 10
    return power


def with_point(floor, places):
    """A whole number in figures, with a point ahead of the last ones."""
    written = str(abs(floor)).zfill(places + 1)
    if places > 0:
        # Without places written[:-places] would be empty.
        written = written[:-places] + "." + written[-places:]
    return "-" + written if floor < 0 else written
