"""Putting requests into the order in which disks carry them out best."""


def schedule(requests):
    """Return the list of the scheduled requests."""
    scheduled = []
    # For each row that is written behind the last flush, the last sector for it.
    written = {}
    for request in requests:
        if request[0] == "write":
            _, disk, row, sector = request
            written[(disk, row)] = sector
            continue
        scheduled.extend(ordered_writes(written))
        written = {}
        if not scheduled or scheduled[-1] != ("flush",):
            scheduled.append(("flush",))
    scheduled.extend(ordered_writes(written))
    return scheduled


def ordered_writes(written):
    """Return the writes of the sectors to their rows, in ascending order of the disks and then of the rows."""
    # The caller may change what it gets, and must not change by it what it gave.
    return [
        ("write", disk, row, None if written[(disk, row)] is None else list(written[(disk, row)]))
        for disk, row in sorted(written)
    ]
