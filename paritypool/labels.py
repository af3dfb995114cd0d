"""Labels: what describes a commit, on several disks at once."""

from paritypool.images import is_present, sector_at
from paritypool.limits import LABEL_ROWS, MAX_DISKS
from paritypool.packing import pack, unpack
from paritypool.sector import LABEL, seal, unseal


class Label:
    """What describes a commit."""

    def __init__(self, *, pool, epoch, group, data, parity, rows, members, spares=(), notes=None, root=None):
        self.pool = pool
        self.epoch = epoch
        self.group = group
        self.data = data
        self.parity = parity
        self.rows = rows
        self.members = list(members)
        self.spares = list(spares)
        self.notes = (epoch, group) if notes is None else notes
        # The lists in the root may belong to the caller; packing and unpacking makes an equal value of its own.
        self.root = unpack(pack(root))

    def stamp(self):
        """Return the stamp with which the label is sealed."""
        return self.epoch, self.group


def label_row(label):
    """Return the row in which the label is stored."""
    return label.group % LABEL_ROWS


def label_requests(images, label, disks):
    """Return the requests that store the label on the disks that are present."""
    row = label_row(label)
    payload = pack(
        (label.pool, label.data, label.parity, label.rows, label.members, label.spares, label.notes, label.root)
    )
    return [
        ("write", disk, row, seal(LABEL, disk, row, label.stamp(), payload))
        for disk in disks if is_present(images, disk)
    ]


def label_from(stamp, payload):
    """Return the label that was sealed with the stamp and the payload."""
    epoch, group = stamp
    pool, data, parity, rows, members, spares, notes, root = unpack(payload)
    return Label(pool=pool, epoch=epoch, group=group, data=data, parity=parity, rows=rows, members=members,
                 spares=spares, notes=notes, root=root)


def find_label(images):
    """Return the newest label, or None if there is none."""
    newest = None
    for disk in range(len(images)):
        for row in range(LABEL_ROWS):
            found = unseal(sector_at(images, disk, row), LABEL, disk, row)
            if found is not None and (newest is None or found[0] > newest[0]):
                newest = found
    if newest is None:
        return None
    stamp, payload = newest
    return label_from(stamp, payload)


def shown_number(rows):
    """Return the stamp of the newest label of a disk that may be any one, and its number, or None without a label."""
    newest = None
    for row in range(min(LABEL_ROWS, len(rows))):
        for number in range(MAX_DISKS):
            found = unseal(rows[row], LABEL, number, row)
            if found is not None and (newest is None or found[0] > newest[0]):
                newest = (found[0], number)
    return newest


def own_rows(rows):
    """Return a copy of the rows of a disk."""
    return [None if sector is None else list(sector) for sector in rows]


def arrange(disks):
    """Return images in which each disk with a label is at its number."""
    # For each number, the stamp of the newest label that shows it, and the rows of that disk.
    chosen = {}
    for rows in disks:
        shown = None if rows is None else shown_number(rows)
        if shown is None:
            continue
        stamp, number = shown
        if number not in chosen or stamp > chosen[number][0]:
            chosen[number] = (stamp, rows)
    length = max(chosen, default=-1) + 1
    return [own_rows(chosen[number][1]) if number in chosen else None for number in range(length)]


def outdated_disks(images, label):
    """Return the ascending list of the present members and spares that do not have the label in its row."""
    row = label_row(label)
    outdated = []
    for disk in sorted([*label.members, *label.spares]):
        found = unseal(sector_at(images, disk, row), LABEL, disk, row)
        if is_present(images, disk) and (found is None or found[0] != label.stamp()):
            outdated.append(disk)
    return outdated
