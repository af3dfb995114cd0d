"""The disks of a pool: members, spares and their changes."""

from paritypool.catalog import Catalog
from paritypool.errors import Busy, InvalidArgument, NotEnoughDisks, PoolError
from paritypool.limits import MAX_DISKS


def status(pool):
    """Return the list of what each disk of the images is."""
    return [disk_status(pool, disk) for disk in range(len(pool.images))]


def disk_status(pool, disk):
    """Return the word for what a disk is."""
    if disk not in pool.store.members and disk not in pool.spares:
        return "unused"
    if not pool.is_there(disk):
        return "absent"
    return "active" if disk in pool.store.members else "spare"


def add(pool, disk):
    """Make a disk a spare, and return the requests."""
    if not 0 <= disk < MAX_DISKS or not pool.is_there(disk):
        raise InvalidArgument("there is no such disk")
    if disk in pool.store.members or disk in pool.spares:
        raise InvalidArgument("the disk belongs to the pool")
    return pool.commit(pool.root, pool.checkpoint, sorted([*pool.spares, disk]))


def activate(pool, disk):
    """Make a spare a member, and return the requests."""
    if disk not in pool.spares or not pool.is_there(disk):
        raise InvalidArgument("the disk is no spare that is present")
    return change_members(pool, [disk], [])


def retire(pool, disk):
    """End the membership of a disk, and return the requests."""
    if disk in pool.spares:
        return pool.commit(pool.root, pool.checkpoint, [spare for spare in pool.spares if spare != disk])
    if disk not in pool.store.members:
        raise InvalidArgument("the disk does not belong to the pool")
    if len(pool.store.members) <= pool.store.data + pool.store.parity:
        raise NotEnoughDisks("too few members would be left")
    check_idle(pool)
    return change_members(pool, [], [disk])


def heal(pool):
    """Replace members that are absent by spares; return the number of them and the requests."""
    check_idle(pool)
    absent = [disk for disk in pool.store.members if not pool.is_there(disk)]
    ready = [disk for disk in pool.spares if pool.is_there(disk)]
    many = min(len(absent), len(ready))
    return many, change_members(pool, ready[:many], absent[:many])


def check_idle(pool):
    """Raise an error if a transaction is open."""
    if pool.transactions:
        raise Busy("a transaction is open")


def change_members(pool, joining, leaving):
    """Make some spares members, then evacuate and retire some members; return the requests."""
    made = pool.store.made()
    for disk in joining:
        pool.store.add_member(disk)
    try:
        moved = {}
        root = evacuated_root(pool, pool.root, leaving, moved)
        checkpoint = pool.checkpoint
        if checkpoint is not None:
            checkpoint = (evacuated_root(pool, checkpoint[0], leaving, moved),)
        return pool.commit(root, checkpoint, [spare for spare in pool.spares if spare not in joining], leaving)
    except PoolError:
        # The disks are no members yet, and have no blocks.
        pool.store.undo(made)
        for disk in joining:
            pool.store.drop_member(disk)
        raise


def evacuated_root(pool, root, disks, moved):
    """Return the root of a catalog that is evacuated from the disks."""
    if not disks:
        return root
    catalog = Catalog(pool.store, root)
    catalog.evacuate(disks, moved)
    return catalog.root
