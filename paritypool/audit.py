"""Looking at the images of a pool for what is not right."""

from paritypool.errors import NoPool
from paritypool.images import is_present
from paritypool.labels import find_label, label_row, outdated_disks
from paritypool.pool import kept_roots, live_blocks
from paritypool.store import Store
from paritypool.stripes import good_piece, piece_size


def audit(images):
    """Return the ascending list of the places that do not have what the newest label tells."""
    label = find_label(images)
    if label is None:
        raise NoPool("there is no label")
    store = Store(data=label.data, parity=label.parity, rows=label.rows, members=label.members, epoch=label.epoch)
    store.look(images)
    root, checkpoint = label.root
    hurt = [(disk, label_row(label)) for disk in outdated_disks(images, label)]
    for pointer in live_blocks(store, kept_roots(root, checkpoint)):
        # A block that cannot be read is an error, whatever its pieces are.
        store.get(pointer)
        hurt.extend(bad_places(images, pointer, label))
    return sorted(set(hurt))


def bad_places(images, pointer, label):
    """Return the places of a block on present members whose pieces are not good."""
    epoch, serial, length, places = pointer
    size = piece_size(length, label.data)
    return [
        place for place in places
        if place[0] in label.members and is_present(images, place[0])
        and good_piece(images, place, (epoch, serial), size) is None
    ]
