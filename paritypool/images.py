"""Reading disk images: lists with one entry for each disk, its list of sectors, or None while it is absent."""


def is_present(images, disk):
    """Return whether the disk with this number is present."""
    return 0 <= disk < len(images) and images[disk] is not None


def sector_at(images, disk, row):
    """Return the sector in the row of the disk, or None if there is none to be read."""
    if not is_present(images, disk) or not 0 <= row < len(images[disk]):
        return None
    return images[disk][row]
