"""A pool of disks that survives crashes, lost disks and wrong writes."""
