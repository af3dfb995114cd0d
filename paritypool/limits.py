"""The fixed numbers of the pool."""

# Arithmetic on words is arithmetic modulo this number.
PRIME = 65521

MAX_PIECES = 8
MAX_DISKS = 8
MAX_TRANSACTIONS = 8

MAX_PAYLOAD = 1000

MIN_ROWS = 64
MAX_ROWS = 4000

# Labels come first on a disk, then the journal, then the pieces of blocks.
LABEL_ROWS = 2
JOURNAL_ROWS = 16
FIRST_ROW = 18

MAX_NAME = 12
MAX_PATH = 60

MAX_FILE = 4096
PAGE = 16
