"""Transactions: file calls on a state of their own, which are made again on the pool when they end."""

from paritypool.calls import FILE_CALLS
from paritypool.catalog import Catalog
from paritypool.errors import (
    AlreadyExists, Busy, Conflict, InvalidArgument, IsDirectory, NotDirectory, NotEmpty, NotFound, OverLimit, TooLong,
)
from paritypool.limits import MAX_TRANSACTIONS
from paritypool.packing import pack
from paritypool.pool import own_copy


class Transaction:
    """An open transaction."""

    def __init__(self, root):
        # The root of the catalog that it sees.
        self.root = root
        # For each call that was made: a copy of it, and what came of it.
        self.calls = []


def begin(pool):
    """Open a transaction, and return its number."""
    if len(pool.transactions) >= MAX_TRANSACTIONS:
        raise Busy("too many transactions are open")
    number = pool.begun
    pool.transactions[number] = Transaction(pool.root)
    pool.begun += 1
    return number


def open_transaction(pool, number):
    """Return the transaction with the number."""
    if number not in pool.transactions:
        raise NotFound("no transaction with this number is open")
    return pool.transactions[number]


def abandon(pool, number):
    """End a transaction without any effect."""
    open_transaction(pool, number)
    del pool.transactions[number]


def outcome(pool, catalog, call):
    """Make a call on the catalog, and return the answer and None, or None and the word for its error.

    Errors that do not count as answers are raised.
    """
    word = None
    answer = None
    try:
        answer = pool.make_part(catalog, call)
    except NotFound:
        word = "NotFound"
    except AlreadyExists:
        word = "AlreadyExists"
    except NotDirectory:
        word = "NotDirectory"
    except IsDirectory:
        word = "IsDirectory"
    except NotEmpty:
        word = "NotEmpty"
    except InvalidArgument:
        word = "InvalidArgument"
    except TooLong:
        word = "TooLong"
    except OverLimit:
        word = "OverLimit"
    return answer, word


def within(pool, number, call):
    """Make a call in a transaction."""
    transaction = open_transaction(pool, number)
    catalog = Catalog(pool.store, transaction.root)
    made = pool.store.made()
    answer, word = outcome(pool, catalog, call)
    transaction.root = catalog.root
    transaction.calls.append((own_copy(call), pack((answer, word))))
    if word is not None:
        # A call that raised an error has changed nothing; so it raises the error once more.
        pool.store.undo(made)
        pool.make_part(catalog, call)
    return answer


def finish(pool, number):
    """Make the calls of a transaction on the pool."""
    transaction = open_transaction(pool, number)
    catalog = pool.catalog()
    effective = []
    for call, told in transaction.calls:
        answer, word = outcome(pool, catalog, call)
        if pack((answer, word)) != told:
            del pool.transactions[number]
            raise Conflict("a call of the transaction has another result now")
        if word is None and call[0] in FILE_CALLS:
            effective.append(call)
    del pool.transactions[number]
    pool.root = catalog.root
    # The calls that raised errors would change nothing.
    pool.pending.append(("atomic", effective))
