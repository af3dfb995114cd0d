"""Pages: the content of a file in parts of 16 words."""

from paritypool.limits import PAGE


def page_count(size):
    """Return the number of the pages of a content with this many words, also of the begun ones."""
    return (size + PAGE - 1) // PAGE


def resized(words, size):
    """Return the words, cut or filled with zeros to the size."""
    return [*words[:size], *([0] * (size - len(words)))]


def without_end_zeros(words):
    """Return the words without the zeros at their end."""
    length = len(words)
    while length > 0 and words[length - 1] == 0:
        length -= 1
    return words[:length]


def with_pages(words, size, pages):
    """Return the words, cut or filled with zeros to the size, with other pages. These are a list of tuples of the
    number of a page and its words."""
    content = resized(words, size)
    for number, page in pages:
        content[number * PAGE:number * PAGE + len(page)] = page
    return content
