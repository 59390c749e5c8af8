"""Books written as lines."""


def book_line(book):
    """The line of a book: the words book, the prime and the size, and each row behind a /."""
    prime, size, rows = book
    words = ["book", str(prime), str(size)]
    for row in rows:
        words.append("/")
        words.extend([str(digit) for digit in row])
    return " ".join(words)
