"""Purses, limits, rows and books as texts."""

# Python itself refuses to write a number of many thousand digits at once, so it is written in pieces.
PIECE = 10 ** 60


def number_text(number):
    """The digits of a number, however many they are."""
    text = ""
    while number >= PIECE:
        number, low = divmod(number, PIECE)
        text = f"{low:060d}{text}"
    return f"{number}{text}"


def shares_text(shares):
    """Shares as one word."""
    if len(shares) == 0:
        return "-"
    return ",".join([number_text(share) for share in shares])


def purse_text(purse):
    """The line of a purse."""
    name, sponsor, kinds, first, last = purse
    return " ".join(["purse", name, sponsor, number_text(first), number_text(last), ",".join(kinds)])


def limit_text(limit):
    """The line of a limit."""
    purses, first, last, cap = limit
    return " ".join(["limit", ",".join(purses), number_text(first), number_text(last), number_text(cap)])


def row_text(row):
    """The line of a row."""
    word, day, kind, worth = row
    if word == "buy":
        return " ".join([word, number_text(day), kind, number_text(worth)])
    return " ".join([word, number_text(day), kind, shares_text(worth)])


def book_lines(book):
    """The lines of all purses, limits and rows, in order."""
    purses, limits, rows = book
    ahead = [purse_text(purse) for purse in purses] + [limit_text(limit) for limit in limits]
    return ahead + [row_text(row) for row in rows]


def book_text(book):
    """The lines of a book, with newlines between."""
    return "\n".join(book_lines(book))
