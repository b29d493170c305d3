"""Events and logs as lines."""

from latecharge.booktexts import limit_text, number_text, purse_text, row_text, shares_text


def event_line(event):
    """The line of an event by kind."""
    word = event[0]
    if word == "buy":
        return row_text(event)
    if word == "purse":
        return purse_text(event[1])
    if word == "limit":
        return limit_text(event[1])
    if word == "close":
        return " ".join(["close"] + [shares_text(shares) for shares in event[1]])
    _, at, worth = event
    if word == "pay":
        return " ".join([word, number_text(at), shares_text(worth)])
    return " ".join([word, number_text(at), number_text(worth)])


def card_lines(purses, limits):
    """The lines of the first element of a log."""
    lines = [purse_text(purse) for purse in purses] + [limit_text(limit) for limit in limits]
    return [f"card {len(lines)}"] + lines


def log_lines(log):
    """The list of the lines of a log."""
    _, purses, limits = log[0]
    return card_lines(purses, limits) + [event_line(event) for event in log[1:]]
