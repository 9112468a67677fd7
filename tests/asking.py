"""Put calls as rows with names, and get back one answer a row."""

from whohearddesk.letters import answers

NAMES = (
    "begin", "station", "fact", "letter", "unfact", "unletter", "claim",
    "is_station", "factis", "letteris", "where", "comes", "in_letter",
    "known", "could", "first", "knew", "late", "own", "sooner", "heard",
    "never", "book", "back", "state",
)

BIG = 4294967295
REST = ("station", 0, 0, 1, 1)
RIGHT = ("station", 0, 0, 2, 1)
LEFT = ("station", 0, 0, 1, 2)


def as_list(rows):
    calls = []
    for row in rows:
        calls.append(NAMES.index(row[0]))
        calls.extend(row[1:])
    return calls


def split(given):
    parts = []
    place = 0
    while place < len(given):
        behind = place + 1 + given[place]
        parts.append(given[place + 1:behind])
        place = behind
    return parts


def ask(*rows):
    """The answers to all rows."""
    parts = split(answers(as_list(rows)))
    assert len(parts) == len(rows)
    return parts


def after(given, *rows):
    """The answers to the rows, asked behind a begin and the given rows."""
    given = list(given)
    return ask(("begin",), *given, *rows)[1 + len(given):]


def look(given, rows):
    """The answers to rows that change nothing, asked behind the given ones in lists of at most 256 calls."""
    rows, room = list(rows), 255 - len(given)
    parts = []
    for place in range(0, len(rows), room):
        parts += after(given, *rows[place:place + room])
    return parts
