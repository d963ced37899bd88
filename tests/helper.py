"""What the tests share: calls laid out as lists, answers taken apart."""

from jobways.runs import answers

WRITTEN = [1]
STAND = [6]


def read(text):
    """The call read; text is a str of signs below 256 or a list of bytes."""
    row = list(text.encode("latin-1")) if isinstance(text, str) else list(text)
    return [0, len(row)] + row


def label(instance):
    return [2, instance]


def needs(instance):
    return [3, instance]


def begin(flags):
    return [4, flags]


def ends(instance, passed):
    return [5, instance, passed]


def forecast(flags, failures):
    return [7, flags, failures]


def ever(instance):
    return [8, instance]


def parted(answered):
    """The answers one by one, out of the one list that answers gives back."""
    rows = []
    place = 0
    while place < len(answered):
        end = place + 1 + answered[place]
        rows.append(answered[place + 1:end])
        place = end
    assert place == len(answered), "the last answer is shorter than its count"
    return rows


def ask(*calls):
    """The answers to these calls, handed in as one list."""
    row = []
    for call in calls:
        row += call
    return parted(answers(row))


def read_one(text):
    return ask(read(text))[0]


def written_after(text):
    """What is written behind a read, as a str."""
    taken, answer = ask(read(text), WRITTEN)
    assert taken[0] == 0, f"refused: {taken}"
    assert answer[0] == 0
    return bytes(answer[1:]).decode("ascii")


def labels_after(text):
    """All labels of a text's instances, as strs."""
    taken = read_one(text)
    assert taken[0] == 0, f"refused: {taken}"
    rows = ask(read(text), *[label(number) for number in range(taken[2])])[1:]
    assert all(row[0] == 0 for row in rows)
    return [bytes(row[1:]).decode("ascii") for row in rows]


def needs_after(text):
    """For each of a text's instances those that it needs."""
    taken = read_one(text)
    assert taken[0] == 0, f"refused: {taken}"
    rows = ask(read(text), *[needs(number) for number in range(taken[2])])[1:]
    assert all(row[0] == 0 for row in rows)
    return [row[1:] for row in rows]


def after(text, *calls):
    """The answers to calls behind a read that is taken."""
    rows = ask(read(text), *calls)
    assert rows[0][0] == 0, f"refused: {rows[0]}"
    return rows[1:]


def begin_after(text, flags=0):
    return after(text, begin(flags))[0]
