"""Calls written for the desk, and their answers taken from it."""

from versefeet.desk import answers


def numbers(signs):
    return [ord(sign) for sign in signs] if isinstance(signs, str) else list(signs)


def counted(signs):
    return [len(signs)] + numbers(signs)


def speak_call(line):
    return [0, 0, 1] + counted(line)


def scan_call(measure, line):
    return [1, 0, 2] + counted(measure) + counted(line)


def way_call(k, measure, line):
    return [2, 1, k, 2] + counted(measure) + counted(line)


def next_call(most, measure, after, stock):
    call = [10, 1, most, 2 + len(stock)] + counted(measure) + counted(after)
    for word in stock:
        call = call + counted(word)
    return call


def ask(call):
    """The answer to one call, without the count in front, which must be right."""
    given = answers(call)
    assert given[0] == len(given) - 1, given
    return given[1:]


def speak(line):
    return ask(speak_call(line))


def syllables(line):
    """What speak tells of the syllables there are; what's behind must be 0."""
    answer = speak(line)
    assert len(answer) == 65, answer
    assert answer[1 + answer[0]:] == [0] * (64 - answer[0]), answer
    return answer[1:1 + answer[0]]


def scan(measure, line):
    return ask(scan_call(measure, line))


def way(k, measure, line):
    return ask(way_call(k, measure, line))


def next_row(most, measure, after, stock):
    return ask(next_call(most, measure, after, stock))


def rows_by_next(most, measure, stock):
    """All the rows that next gives, each asked for behind the one before."""
    rows = []
    after = []
    while True:
        answer = next_row(most, measure, after, stock)
        assert answer[0] == len(answer) - 1, answer
        if answer == [0]:
            return rows
        after = answer[1:]
        rows.append(after)
