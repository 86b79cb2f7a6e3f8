"""Answers taken apart into their rows, and put together from them."""


def rows_of(answer):
    """The rows of an answer, each of which stands behind how many numbers it has."""
    rows = []
    at = 0
    while at < len(answer):
        end = at + 1 + answer[at]
        if answer[at] < 0 or end > len(answer):
            raise AssertionError(f"a row of {answer[at]} numbers at {at} of {len(answer)}")
        rows.append(answer[at + 1:end])
        at = end
    return rows


def laid_out(rows):
    return [number for row in rows for number in [len(row)] + row]
