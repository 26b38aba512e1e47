"""The ranges of the numbers that are passed to functions."""

from sungbyturns.errors import BadCount

MOST = 10 ** 18


def check_count(count, least, most):
    if not least <= count <= most:
        raise BadCount(f"the number is not from {least} to {most}")
