"""Fractions, told by two whole numbers in lowest terms."""


def common_measure(first, second):
    """The greatest whole number that goes into both."""
    while second != 0:
        rest = first % second
        first = second
        second = rest
    return first


def lowest_terms(upper, lower):
    """The two numbers of upper / lower; lower is above 0."""
    measure = common_measure(abs(upper), lower)
    return [upper // measure, lower // measure]
