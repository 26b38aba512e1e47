"""Certificates: rates and offsets that determine every count of a word from the turns alone."""

from sungbyturns.books import check_book, is_word
from sungbyturns.counts import MOST, check_count
from sungbyturns.errors import BadCertificate
from sungbyturns.ratios import ONE, ZERO, difference, is_fraction, multiple, part, spread, sum_of
from sungbyturns.states import check_turns


def value_of(item, word, rates):
    if is_word(item):
        return ONE if item == word else ZERO
    return rates[item]


def values_of(verses, word, rates):
    """Return for each verse the sum of the values of its items."""
    return [sum_of([value_of(item, word, rates) for item in verse]) for verse in verses]


def offsets_of(values, rate):
    """Return the offsets of a refrain whose verses have these values."""
    offsets = [ZERO]
    for value in values[:-1]:
        offsets.append(sum_of([offsets[-1], difference(value, rate)]))
    return tuple(offsets)


def make_certificate(book, word):
    """Return the valid certificate of a word."""
    check_book(book)
    rates = [ZERO] * len(book)
    offsets = [()] * len(book)
    # Refrains only contain later ones, so going backwards all rates are known when they are needed.
    for refrain in reversed(range(len(book))):
        values = values_of(book[refrain], word, rates)
        # The offsets cancel out in the sum of a refrain's equations, which leaves its rate.
        rates[refrain] = part(sum_of(values), len(values))
        offsets[refrain] = offsets_of(values, rates[refrain])
    return tuple(rates), tuple(offsets)


def are_fractions(values, many):
    """Tell whether values of any kind are a tuple of so many fractions."""
    if not isinstance(values, tuple) or len(values) != many:
        return False
    return all([is_fraction(value) for value in values])


def is_certificate(book, certificate):
    """Tell whether a value of any kind has the structure of a certificate, valid or not."""
    if not isinstance(certificate, tuple) or len(certificate) != 2:
        return False
    rates, offsets = certificate
    if not are_fractions(rates, len(book)):
        return False
    if not isinstance(offsets, tuple) or len(offsets) != len(book):
        return False
    for row, verses in zip(offsets, book):
        if not are_fractions(row, len(verses)) or row[0] != ZERO:
            return False
    return True


def check_structure(book, certificate):
    """Raise BadCertificate if a value does not have the structure of a certificate."""
    if not is_certificate(book, certificate):
        raise BadCertificate("the certificate does not have one rate per refrain and one offset per verse")


def first_violation(book, word, certificate):
    """Return (refrain, verse) of the first equation that does not hold, or None."""
    rates, offsets = certificate
    for refrain, verses in enumerate(book):
        row = offsets[refrain]
        for verse, value in enumerate(values_of(verses, word, rates)):
            following = row[(verse + 1) % len(row)]
            if value != sum_of([rates[refrain], difference(following, row[verse])]):
                return refrain, verse
    return None


def check_certificate(book, word, certificate):
    """Return (refrain, verse) of the first equation that does not hold, or None if the certificate is valid."""
    check_book(book)
    check_structure(book, certificate)
    return first_violation(book, word, certificate)


def count_by_certificate(book, word, certificate, turns, final_turns, songs):
    """Return the occurrences of a word in complete songs that lead from turns to final turns, as a fraction."""
    if check_certificate(book, word, certificate) is not None:
        raise BadCertificate("the certificate is not valid")
    check_turns(book, turns)
    check_turns(book, final_turns)
    check_count(songs, 0, MOST)
    rates, offsets = certificate
    changes = [difference(row[end], row[start]) for row, start, end in zip(offsets, turns, final_turns)]
    return sum_of([multiple(rates[0], songs)] + changes)


def max_deviation(book, word):
    """Return the sum of the spreads of all offsets of a word's certificate as a fraction."""
    _, offsets = make_certificate(book, word)
    return sum_of([spread(row) for row in offsets])
