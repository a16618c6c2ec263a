"""Forms told by tallies of the rows ahead and of the rows behind, as few as can be."""

from aheadsums.bases import basis_of, reduced_basis, vector_of
from aheadsums.basics import is_list
from aheadsums.forms import need_form
from aheadsums.ratios import Ratio, are_numbers
from aheadsums.tallies import Tally
from aheadsums.words import is_letter


def side_numbers(form):
    """The fewest left tallies and the fewest right ones."""
    need_form(form)
    return len(basis_of(_lefts(form))), len(basis_of(_rights(form)))


def _lefts(form):
    """For each own letter with a right word the vector of its terms' factors, by left word."""
    found = {}
    for (left, own, right), factor in form.parts():
        factors = found.setdefault((own, right), {})
        factors[left] = factor
    return [vector_of(found[key]) for key in found]


def _rights(form):
    """For each left word with an own letter the vector of its terms' factors, by right word."""
    found = {}
    for (left, own, right), factor in form.parts():
        factors = found.setdefault((left, own), {})
        factors[right] = factor
    return [vector_of(found[key]) for key in found]


def meeting(form):
    """The fewest left tallies, the fewest right ones, and for each own letter their numbers."""
    need_form(form)
    lefts, rights = reduced_basis(_lefts(form)), reduced_basis(_rights(form))
    factors = {term: factor for term, factor in form.parts()}
    letters = sorted(set([own for (left, own, right), factor in form.parts()]))
    told = []
    for letter in letters:
        # As each tally has 0 at the other heads, what stands at two heads is how often both are taken together.
        told.append((letter, [[factors.get((left, letter, right), Ratio(0)) for right, other in rights]
                              for left, one in lefts]))
    return _as_tallies(form.columns, lefts), _as_tallies(form.columns, rights), told


def _as_tallies(columns, basis):
    return [Tally(columns, list(factors.items())) for head, factors in basis]


def is_meeting(form, value):
    """Whether any value is a meeting of the form."""
    need_form(form)
    if not isinstance(value, tuple) or len(value) != 3:
        return False
    lefts, rights, told = value
    if not _are_tallies(form.columns, lefts) or not _are_tallies(form.columns, rights):
        return False
    if (len(lefts), len(rights)) != side_numbers(form):
        return False
    if not _are_told(form.columns, len(lefts), len(rights), told):
        return False
    return _has_its_words(form, lefts, rights) and _is_product(form, lefts, rights, told)


def _are_tallies(columns, value):
    return is_list(value) and all([isinstance(tally, Tally) and tally.columns == columns for tally in value])


def _are_told(columns, many, others, value):
    """Whether any value is a list of tuples of a letter, none twice, and so many lists of so many other NUMBERS."""
    if not is_list(value):
        return False
    for part in value:
        if not isinstance(part, tuple) or len(part) != 2 or not is_letter(columns, part[0]):
            return False
        if not is_list(part[1]) or len(part[1]) != many or not all([are_numbers(row, others) for row in part[1]]):
            return False
    return len(set([part[0] for part in value])) == len(value)


def _has_its_words(form, lefts, rights):
    """Whether the tallies have no other words than the form: the fewest ones are sums of multiples of its own."""
    left_words = {left: True for (left, own, right), factor in form.parts()}
    right_words = {right: True for (left, own, right), factor in form.parts()}
    return _have_words(lefts, left_words) and _have_words(rights, right_words)


def _have_words(tallies, words):
    return all([word in words for tally in tallies for word, factor in tally.parts()])


def _is_product(form, lefts, rights, told):
    """Whether the form has just the terms that the tallies and their numbers make, with these factors."""
    made = {}
    for own, lists in told:
        for tally, numbers in zip(lefts, lists):
            behind = _sum_of(rights, numbers)
            for left, factor in tally.parts():
                for right in behind:
                    term = (left, own, right)
                    made[term] = made.get(term, Ratio(0)) + factor * behind[right]
    factors = {term: made[term] for term in made if made[term].sign != 0}
    return factors == {term: factor for term, factor in form.parts()}


def _sum_of(tallies, numbers):
    """The factors, by word, of the sum of the tallies, each so many times."""
    found = {}
    for tally, number in zip(tallies, numbers):
        for word, factor in tally.parts():
            found[word] = found.get(word, Ratio(0)) + factor * number
    return {word: found[word] for word in found if found[word].sign != 0}
