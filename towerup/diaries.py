"""Diaries: histories some of whose results are not known."""

from towerup.errors import NoOrder, TooMany
from towerup.guesses import Guesses, known_history
from towerup.histories import under_way_along
from towerup.masks import EMPTY, Lots

MOST_FILLINGS = 200


def fillings(kind, sides, diary):
    """The ascending list of all rows of results for those that are not known with which the diary is explained."""
    found = Guesses(kind, sides, diary).fillings(MOST_FILLINGS)
    if len(found) > MOST_FILLINGS:
        raise TooMany(MOST_FILLINGS)
    return found


def filling_count(kind, sides, diary):
    """How many fillings the diary has."""
    return Guesses(kind, sides, diary).many_ways()


def sure_results(kind, sides, diary):
    """For each call the result that it tells in all fillings, None if it tells none or several."""
    if first_fault(kind, sides, diary) is not None:
        raise NoOrder()
    found = Guesses(kind, sides, diary).results()
    return [results[0] if len(results) == 1 else None for results in found]


def first_fault(kind, sides, diary):
    """The index of the first event behind which no filling is left, None if there is one for the whole diary."""
    under_way_along(kind, sides, known_history(diary))
    lots = Lots(kind, sides)
    number = 0
    for index, event in enumerate(diary):
        number = lots.behind(number, tuple(event))
        if number == EMPTY:
            return index
    return None
