"""What the told giver gives of a row, and the papers of numbers that show its share."""

from shareforsure.gifts import given_of
from shareforsure.givers import ToldGiver, run
from shareforsure.most import most_given
from shareforsure.rises import pull, rise, share


def told_gifts(yard, row):
    """The told giver's run on a row, a tuple."""
    return run(ToldGiver(yard), row)


def pull_paper(yard, row):
    """The told giver's pull paper on a row: a pair of numbers for the houses and numbers for the requests."""
    c, worths = yard
    loads = [0] * len(worths)
    pulls = []
    for gift in told_gifts(yard, row):
        if gift is None:
            pulls.append(0)
        else:
            pulls.append(pull(yard, gift, loads[gift]))
            loads[gift] += 1
    return tuple([worth * rise(c, load) for worth, load in zip(worths, loads)]), tuple(pulls)


def told_account(yard, row):
    """The told giver's account on a row: for each request the gift, the given so far, and the pull paper's price."""
    c, worths = yard
    _, whole = share(c)
    account = []
    given = 0
    for gift in told_gifts(yard, row):
        if gift is not None:
            given += worths[gift]
        # The price of a pull paper is just E times the given (S4.4), so no paper needs to be made for each request.
        account.append((gift, given, whole * given))
    return tuple(account)


def share_room(yard, row):
    """E times what the told giver gives of a row, less D times the most: a number."""
    sure, whole = share(yard[0])
    return whole * given_of(yard, told_gifts(yard, row)) - sure * most_given(yard, row)
