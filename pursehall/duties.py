"""Line machines, the prices and the purse that go with them, and the duties that come of these."""

from pursehall.errors import BadForm
from pursehall.exact import is_between

FARTHEST = 1000
MOST_NUMBERS = 4
MOST_DEEDS = 8
MOST_GUARDS = 4


def look_form(form, many):
    if not isinstance(form, tuple) or len(form) != many + 1:
        raise BadForm(f"a form for {many} numbers is a tuple of one more")
    for number in form:
        if not is_between(number, -FARTHEST, FARTHEST):
            raise BadForm(f"a form has a number that is not from -{FARTHEST} to {FARTHEST}")


def look_forms(forms, least, most, many):
    if not isinstance(forms, list) or not is_between(len(forms), least, most):
        raise BadForm(f"the forms are a list of {least} to {most}")
    for form in forms:
        look_form(form, many)


def look_deed(deed, many):
    if not isinstance(deed, tuple) or len(deed) != 3:
        raise BadForm("a deed is a triple of guards, changes and cost")
    look_forms(deed[0], 0, MOST_GUARDS, many)
    look_forms(deed[1], many, many, many)
    look_form(deed[2], many)


def look_lines(lines):
    if not isinstance(lines, tuple) or len(lines) != 2:
        raise BadForm("a line machine is a pair of how many numbers and the deeds")
    if not is_between(lines[0], 1, MOST_NUMBERS):
        raise BadForm(f"a line machine has 1 to {MOST_NUMBERS} numbers")
    if not isinstance(lines[1], list) or not is_between(len(lines[1]), 1, MOST_DEEDS):
        raise BadForm(f"a line machine has a list of 1 to {MOST_DEEDS} deeds")
    for deed in lines[1]:
        look_deed(deed, lines[0])


def look_prices(lines, prices):
    if not isinstance(prices, list) or len(prices) != len(lines[1]):
        raise BadForm("prices are a list of one for each deed")
    for price in prices:
        if not is_between(price, -FARTHEST, FARTHEST):
            raise BadForm(f"a price is not from -{FARTHEST} to {FARTHEST}")


def purse_behind(purse, changes):
    # The purse's worth at the changed numbers, as a form for the numbers ahead of the changes.
    behind = []
    for at in range(len(purse)):
        behind.append(sum([purse[number] * change[at] for number, change in enumerate(changes)]))
    behind[-1] += purse[-1]
    return behind


def left_over(deed, price, purse):
    # What the purse and the price have over the cost and the purse behind the changes.
    behind = purse_behind(purse, deed[1])
    over = [purse[at] - deed[2][at] - behind[at] for at in range(len(purse))]
    over[-1] += price
    return over


def duties_of(lines, prices, purse):
    # Pairs of the guards and the form that must be from nought on under them.
    look_lines(lines)
    look_prices(lines, prices)
    look_form(purse, lines[0])
    duties = []
    for deed, price in zip(lines[1], prices):
        duties.append((deed[0], left_over(deed, price, purse)))
        for change in deed[1]:
            duties.append((deed[0], list(change)))
    duties.append(([], list(purse)))
    return duties
