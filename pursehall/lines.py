"""Machines without end of states, by lines: papers that show that a purse pays, or a point where it fails."""

from pursehall.duties import duties_of
from pursehall.exact import are_from_nought, fraction, is_between, is_less, weighed
from pursehall.tables import shares_or_weights


def guards_at(guards, at):
    return [guard[at] for guard in guards]


def bounds_by(word, form):
    # What the guards times their shares may come to at most, at each number of a form.
    if word == "line":
        return form
    return [0 for number in form[:-1]] + [-1]


def worth_of(form, weights):
    return sum([number * weight for number, weight in zip(form, weights)])


def gone_far(form, start, onward):
    # Each step onward takes a whole number above 0 from the form's worth.
    steps = max(0, worth_of(form, start) // -worth_of(form, onward) + 1)
    return [one + steps * other for one, other in zip(start, onward)]


def point_of(weights):
    return [fraction(weight, weights[-1]) for weight in weights[:-1]]


def paper_or_point(guards, form):
    # A paper that is so, or ("point", where the form is below nought though the guards are kept).
    rows = [guards_at(guards, at) for at in range(len(form))]
    found = shares_or_weights(rows, bounds_by("line", form))
    if found[0] == "shares":
        return ("line", found[1])
    if found[1][-1] > 0:
        return ("point", point_of(found[1]))
    # These weights are no point, but a way on from any one that keeps the guards.
    kept = shares_or_weights(rows, bounds_by("none", form))
    if kept[0] == "shares":
        return ("none", kept[1])
    return ("point", point_of(gone_far(form, kept[1], found[1])))


def settled(lines, prices, purse):
    papers = []
    for number, duty in enumerate(duties_of(lines, prices, purse)):
        found = paper_or_point(duty[0], duty[1])
        if found[0] == "point":
            return ("fails", number, found[1])
        papers.append(found)
    return ("pays", papers)


def is_so(guards, form, paper):
    word = paper[0]
    shares = paper[1]
    if word != "line" and word != "none":
        return False
    if len(shares) != len(guards) or not are_from_nought(shares):
        return False
    for at, bound in enumerate(bounds_by(word, form)):
        if is_less((bound, 1), weighed(shares, guards_at(guards, at))):
            return False
    return True


def shows(lines, prices, purse, papers):
    duties = duties_of(lines, prices, purse)
    if len(papers) != len(duties):
        return False
    return all([is_so(duty[0], duty[1], paper) for duty, paper in zip(duties, papers)])


def worth_at(form, point):
    return weighed(point + [(1, 1)], form)


def fails_at(lines, prices, purse, number, point):
    duties = duties_of(lines, prices, purse)
    if not is_between(number, 0, len(duties) - 1):
        return False
    if len(point) != lines[0] or not are_from_nought(point):
        return False
    for guard in duties[number][0]:
        if worth_at(guard, point)[0] < 0:
            return False
    return worth_at(duties[number][1], point)[0] < 0
