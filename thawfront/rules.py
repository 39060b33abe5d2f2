"""Rules of three numbers, (add, least, most): what seasons make of the heat down to a depth."""

from thawfront.checks import check_amount, check_times, check_year


def still(full):
    return (0, 0, full)


def applied(rule, heat):
    behind = heat + rule[0]
    if behind < rule[1]:
        return rule[1]
    if behind > rule[2]:
        return rule[2]
    return behind


def joined(first, second):
    return (first[0] + second[0], applied(second, first[1]), applied(second, first[2]))


# A row of rules is the same rule in whatever grouping it is joined, so the
# doublings of a rule that make up the times stand for joining it one by one.
def repeated(rule, times):
    check_times(times)
    so_far = rule
    doubled = rule
    left = times - 1
    while left > 0:
        if left % 2 == 1:
            so_far = joined(so_far, doubled)
        doubled = joined(doubled, doubled)
        left = left // 2
    return so_far


def season_rule(full, season):
    amount = season[1]
    check_amount(amount)
    if season[0] == "warm":
        return (amount, min(amount, full), full)
    return (-amount, 0, max(0, full - amount))


def row_rule(full, seasons):
    rule = still(full)
    for season in seasons:
        rule = joined(rule, season_rule(full, season))
    return rule


def year_rule(full, year, times):
    check_year(year)
    return repeated(row_rule(full, year), times)
