"""A year that comes again and again, reckoned by rules and not by walking all of its years."""

from thawfront.beds import passed
from thawfront.checks import check_bed, check_season, check_times, check_year
from thawfront.rules import applied, repeated, row_rule, season_rule
from thawfront.sizes import MOST_TIMES


def each_down_to(numbers):
    sums = []
    so_far = 0
    for number in reversed(numbers):
        so_far = so_far + number
        sums.append(so_far)
    return list(reversed(sums))


# Each depth has a rule of its own, whatever lies below it, and the heat of a bed
# is what the heat down to it has more than the heat down to the bed above it.
def heats_later(needs, heats, year, times):
    downs = []
    for full, held in zip(each_down_to(needs), each_down_to(heats)):
        downs.append(applied(repeated(row_rule(full, year), times), held))
    return [down - above for down, above in zip(downs, downs[1:] + [0])]


# The heats are those behind at least one such year. Where a year ends alike
# whatever it began with, all years from here on begin alike and miss alike. Else
# no year finds both no room and no heat, and one that brings at least what it
# takes finds no heat only where it begins below the least that it can end with:
# in the first year, or never (and the other way round for room). So what is
# missed from here on is of one kind alone, and the heat in the ground tells it.
def missed_later(needs, heats, year, times):
    rule = row_rule(sum(needs), year)
    if rule[1] == rule[2]:
        each = passed(needs, heats, year)
        return (times * each[1], times * each[2])
    held = sum(heats)
    over = held + times * rule[0] - applied(repeated(rule, times), held)
    return (max(over, 0), max(-over, 0))


def whole_years(needs, heats, year, times):
    if times == 0:
        return (list(heats), 0, 0)
    first = passed(needs, heats, year)
    if times == 1:
        return first
    behind = heats_later(needs, first[0], year, times - 1)
    missed = missed_later(needs, first[0], year, times - 1)
    return (behind, first[1] + missed[0], first[2] + missed[1])


def passed_until(needs, heats, year, at_year, season):
    ahead = whole_years(needs, heats, year, at_year - 1)
    last = passed(needs, ahead[0], year[:season])
    return (last[0], ahead[1] + last[1], ahead[2] + last[2])


def years_passed(needs, heats, year, times):
    check_year(year)
    check_times(times)
    return whole_years(needs, heats, year, times)


def heats_at(needs, heats, year, at_year, season):
    check_year(year)
    check_season(MOST_TIMES, len(year), at_year, season)
    return passed_until(needs, heats, year, at_year, season)[0]


# Behind the first year the heat lies between the rule's least and most and goes
# on by the rule's add alone, until it comes to one of them. The year of the last
# step is not yet the resting one: the next is.
def rest_down_to(full, held, year):
    rule = row_rule(full, year)
    first = applied(rule, held)
    if first == held:
        return 1
    if rule[0] == 0:
        return 2
    end = rule[2] if rule[0] > 0 else rule[1]
    step = abs(rule[0])
    return 2 + (abs(end - first) + step - 1) // step


def rest_of(needs, heats, year):
    check_year(year)
    return max([rest_down_to(full, held, year) for full, held in zip(each_down_to(needs), each_down_to(heats))])


# The two depths between which the bed lies tell its heat, so no other is walked,
# and no longer than until both have come to rest.
def first_season(needs, heats, bed, year):
    check_bed(len(needs), bed)
    check_year(year)
    down = sum(heats[bed - 1:])
    above = sum(heats[bed:])
    full_down = sum(needs[bed - 1:])
    full_above = sum(needs[bed:])
    rules_down = [season_rule(full_down, season) for season in year]
    rules_above = [season_rule(full_above, season) for season in year]
    rest = max(rest_down_to(full_down, down, year), rest_down_to(full_above, above, year))
    for at_year in range(1, rest + 1):
        for place in range(len(year)):
            down = applied(rules_down[place], down)
            above = applied(rules_above[place], above)
            if down - above == needs[bed - 1]:
                return (True, at_year, place + 1)
    return (False, rest_of(needs, heats, year), 0)
