"""A ground, the deeds that are done to it, and what may be asked of it."""

from thawfront.beds import front_of, heat_down_to, thawed_beds
from thawfront.checks import check_amount, check_bed, check_beds, check_deed, check_heats, check_laid, check_need
from thawfront.checks import check_room_for_deed, check_season, check_something_done, check_times, check_year
from thawfront.rules import row_rule, year_rule
from thawfront.years import first_season, heats_at, passed_until, rest_of


def amount_of(kind, seasons):
    return sum([season[1] for season in seasons if season[0] == kind])


def amount_until(kind, year, at_year, season):
    return (at_year - 1) * amount_of(kind, year) + amount_of(kind, year[:season])


# A stage is how the ground lay at one moment. It is never changed once it is
# made, so stages may share their needs.
def stage_of(needs, heats, found, taken):
    return {"needs": needs, "heats": heats, "found": found, "taken": taken}


def reached(stage, year, at_year, season):
    behind = passed_until(stage["needs"], stage["heats"], year, at_year, season)
    found = stage["found"] + amount_until("warm", year, at_year, season) - behind[1]
    taken = stage["taken"] + amount_until("cold", year, at_year, season) - behind[2]
    return (stage_of(stage["needs"], behind[0], found, taken), behind[1], behind[2])


# Every deed is taken for a year that comes so many times: a season alone for a
# year of that season, a bed laid on for no year at all.
def year_of(deed):
    if deed[0] == "years":
        return (list(deed[1]), deed[2])
    if deed[0] == "lay":
        return ([], 0)
    return ([deed], 1)


class Ground:
    # The stages are one more than the kept deeds: the first is the ground as it
    # was made, and each deed has the stage behind it.
    def __init__(self, needs, heats=None):
        check_beds(needs)
        for need in needs:
            check_need(need)
        begun = [0] * len(needs) if heats is None else list(heats)
        check_heats(needs, begun)
        self.kept = []
        self.stages = [stage_of(list(needs), begun, 0, 0)]

    def last_stage(self):
        return self.stages[-1]

    def stage_within(self, deed, at_year, season):
        check_deed(1, len(self.kept), deed)
        again = year_of(self.kept[deed - 1])
        check_season(again[1], len(again[0]), at_year, season)
        return reached(self.stages[deed - 1], again[0], at_year, season)[0]

    def stage_balance(self, stage):
        return (sum(self.stages[0]["heats"]), stage["found"], stage["taken"])

    def full_down_to(self, bed):
        needs = self.last_stage()["needs"]
        check_bed(len(needs), bed)
        return sum(needs[bed - 1:])

    def keep(self, deed, stage):
        self.kept.append(deed)
        self.stages.append(stage)

    def pass_seasons(self, deed):
        check_room_for_deed(len(self.kept))
        again = year_of(deed)
        behind = reached(self.last_stage(), again[0], again[1], len(again[0]))
        self.keep(deed, behind[0])
        return (behind[1], behind[2])

    def warm(self, amount):
        check_amount(amount)
        return self.pass_seasons(("warm", amount))[0]

    def cold(self, amount):
        check_amount(amount)
        return self.pass_seasons(("cold", amount))[1]

    def years(self, year, times):
        check_year(year)
        check_times(times)
        return self.pass_seasons(("years", tuple(year), times))

    def lay(self, need):
        check_need(need)
        stage = self.last_stage()
        check_laid(len(stage["needs"]) - len(self.stages[0]["needs"]))
        check_room_for_deed(len(self.kept))
        needs = stage["needs"] + [need]
        self.keep(("lay", need), stage_of(needs, stage["heats"] + [0], stage["found"], stage["taken"]))
        return len(needs)

    def take_back(self):
        check_something_done(len(self.kept))
        self.stages.pop()
        return self.kept.pop()

    def needs(self):
        return list(self.last_stage()["needs"])

    def heats(self):
        return list(self.last_stage()["heats"])

    def need(self, bed):
        needs = self.last_stage()["needs"]
        check_bed(len(needs), bed)
        return needs[bed - 1]

    def heat(self, bed):
        heats = self.last_stage()["heats"]
        check_bed(len(heats), bed)
        return heats[bed - 1]

    def down_to(self, bed):
        return heat_down_to(self.last_stage()["heats"], bed)

    def is_thawed(self, bed):
        return self.heat(bed) == self.need(bed)

    def thawed(self):
        return thawed_beds(self.last_stage()["needs"], self.last_stage()["heats"])

    def front(self):
        return front_of(self.last_stage()["needs"], self.last_stage()["heats"])

    def balance(self):
        return self.stage_balance(self.last_stage())

    def deeds(self):
        return list(self.kept)

    def heats_behind(self, deed):
        check_deed(0, len(self.kept), deed)
        return list(self.stages[deed]["heats"])

    def heats_within(self, deed, at_year, season):
        return self.stage_within(deed, at_year, season)["heats"]

    def balance_within(self, deed, at_year, season):
        return self.stage_balance(self.stage_within(deed, at_year, season))

    def rule(self, bed, seasons):
        return row_rule(self.full_down_to(bed), seasons)

    def years_rule(self, bed, year, times):
        return year_rule(self.full_down_to(bed), year, times)

    def coming(self, year, at_year, season):
        return heats_at(self.last_stage()["needs"], self.last_stage()["heats"], year, at_year, season)

    def rest_year(self, year):
        return rest_of(self.last_stage()["needs"], self.last_stage()["heats"], year)

    def first_thawed(self, bed, year):
        return first_season(self.last_stage()["needs"], self.last_stage()["heats"], bed, year)
