"""Each refusal, looked at ahead of anything that is done."""

from thawfront.errors import BadAmount, BadBeds, BadHeat, BadNeed, BadTimes, BadYear
from thawfront.errors import NothingDone, TooManyDeeds, TooManyLaid, UnknownBed, UnknownDeed, UnknownSeason
from thawfront.sizes import MOST_AMOUNT, MOST_BEDS, MOST_DEEDS, MOST_LAID, MOST_NEED, MOST_SEASONS, MOST_TIMES


# The words of a refusal leave out the number that was handed in: it may have
# more digits than Python is willing to write.
def check_bed(count, bed):
    if bed < 1 or bed > count:
        raise UnknownBed(f"the beds are numbered from 1 to {count}")


def check_deed(least, count, deed):
    if deed < least or deed > count:
        raise UnknownDeed(f"a deed's number is here from {least} to {count}")


def check_beds(needs):
    if len(needs) < 1 or len(needs) > MOST_BEDS:
        raise BadBeds(f"a ground is made of 1 to {MOST_BEDS} beds")


def check_need(need):
    if need < 1 or need > MOST_NEED:
        raise BadNeed(f"a need is from 1 to {MOST_NEED}")


def check_heats(needs, heats):
    if len(heats) != len(needs):
        raise BadHeat("there are as many heats as needs")
    for need, heat in zip(needs, heats):
        if heat < 0 or heat > need:
            raise BadHeat("a heat is from 0 to its bed's need")


def check_amount(amount):
    if amount < 0 or amount > MOST_AMOUNT:
        raise BadAmount(f"an amount is from 0 to {MOST_AMOUNT}")


def check_year(year):
    if len(year) < 1 or len(year) > MOST_SEASONS:
        raise BadYear(f"a year has 1 to {MOST_SEASONS} seasons")
    for season in year:
        check_amount(season[1])


def check_times(times):
    if times < 1 or times > MOST_TIMES:
        raise BadTimes(f"a count of times is from 1 to {MOST_TIMES}")


def check_season(years, seasons, at_year, season):
    if at_year < 1 or at_year > years:
        raise UnknownSeason(f"the years are counted from 1 to {years}")
    if season < 1 or season > seasons:
        raise UnknownSeason(f"the seasons of a year are counted from 1 to {seasons}")


def check_laid(count):
    if count >= MOST_LAID:
        raise TooManyLaid(f"at most {MOST_LAID} laid beds are there at once")


def check_room_for_deed(count):
    if count >= MOST_DEEDS:
        raise TooManyDeeds(f"at most {MOST_DEEDS} deeds are kept at once")


def check_something_done(count):
    if count == 0:
        raise NothingDone("no deed is kept that could be taken back")
