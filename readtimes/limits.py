"""The ranges of the numbers that the calls take."""

LAST_GROUP = 15
LAST_CHANNEL = 63
LAST_TIME = 4611686018427387904
LEAST_PERIOD = 1000
DAY = 86400000000
MOST_READINGS = 16


def is_group(number):
    return 0 <= number <= LAST_GROUP


def is_channel(number):
    return 0 <= number <= LAST_CHANNEL


def is_time(number):
    return 0 <= number <= LAST_TIME


def is_gap(gap, burst, quick):
    # A burst of n readings has n - 1 gaps, so with one reading any gap from 1 on will do.
    return gap >= 1 and (burst - 1) * gap < quick


def are_settings(period, quick, phase, burst, gap, slack):
    if not LEAST_PERIOD <= period <= DAY:
        return False
    if not LEAST_PERIOD <= quick <= period:
        return False
    if not 0 <= phase < DAY:
        return False
    if not 1 <= burst <= MOST_READINGS:
        return False
    if not is_gap(gap, burst, quick):
        return False
    return 0 <= slack < quick
