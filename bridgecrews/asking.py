"""What the program asks of the things that are handed in."""

from bridgecrews.errors import BadCount, BadQuarters, BadSome, BadTown, BadWages, TooLarge, TooSmall

MOST_QUARTERS = 24
MOST_BRIDGES = 60
MOST_CREWS = 60


def is_quarter(number, quarters):
    return 0 <= number < quarters


def joins_two(one, other, quarters):
    return is_quarter(one, quarters) and is_quarter(other, quarters) and one != other


def rises(numbers):
    return all([one < other for one, other in zip(numbers, numbers[1:])])


# Bridges and quarters are both counted from nought, so one question serves for some of either.
def rises_below(numbers, count):
    return rises(numbers) and all([0 <= number < count for number in numbers])


def put_together(lists):
    together = []
    for numbers in lists:
        together.extend(numbers)
    return together


def each_once(lists):
    met = put_together(lists)
    return len(set(met)) == len(met)


# Parts and huddles are told alike; they differ in how few quarters will do for one of them.
def are_groups(groups, quarters, fewest):
    for group in groups:
        if len(group) < fewest or not rises_below(group, quarters):
            return False
    return each_once(groups) and rises([group[0] for group in groups])


# It asks for the parts and not for a Town, so that whatever is made like a town can be refused likewise.
# So do the questions below.
def check_town(quarters, bridges):
    if not 1 <= quarters <= MOST_QUARTERS:
        raise BadTown(f"a town has 1 to {MOST_QUARTERS} quarters")
    if len(bridges) > MOST_BRIDGES:
        raise BadTown(f"a town has at most {MOST_BRIDGES} bridges")
    for one, other in bridges:
        if not joins_two(one, other, quarters):
            raise BadTown("a bridge joins two different quarters of its town")


def check_some(some, bridges):
    if not rises_below(some, len(bridges)):
        raise BadSome("some bridges or streets are a rising list of their numbers")


def check_some_quarters(some, quarters):
    if len(some) == 0 or not rises_below(some, quarters):
        raise BadQuarters("some quarters are a rising list of one or more of their numbers")


def check_quarter(number, quarters):
    if not is_quarter(number, quarters):
        raise BadQuarters("there is no such quarter")


def check_crews(crews):
    if not 1 <= crews <= MOST_CREWS:
        raise BadCount(f"there are 1 to {MOST_CREWS} crews")


def are_amounts(numbers, count):
    return len(numbers) == count and all([0 <= number <= 10 ** 60 for number in numbers])


def check_wages(wages, bridges):
    if not are_amounts(wages, len(bridges)):
        raise BadWages("wages are whole numbers from 0 to 10 ** 60, one for each bridge")


def check_not_alone(quarters):
    if quarters < 2:
        raise TooSmall("this is told for two quarters or more")


# How large a town may be differs with what is asked of it, so both bounds are handed in.
def check_not_above(quarters, bridges, most_quarters, most_bridges):
    if quarters > most_quarters or len(bridges) > most_bridges:
        raise TooLarge(f"this is told for at most {most_quarters} quarters and {most_bridges} bridges")
