"""What the program asks of the things that are handed in."""

from bridgecrews.errors import BadTown

MOST_QUARTERS = 24
MOST_BRIDGES = 60


def is_quarter(number, quarters):
    return 0 <= number < quarters


def joins_two(one, other, quarters):
    return is_quarter(one, quarters) and is_quarter(other, quarters) and one != other


# It asks for the parts and not for a Town, so that whatever is made like a town can be refused likewise.
def check_town(quarters, bridges):
    if not 1 <= quarters <= MOST_QUARTERS:
        raise BadTown(f"a town has 1 to {MOST_QUARTERS} quarters")
    if len(bridges) > MOST_BRIDGES:
        raise BadTown(f"a town has at most {MOST_BRIDGES} bridges")
    for one, other in bridges:
        if not joins_two(one, other, quarters):
            raise BadTown("a bridge joins two different quarters of its town")
