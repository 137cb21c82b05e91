"""What a number must be to be taken."""


def is_within(number, least, greatest):
    return least <= number and number <= greatest
