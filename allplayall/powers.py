"""Powers of two."""


def two_to_the(power):
    number = 1
    for step in range(power):
        number = number * 2
    return number
