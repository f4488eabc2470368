"""What the numbers that are handed in may be."""


def is_team(number):
    return number == 0 or number == 1


def is_shirt(number):
    return 1 <= number <= 99


def are_shirts(numbers):
    return all([is_shirt(number) for number in numbers])


def all_different(numbers):
    return len(set(numbers)) == len(numbers)
