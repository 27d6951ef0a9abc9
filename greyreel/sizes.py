"""The sizes and steps that may be."""


def is_size(number):
    return 16 <= number <= 256 and number % 16 == 0


def is_step(number):
    return 1 <= number <= 64


def are_sizes_and_step(wide, high, step):
    return is_size(wide) and is_size(high) and is_step(step)
