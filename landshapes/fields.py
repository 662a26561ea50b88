"""Whole numbers and doubles as they stand in a file's bytes."""


def whole_low(data, place):
    return data[place] | data[place + 1] << 8 | data[place + 2] << 16 | data[place + 3] << 24


def whole_high(data, place):
    return data[place] << 24 | data[place + 1] << 16 | data[place + 2] << 8 | data[place + 3]


# A double is kept by its 64 bits throughout: nothing of it can get lost.
def double_bits(data, place):
    return whole_low(data, place) | whole_low(data, place + 4) << 32


def doubles(data, place, many):
    return [double_bits(data, place + 8 * k) for k in range(many)]


def all_zero(data, start, end):
    return not any(data[start:end])
