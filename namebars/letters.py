"""Which rows of bytes are texts of names."""

FEWEST_LETTERS = 2
MOST_LETTERS = 30


def is_capital(byte):
    return ord("A") <= byte <= ord("Z")


def is_small(byte):
    return ord("a") <= byte <= ord("z")


def has_name_length(row):
    return FEWEST_LETTERS <= len(row) <= MOST_LETTERS


def is_genus_text(row):
    return has_name_length(row) and is_capital(row[0]) and all([is_small(byte) for byte in row[1:]])


def is_form(row):
    return has_name_length(row) and all([is_small(byte) for byte in row])
