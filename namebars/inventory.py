"""The call told, which tells all that is kept."""


def told_row(row):
    return [len(row)] + row


def told_works(book):
    told = [len(book.work_days)]
    for key in sorted(book.work_days.keys()):
        told.extend([key, book.work_days[key]])
    return told


def told_genera(book):
    told = [len(book.genera)]
    for key in sorted(book.genera.keys()):
        name = book.genera[key]
        told.extend([key, name.work, name.page, name.gender])
        told.extend(told_row(name.letters))
    return told


def told_species(book):
    told = [len(book.species)]
    for key in sorted(book.species.keys()):
        name = book.species[key]
        told.extend([key, name.work, name.page, name.first_genus])
        for form in name.forms:
            told.extend(told_row(form))
    return told


def told_acts(book):
    told = [len(book.acts)]
    for act in book.acts:
        told.extend([act.key, act.kind, act.work, act.a, act.b])
    return told


def tell_all(book):
    return [0] + told_works(book) + told_genera(book) + told_species(book) + told_acts(book)
