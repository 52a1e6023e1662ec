"""What is kept: works, genus names, species names and acts."""


class Name:
    """What genus names and species names have in common."""

    def __init__(self, key, work, day, page):
        self.key = key
        self.work = work
        self.day = day
        self.page = page

    def is_out(self, d):
        return self.day <= d


class GenusName(Name):

    def __init__(self, key, work, day, page, gender, letters):
        Name.__init__(self, key, work, day, page)
        self.gender = gender
        self.letters = letters


class SpeciesName(Name):
    """Its forms lie in the order of the genders: masculine, feminine, neuter."""

    def __init__(self, key, work, day, page, first_genus, forms):
        Name.__init__(self, key, work, day, page)
        self.first_genus = first_genus
        self.forms = forms


class Act:
    """Its b is the x of status and advance, and 0 where only a is told."""

    def __init__(self, key, kind, work, day, a, b):
        self.key = key
        self.kind = kind
        self.work = work
        self.day = day
        self.a = a
        self.b = b


def act_order(act):
    return (act.day, act.key)


class Book:
    """Works are kept as their days; all but the acts lie in dicts by their keys."""

    def __init__(self):
        self.work_days = {}
        self.genera = {}
        self.species = {}
        self.acts = []

    def keep_work(self, key, day):
        self.work_days[key] = day

    def keep_genus(self, name):
        self.genera[name.key] = name

    def keep_species(self, name):
        self.species[name.key] = name

    def keep_act(self, act):
        # Acts may come in any order of days, but all who ask go through them from early to late.
        self.acts = sorted(self.acts + [act], key=act_order)

    def has_name(self, key):
        return key in self.genera or key in self.species

    def find_name(self, key):
        """The name of either kind that has this key, or None."""
        return self.genera.get(key, self.species.get(key))

    def all_names(self):
        return list(self.genera.values()) + list(self.species.values())

    def has_act(self, key):
        return any([act.key == key for act in self.acts])
