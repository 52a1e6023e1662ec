"""A second, slow reading of the document: each answer is worked out anew from all that was told."""


class World:
    """Works as {key: day}, names as tuples by their keys, acts as (day, key, kind, work, a, b)."""

    def __init__(self, works, genera, species, acts):
        self.works = works
        self.genera = genera  # key: (work, page, gender, text)
        self.species = species  # key: (work, page, first genus, (masculine, feminine, neuter))
        self.acts = sorted(acts)

    def day(self, key):
        return self.works[(self.genera.get(key) or self.species[key])[0]]

    def out(self, d):
        return [key for key in [*self.genera, *self.species] if self.day(key) <= d]

    def latest(self, d, kind, a, otherwise):
        past = [act for act in self.acts if act[0] <= d and act[2] == kind and act[4] == a]
        return past[-1][5] if past else otherwise

    def status(self, d, a):
        return self.latest(d, 4, a, 0)

    def precedence(self, d, a):
        name = self.genera.get(a) or self.species[a]
        return [self.latest(d, 5, a, self.day(a)), self.day(a), name[0], name[1], a]

    def in_order(self, d, keys):
        return sorted(keys, key=lambda key: self.precedence(d, key))

    def counts(self, d, a):
        return self.day(a) <= d and self.status(d, a) != 2

    def sunk(self, d):
        into = dict.fromkeys(self.genera)
        for day, key, kind, work, a, b in self.acts:
            if day <= d and kind == 3:
                into[a] = None
            if day <= d and kind == 2:
                without = {**into, a: None}
                if self.chain(without, b)[-1] != a:
                    into[a] = b
        return into

    def chain(self, into, key):
        return [key] if into[key] is None else [key] + self.chain(into, into[key])

    def head(self, d, key):
        return self.chain(self.sunk(d), key)[-1]

    def home(self, d, a):
        return self.head(d, self.latest(d, 1, a, self.species[a][2]))

    def alike(self, a, b, genus):
        gender = self.genera[genus][2]
        return self.species[a][3][gender] == self.species[b][3][gender]

    def before(self, d, a, b):
        return self.precedence(d, a) < self.precedence(d, b)

    def told(self, d, kind, keys, a):
        fit = [key for key in keys if self.counts(d, key) and self.before(d, key, a)]
        return (kind, self.in_order(d, fit)[0]) if fit else None

    def bar(self, d, a, home=None):
        if a in self.genera:
            same = [key for key in self.genera if self.genera[key][3] == self.genera[a][3]]
            return self.told(d, 1, same, a) or (0, 0)
        first = self.species[a][2]
        same = [key for key in self.species if self.species[key][2] == first and self.alike(key, a, first)]
        home = home or self.home(d, a)
        return self.told(d, 2, same, a) or self.early(d, a) or self.by_home(d, a, home) or (0, 0)

    def by_home(self, d, a, home):
        others = [key for key in self.species if self.home(d, key) == home and self.alike(key, a, home)]
        return self.told(d, 4, others, a)

    def early(self, d, a):
        about = [act for act in self.acts if act[0] <= d and act[4] == a]
        lifts = [act for act in about if act[2] == 7]
        for act in about:
            if act[2] == 6 and act[0] < 95328 and not [lift for lift in lifts if lift > act] and self.judged(act):
                return (3, act[5])
        return None

    def judged(self, act):
        day, a, b = act[0], act[4], act[5]
        home = self.home(day, a)
        return (self.day(a) <= day and self.counts(day, b) and self.home(day, b) == home and self.alike(a, b, home)
                and self.before(day, b, a))

    def usable(self, d, a):
        return self.day(a) <= d and self.status(d, a) == 0 and self.bar(d, a) == (0, 0)

    def with_act(self, act):
        return World(self.works, self.genera, self.species, self.acts + [act])


def is_day(d):
    return 0 <= d <= 474814


def read_home(world, d, a):
    if a in world.genera:
        return [0, a, world.head(d, a)]
    return [0, world.latest(d, 1, a, world.species[a][2]), world.home(d, a)]


def read_text(world, d, a):
    if a in world.genera:
        return [0] + [ord(sign) for sign in world.genera[a][3]]
    home = world.genera[world.home(d, a)]
    return [0] + [ord(sign) for sign in home[3] + " " + world.species[a][3][home[2]]]


def read_group(world, d, g):
    if g in world.species:
        return [-6]
    head = world.head(d, g)
    return [0] + world.in_order(d, [a for a in world.species if world.day(a) <= d and world.home(d, a) == head])


def read_homonyms(world, d, a):
    out = world.out(d)
    if a in world.genera:
        found = [key for key in out if key in world.genera and world.genera[key][3] == world.genera[a][3]]
    else:
        found = [key for key in out if key in world.species and world.home(d, key) == world.home(d, a)
                 and world.alike(key, a, world.home(d, a))]
    return [0] + world.in_order(d, found)


def read_about_name(world, number, d, a):
    """The calls 10 to 17."""
    if not is_day(d):
        return [-9]
    if a not in world.out(d):
        return [-6]
    return {
        10: lambda: [world.status(d, a)],
        11: lambda: [0] + world.precedence(d, a),
        12: lambda: [int(world.usable(d, a))],
        13: lambda: [0, *world.bar(d, a)],
        14: lambda: read_home(world, d, a),
        15: lambda: read_text(world, d, a),
        16: lambda: read_group(world, d, a),
        17: lambda: read_homonyms(world, d, a),
    }[number]()


def read_what_if(world, d, a, g):
    if not is_day(d):
        return [-9]
    if a not in world.species or g not in world.genera or not {a, g} <= set(world.out(d)):
        return [-6]
    return [0, *world.bar(d, a, home=world.head(d, g))]


def read_unite(world, d, a, b):
    if not is_day(d):
        return [-9]
    if not {a, b} <= set(world.genera) & set(world.out(d)):
        return [-6]
    if a == b:
        return [-10]
    then = world.with_act((d, 10 ** 10, 2, 0, a, b))
    found = [0]
    for key in world.in_order(d, [key for key in world.out(d) if key in world.species]):
        if world.bar(d, key) == (0, 0) and then.bar(d, key) != (0, 0):
            found += [key, then.bar(d, key)[1]]
    return found


def read_barred(world, d):
    if not is_day(d):
        return [-9]
    found = [0]
    for key in world.in_order(d, world.out(d)):
        if world.bar(d, key) != (0, 0):
            found += [key, *world.bar(d, key)]
    return found


def read_first(world, d, keys):
    if not is_day(d):
        return [-9]
    fit = [key for key in set(keys) & set(world.out(d)) if world.usable(d, key)]
    return [world.in_order(d, fit)[0] if fit else 0]


def read_history(world, a, last_day):
    """Goes through every single day up to the last one that matters."""
    if a not in [*world.genera, *world.species]:
        return [-6]
    found = [0]
    for d in range(world.day(a), last_day + 1):
        if d == world.day(a) or world.bar(d, a) != world.bar(d - 1, a):
            found += [d, *world.bar(d, a)]
    return found


def read_told(world):
    found = [0, len(world.works)]
    for key in sorted(world.works):
        found += [key, world.works[key]]
    found.append(len(world.genera))
    for key in sorted(world.genera):
        found += [key, *world.genera[key][:3], len(world.genera[key][3]), *map(ord, world.genera[key][3])]
    found.append(len(world.species))
    for key in sorted(world.species):
        found += [key, *world.species[key][:3]]
        for form in world.species[key][3]:
            found += [len(form), *map(ord, form)]
    found.append(len(world.acts))
    for day, key, kind, work, a, b in world.acts:
        found += [key, kind, work, a, b]
    return found
