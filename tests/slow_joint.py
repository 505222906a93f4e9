"""A slow and simple version of joint systems, in which the variables have names."""

from itertools import product as pairs

from floodmark.poly import polyhedron
from tests.slow import as_primitive, both_ways


class Slow:
    """Builds a joint system as point 32 says it, with a name for each variable."""

    def __init__(self, first, second):
        self.systems = (first, second)
        numbers = [range(system[0]) for system in self.systems]
        names = [[(side, place) for place in numbers[side] if place < self.systems[side][1]] for side in (0, 1)]
        others = [[(side, place) for place in numbers[side] if place >= self.systems[side][1]] for side in (0, 1)]
        self.names = names[0] + names[1] + others[0] + others[1]
        self.parameters = names[0] + names[1]
        self.others = others

    def row(self, front, items):
        """Return a condition from a dict with the factors of names."""
        return [front] + [items.get(name, 0) for name in self.names]

    def pair(self, front, old, new):
        return self.row(front, old) + self.row(0, new)[1:]

    def named(self, side, items):
        return {(side, place): item for place, item in enumerate(items)}

    def staying(self, names):
        rows = []
        for name in names:
            rows += both_ways([self.pair(0, {name: -1}, {name: 1})])
        return rows

    def locations(self):
        found = []
        for one, other in pairs(self.systems[0][2], self.systems[1][2]):
            invariant = [self.row(row[0], self.named(side, row[1:]))
                         for side, location in enumerate((one, other)) for row in location[0]]
            rates = []
            for rate, more in pairs(one[1], other[1]):
                coordinates = {**self.named(0, [item * more[0] for item in rate[1:]]),
                               **self.named(1, [item * rate[0] for item in more[1:]])}
                rates.append(as_primitive(self.row(rate[0] * more[0], coordinates)))
            found.append((invariant, rates))
        return found

    def relation(self, side, relation):
        n, fixed = self.systems[side][:2]
        rows = self.staying(self.parameters)
        for row in relation[2 * fixed:]:
            rows.append(self.pair(row[0], self.named(side, row[1:n + 1]), self.named(side, row[n + 1:])))
        return rows + self.staying(self.others[1 - side])

    def jumps(self):
        first, second = self.systems
        many = len(second[2])
        found = [(source * many + j, target * many + j, self.relation(0, relation))
                 for source, target, relation in first[3] for j in range(many)]
        for i in range(len(first[2])):
            for source, target, relation in second[3]:
                found.append((i * many + source, i * many + target, self.relation(1, relation)))
        return found

    def starts(self):
        found = []
        for (place, one), (more, other) in pairs(self.systems[0][4], self.systems[1][4]):
            rows = [[], []]
            for side, region in enumerate((one, other)):
                for kind in (0, 1):
                    rows[kind] += [self.row(row[0], self.named(side, row[1:])) for row in region[2 - kind]]
            found.append((place * len(self.systems[1][2]) + more, polyhedron(len(self.names), rows[0], rows[1])))
        return found

    def system(self):
        return len(self.names), len(self.parameters), self.locations(), self.jumps(), self.starts()
