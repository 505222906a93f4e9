"""The generators of cones, by the method of double description.

The conditions are added one by one. Meanwhile a ray is kept as a tuple (vector, tight): the
bits of tight tell with which of the conditions so far the vector has the dot product 0.
"""

from floodmark.vectors import combined, dot, echelon, primitive, reduced


def unit_vectors(size):
    """Return lines that span the whole space."""
    return [[1 if column == place else 0 for column in range(size)] for place in range(size)]


def levelled(vector, along, condition):
    """Return the vector moved along a direction, or back, to where its dot product is 0."""
    # The dot product of the direction is positive, so the vector gets a positive factor.
    return primitive(combined(dot(along, condition), vector, -dot(vector, condition), along))


def split_lines(lines, condition):
    """Return a direction of the lines with a positive dot product, or None, and lines with 0."""
    for place in range(len(lines)):
        product = dot(lines[place], condition)
        if product != 0:
            along = lines[place] if product > 0 else [-item for item in lines[place]]
            others = lines[:place] + lines[place + 1:]
            return along, [levelled(line, along, condition) for line in others]
    return None, lines


def split_rays(rays, condition, bit):
    """Return the rays with a positive dot product, those with 0, and those with a negative one."""
    above, level, below = [], [], []
    for ray, tight in rays:
        product = dot(ray, condition)
        if product > 0:
            above.append((ray, tight))
        elif product < 0:
            below.append((ray, tight))
        else:
            level.append((ray, tight | bit))
    return above, level, below


def share_an_edge(rays, common, least):
    """Return True if just two of the rays have the dot product 0 with all common conditions."""
    # Counting the conditions first is no other test; it saves most of the slower ones.
    if f"{common:b}".count("1") < least:
        return False
    many = 0
    for _, tight in rays:
        if (tight & common) == common:
            many += 1
            if many > 2:
                return False
    return True


def cut_rays(rays, condition, bit, least):
    """Return the rays of the part of a cone in which one more condition holds."""
    above, level, below = split_rays(rays, condition, bit)
    for low, low_tight in below:
        for high, high_tight in above:
            common = low_tight & high_tight
            # Between rays that share no edge, the boundary has no ray that is needed.
            if share_an_edge(rays, common, least):
                level.append((levelled(low, high, condition), common | bit))
    return above + level


def dual(equations, conditions, size):
    """Return the tuple (lines, rays) of the generators of a cone."""
    lines = unit_vectors(size)
    for equation in equations:
        _, lines = split_lines(lines, equation)
    dimension = len(lines)
    rays = []
    bit = 1
    for condition in conditions:
        along, lines = split_lines(lines, condition)
        if along is None:
            # On an edge, all but 2 dimensions and the lines are taken by conditions.
            rays = cut_rays(rays, condition, bit, dimension - len(lines) - 2)
        else:
            rays = [(levelled(ray, along, condition), tight | bit) for ray, tight in rays]
            # A line has the dot product 0 with all earlier conditions: all lower bits are set.
            rays.append((along, bit - 1))
        bit *= 2
    lines = echelon(lines)
    return lines, sorted([reduced(ray, lines) for ray, _ in rays])
