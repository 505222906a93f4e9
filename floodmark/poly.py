"""Polyhedra: sets of points that conditions and equations, or points and directions, describe.

A polyhedron is a tuple (n, equations, facets). Its cone consists of the vectors of length n + 1
for which these hold and whose item 0 is at least 0.
"""

from floodmark.cone import dual
from floodmark.errors import OutOfRange
from floodmark.vectors import dot, echelon, fraction, is_less, placed, primitive, reduced

MOST_VARIABLES = 8


def check_variables(n):
    """Raise OutOfRange if there are no polyhedra in n variables."""
    if n < 0 or n > MOST_VARIABLES:
        raise OutOfRange("a polyhedron has from 0 to 8 variables")


def front(n):
    """Return the condition that item 0 of a vector of length n + 1 is at least 0."""
    return [1] + [0] * n


def generators_of(n, conditions, equations):
    """Return the tuple (points, rays, lines) of what satisfies the conditions and equations.

    If no point satisfies them, there are no points; rays and lines mean nothing then.
    """
    lines, found = dual(list(equations), list(conditions) + [front(n)], n + 1)
    points = [ray for ray in found if ray[0] > 0]
    rays = [ray for ray in found if ray[0] == 0]
    return points, rays, lines


def level_bits(condition, rays):
    """Return the bits that tell with which of the rays the condition has the dot product 0."""
    bits = 0
    bit = 1
    for ray in rays:
        if dot(condition, ray) == 0:
            bits += bit
        bit *= 2
    return bits


def widest(faces):
    """Return in ascending order the conditions whose bits are not a part of other bits."""
    found = []
    for condition, bits in faces.items():
        wider = [other for other in faces.values() if (bits & other) == bits and bits != other]
        if not wider:
            found.append(list(condition))
    return sorted(found)


def equations_and_facets(conditions, equations, rays):
    """Return the equations and facets of the cone of the conditions and equations.

    The rays are those of this cone. Each of its facets is where one of the conditions is 0,
    so the facets are chosen among the conditions; computing them from the rays is much slower.
    """
    every = level_bits([0] * len(conditions[0]), rays)
    bits_of = [level_bits(condition, rays) for condition in conditions]
    always = [condition for condition, bits in zip(conditions, bits_of) if bits == every]
    rows = echelon(list(equations) + always)
    faces = {}
    for condition, bits in zip(conditions, bits_of):
        if bits != every:
            faces[tuple(reduced(condition, rows))] = bits
    return rows, widest(faces)


def without_front(n, equations, facets):
    """Return the representation of a polyhedron from the equations and facets of its cone."""
    return n, equations, [facet for facet in facets if facet != front(n)]


def polyhedron(n, conditions, equations=()):
    """Return the polyhedron of the points at which all these hold, or None if there is none."""
    check_variables(n)
    points, rays, _ = generators_of(n, conditions, equations)
    if not points:
        return None
    rows, facets = equations_and_facets(list(conditions) + [front(n)], equations, points + rays)
    return without_front(n, rows, facets)


def generators(region):
    """Return the tuple (points, rays, lines) of a polyhedron."""
    n, equations, facets = region
    return generators_of(n, facets, equations)


def spanned(n, points, rays=(), lines=()):
    """Return the polyhedron with these generators, of which at least one is a point."""
    check_variables(n)
    if not points:
        raise OutOfRange("a polyhedron has at least one point")
    equations, facets = dual(list(lines), list(points) + list(rays), n + 1)
    return without_front(n, equations, facets)


def has_point(region, point):
    """Return True if the polyhedron contains the point, or its cone the vector."""
    _, equations, facets = region
    for equation in equations:
        if dot(equation, point) != 0:
            return False
    for facet in facets:
        if dot(facet, point) < 0:
            return False
    return True


def spanning_vectors(region):
    """Return vectors of which each vector of the cone of a polyhedron is a sum of multiples."""
    points, rays, lines = generators(region)
    return points + rays + lines + [[-item for item in line] for line in lines]


def contains(region, vectors):
    """Return True if the cone of the polyhedron contains all of the vectors, otherwise False."""
    for vector in vectors:
        if not has_point(region, vector):
            return False
    return True


def includes(region, other):
    """Return True if the polyhedron contains all points of the other one, otherwise False."""
    return contains(region, spanning_vectors(other))


def meet(region, other):
    """Return the polyhedron of the points that both contain, or None."""
    n, equations, facets = region
    _, more_equations, more_facets = other
    return polyhedron(n, facets + more_facets, equations + more_equations)


def hull(region, other):
    """Return the smallest polyhedron that contains both."""
    points, rays, lines = generators(region)
    more_points, more_rays, more_lines = generators(other)
    return spanned(region[0], points + more_points, rays + more_rays, lines + more_lines)


def mapped(vectors, rows):
    """Return the vectors that the rows, taken as coordinates, give for the vectors."""
    return [primitive(vector[:1] + [dot(row, vector) for row in rows]) for vector in vectors]


def image_of(n, conditions, equations, rows):
    """Return the image under the rows of all points at which all these hold, or None."""
    points, rays, lines = generators_of(n, conditions, equations)
    if not points:
        return None
    return spanned(len(rows), mapped(points, rows), mapped(rays, rows), mapped(lines, rows))


def image(region, rows):
    """Return the polyhedron of the points whose coordinates the rows give for a point."""
    n, equations, facets = region
    return image_of(n, facets, equations, rows)


def extended(region, directions):
    """Return the sums of a point of the polyhedron and multiples of the directions."""
    points, rays, lines = generators(region)
    return spanned(region[0], points, rays + list(directions), lines)


def product(region, other):
    """Return the polyhedron of the points of one, each followed by each point of the other."""
    n, equations, facets = region
    m, more_equations, more_facets = other
    check_variables(n + m)
    # Rows of one are 0 in the columns of the other, so they stay reduced, and all are needed.
    rows = [placed(row, 0, m) for row in equations] + [placed(row, n, 0) for row in more_equations]
    both = [placed(row, 0, m) for row in facets] + [placed(row, n, 0) for row in more_facets]
    return n + m, rows, sorted(both)


def least_value(region, condition):
    """Return the least value of a condition, a fraction, or None if there is no lower bound."""
    points, rays, lines = generators(region)
    for line in lines:
        if dot(condition, line) != 0:
            return None
    for ray in rays:
        if dot(condition, ray) < 0:
            return None
    least = None
    for point in points:
        value = fraction(dot(condition, point), point[0])
        if least is None or is_less(value, least):
            least = value
    return least
