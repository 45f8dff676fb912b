"""The calls on frames, places and numbers, as the document's interface tells them.

Places are told in 64ths of a frame's place. Distances are compared by their
squares, so that no rounding comes in.
"""

SIDE = 64
HALF = 32
POINT_STEPS = (8, 24, 40, 56)

MOST_SIDE = 64
MOST_PLACES = 64
MOST_RADIUS = 4096
MOST_LEVEL = 65535
MOST_TIMES = 32
MOST_THINGS = 1024
MOST_WIDTH = 33554432
MOST_REACH = 512
# Shares of light are told in 256ths: this one is the whole of it.
MOST_SHARE = 256

# A doubling is 4096 of a power, and 752.6 thousandths of a magnitude.
MAGNITUDE_OVER = 7526
MAGNITUDE_UNDER = 40960
POWER_TURNS = 12

NOTHING = 4294967295

ACROSS = 0
RIGHT_BELOW = 1
DOWN = 2
LEFT_BELOW = 3


def frame_is_bad(w, h):
    """Whether a frame of w by h is out of range."""
    return w < 1 or w > MOST_SIDE or h < 1 or h > MOST_SIDE


def places_are_bad(xy):
    """Whether there are more places than may be."""
    return len(xy) > 2 * MOST_PLACES


def places_of(xy):
    """The places of xy, each across and down."""
    return [(xy[k], xy[k + 1]) for k in range(0, len(xy), 2)]


def point_gaps(k, at):
    """How far the points of column (or row) k are from at, squared."""
    return [(SIDE * k + step - at) ** 2 for step in POINT_STEPS]


def points_within(across, down, most):
    """How many of a place's points are no farther than most, all told as squares."""
    points = 0
    for dy in down:
        for dx in across:
            if dx + dy <= most:
                points += 1
    return points


def aperture(r, w, h, f, x, y):
    """The numbers and the points of the aperture about (x, y) with r."""
    across = [point_gaps(c, x) for c in range(w)]
    numbers = 0
    points = 0
    for q in range(h):
        down = point_gaps(q, y)
        for c in range(w):
            within = points_within(across[c], down, r * r)
            numbers += f[q * w + c] * within
            points += within
    return [numbers, points]


def middle_gap(k, at):
    """How far the middle of column (or row) k is from at, squared."""
    return (SIDE * k + HALF - at) ** 2


def ring(a, b, w, h, f, x, y):
    """The numbers of the places in the ring about (x, y) from a to b."""
    numbers = []
    for q in range(h):
        down = middle_gap(q, y)
        for c in range(w):
            gap = middle_gap(c, x) + down
            if gap > a * a and gap <= b * b:
                numbers.append(f[q * w + c])
    return numbers


def middle_one(numbers):
    """The middle one of some numbers, of two the lower, 0 of none."""
    if len(numbers) == 0:
        return 0
    return sorted(numbers)[(len(numbers) - 1) // 2]


def own(r, a, b, w, h, f, x, y):
    """The aperture's numbers about (x, y), for each of its points less the middle one of the ring."""
    opening = aperture(r, w, h, f, x, y)
    sky = middle_one(ring(a, b, w, h, f, x, y))
    return opening[0] - sky * opening[1]


def rounded(over, under):
    """The quotient's nearest whole number, of two as near the greater."""
    return (2 * over + under) // (2 * under)


def places_above(level, w, f):
    """The places with a number above the level: each its weight, and its middle across and down."""
    found = []
    for k, number in enumerate(f):
        if number > level:
            found.append((number - level, SIDE * (k % w) + HALF, SIDE * (k // w) + HALF))
    return found


def those_near(heap, r, x, y):
    """Those of a heap's weighed places whose middle is no farther than r from (x, y)."""
    most = r * r
    return [place for place in heap if (place[1] - x) ** 2 + (place[2] - y) ** 2 <= most]


def middle_by_weights(near):
    """The middle of some weighed places, of which there's at least one."""
    weights = sum([weight for weight, across, down in near])
    over_across = sum([weight * across for weight, across, down in near])
    over_down = sum([weight * down for weight, across, down in near])
    return [rounded(over_across, weights), rounded(over_down, weights)]


def middle_from(heap, r, m, x, y):
    """Where m times at most the middle by weights leads from (x, y), till it stays."""
    place = [x, y]
    for turn in range(m):
        near = those_near(heap, r, place[0], place[1])
        # Weights of 0 aren't in the heap: that none is near says that their sum is 0.
        if len(near) == 0:
            return [NOTHING, NOTHING]
        middle = middle_by_weights(near)
        if middle == place:
            return place
        place = middle
    return place


def widths(near, x, y):
    """The widths about (x, y) of some weighed places, of which there's at least one."""
    weights = sum([weight for weight, across, down in near])
    over_across = sum([weight * (across - x) ** 2 for weight, across, down in near])
    over_down = sum([weight * (down - y) ** 2 for weight, across, down in near])
    over_both = sum([weight * (across - x) * (down - y) for weight, across, down in near])
    return [rounded(over_across, weights), rounded(over_down, weights), rounded(over_both, weights)]


def moments_at(heap, r, x, y):
    """The widths about (x, y) of what's near it, as words."""
    near = those_near(heap, r, x, y)
    if len(near) == 0:
        return [NOTHING, NOTHING, NOTHING]
    return [width % 2 ** 32 for width in widths(near, x, y)]


def signed(word):
    """What a word tells: those from 2 ** 31 on stand for numbers below 0."""
    return word - 2 ** 32 if word >= 2 ** 31 else word


def things_of(l):
    """The three widths of each thing of l."""
    return [(signed(l[k]), signed(l[k + 1]), signed(l[k + 2])) for k in range(0, len(l), 3)]


def widths_are_bad(a, b, c):
    """Whether one of a thing's widths is out of range."""
    return a < 0 or a > MOST_WIDTH or b < 0 or b > MOST_WIDTH or abs(c) > MOST_WIDTH


def root(n):
    """The greatest whole number whose square isn't above n, for n below 2 ** 64."""
    found = 0
    step = 2 ** 31
    while step > 0:
        if (found + step) ** 2 <= n:
            found += step
        step //= 2
    return found


def way_of_long_axis(a, b, c):
    """Which way the long axis of widths a, b, c goes."""
    if abs(2 * c) < abs(a - b):
        return ACROSS if b < a else DOWN
    return RIGHT_BELOW if c >= 0 else LEFT_BELOW


def shape(a, b, c):
    """The long axis and the short one of widths a, b, c as words, and which way the long one goes."""
    apart = root((a - b) ** 2 + 4 * c * c)
    return [a + b + apart, (a + b - apart) % 2 ** 32, way_of_long_axis(a, b, c)]


def points_near(most, many, at):
    """Of the points in many columns (or rows), those no farther than most from at: which column, how far squared."""
    found = []
    for k in range(many):
        for gap in point_gaps(k, at):
            if gap <= most * most:
                found.append((k, gap))
    return found


def light_near(most, w, h, f, x, y):
    """The points within most of (x, y): each how far it is, squared, and its place's number."""
    across = points_near(most, w, x)
    light = []
    for q, dy in points_near(most, h, y):
        for c, dx in across:
            if dx + dy <= most * most:
                light.append((dx + dy, f[q * w + c]))
    return light


def radius_that_reaches(gap):
    """The least whole radius that reaches as far as gap, which is told as a square."""
    below = root(gap)
    return below if below * below == gap else below + 1


def least_radius(light, k):
    """The least radius within which at least k 256ths of the light are."""
    need = k * sum([number for gap, number in light])
    have = 0
    reach = 0
    # From the nearest point on: the one that fills the need says how far the radius must reach.
    for gap, number in sorted(light):
        if have >= need:
            break
        have += MOST_SHARE * number
        reach = gap
    return radius_that_reaches(reach)


def power(n):
    """The power of n, which is above 0: the whole part of 4096 times its logarithm to two, as near as 30 bits tell."""
    e = n.bit_length() - 1
    m = n
    while m < 2 ** 30:
        m *= 2
    while m >= 2 ** 31:
        m //= 2
    for turn in range(POWER_TURNS):
        q = m * m // 2 ** 30
        if q >= 2 ** 31:
            e = 2 * e + 1
            m = q // 2
        else:
            e = 2 * e
            m = q
    return e


def magnitude(a, b):
    """By how many thousandths of a magnitude a is fainter than b."""
    return rounded((power(b) - power(a)) * MAGNITUDE_OVER, MAGNITUDE_UNDER)


def ap_aperture(r, w, h, f, xy):
    """0, then for each place its aperture's numbers and points; or -2 alone."""
    if r > MOST_RADIUS or frame_is_bad(w, h) or places_are_bad(xy):
        return [-2]
    answer = [0]
    for x, y in places_of(xy):
        answer.extend(aperture(r, w, h, f, x, y))
    return answer


def ap_ring(a, b, w, h, f, xy):
    """0, then for each place how many places its ring has and their middle one; or -2 alone."""
    if a > MOST_RADIUS or b > MOST_RADIUS or frame_is_bad(w, h) or places_are_bad(xy):
        return [-2]
    answer = [0]
    for x, y in places_of(xy):
        numbers = ring(a, b, w, h, f, x, y)
        answer.append(len(numbers))
        answer.append(middle_one(numbers))
    return answer


def ap_own(r, a, b, w, h, f, xy):
    """0, then for each place what its aperture has above the ring's sky; or -2 alone."""
    if r > MOST_RADIUS or a > MOST_RADIUS or b > MOST_RADIUS or frame_is_bad(w, h) or places_are_bad(xy):
        return [-2]
    answer = [0]
    for x, y in places_of(xy):
        answer.append(own(r, a, b, w, h, f, x, y) % 2 ** 64)
    return answer


def ap_middle(level, r, m, w, h, f, xy):
    """0, then for each place the middle that it comes to, across and down; or -2 alone."""
    if level > MOST_LEVEL or r > MOST_RADIUS or m > MOST_TIMES or frame_is_bad(w, h) or places_are_bad(xy):
        return [-2]
    heap = places_above(level, w, f)
    answer = [0]
    for x, y in places_of(xy):
        answer.extend(middle_from(heap, r, m, x, y))
    return answer


def ap_moments(level, r, w, h, f, xy):
    """0, then for each place the three widths about it; or -2 alone."""
    if level > MOST_LEVEL or r > MOST_RADIUS or frame_is_bad(w, h) or places_are_bad(xy):
        return [-2]
    heap = places_above(level, w, f)
    answer = [0]
    for x, y in places_of(xy):
        answer.extend(moments_at(heap, r, x, y))
    return answer


def ap_shape(l):
    """0, then for each three widths the long axis, the short one and which way; or -2 or -3 alone."""
    if len(l) > 3 * MOST_THINGS:
        return [-2]
    answer = [0]
    for a, b, c in things_of(l):
        if widths_are_bad(a, b, c):
            return [-3]
        answer.extend(shape(a, b, c))
    return answer


def ap_radius(most, k, w, h, f, xy):
    """0, then for each place the least radius with k 256ths of the light that's within most; or -2 alone."""
    if most > MOST_REACH or k > MOST_SHARE or frame_is_bad(w, h) or places_are_bad(xy):
        return [-2]
    answer = [0]
    for x, y in places_of(xy):
        answer.append(least_radius(light_near(most, w, h, f, x, y), k))
    return answer


def ap_magnitude(a, b):
    """0, then for each two numbers how much fainter a is than b, as words; or -2 or -3 alone."""
    if len(a) > MOST_THINGS or len(b) > MOST_THINGS:
        return [-2]
    if 0 in a or 0 in b:
        return [-3]
    return [0] + [magnitude(one, other) % 2 ** 32 for one, other in zip(a, b)]


def ap_power(l):
    """0, then the numbers' powers; or -2 or -3 alone."""
    if len(l) > MOST_THINGS:
        return [-2]
    if 0 in l:
        return [-3]
    return [0] + [power(n) for n in l]


def ap_root(l):
    """0, then the numbers' whole roots; or -2 alone."""
    if len(l) > MOST_THINGS:
        return [-2]
    return [0] + [root(n) for n in l]
