"""One map behind another, and what becomes of the points when a map is done again and again."""

MOST_POINTS = 10


def is_map(a):
    if len(a) < 1 or len(a) > MOST_POINTS:
        return False
    return all([point < len(a) for point in a])


def stay(size):
    return list(range(size))


def then(a, b):
    return [b[point] for point in a]


def power(k, a):
    done = stay(len(a))
    doubled = a
    left = k
    # k may be near 2^32: a doubling for each of its binary digits, not a step for each time.
    while left > 0:
        if left % 2 == 1:
            done = then(done, doubled)
        doubled = then(doubled, doubled)
        left = left // 2
    return done


def ends(a):
    first_times = {}
    now = stay(len(a))
    times = 0
    while tuple(now) not in first_times:
        first_times[tuple(now)] = times
        now = then(now, a)
        times = times + 1
    start = first_times[tuple(now)]
    return [start, times - start]


def rest(a):
    now = a
    while then(now, now) != now:
        now = then(now, a)
    return now


def image(a):
    return sorted(set(a))


def kernel(a):
    return [a.index(goal) for goal in a]


def core(a):
    # A power that is itself when done twice keeps just the points that come back, and moves all others to them.
    return image(rest(a))


def steps(a):
    home = core(a)
    return [steps_home(a, home, point) for point in range(len(a))]


def steps_home(a, home, point):
    now = point
    count = 0
    while now not in home:
        now = a[now]
        count = count + 1
    return count
