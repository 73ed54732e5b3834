"""The calls: each takes a number of pairs and workings, and answers a list of whole numbers."""

MOST_PAIRS = 32
MOST_ACTS = 512
CROSS = 64
OVER = 128


def is_act(n, number):
    """Whether the number is a twist or a cross of n pairs."""
    if number < CROSS:
        return number < n
    # A cross takes the pair to its right too, so the last pair has none.
    return number - CROSS < n - 1


def left_place(act):
    """The left one of the two places at which the act is made."""
    if act < CROSS:
        return 2 * act
    return 2 * (act - CROSS) + 1


def out_of_bounds(n, a):
    """Whether there are too few or too many pairs, or too many acts."""
    return n < 1 or n > MOST_PAIRS or len(a) > MOST_ACTS


def first_wrong(n, a):
    """The place in a of the first number that is no act of n pairs; the length of a if there is none."""
    for place, number in enumerate(a):
        if not is_act(n, number):
            return place
    return len(a)


def refusal(n, workings):
    """The number of the first refusal that holds for the workings, or 0."""
    # The bounds go first: a list that is too long is refused for that, whatever it or another one holds.
    for working in workings:
        if out_of_bounds(n, working):
            return -1
    for working in workings:
        if first_wrong(n, working) < len(working):
            return -5
    return 0


def all_acts(n):
    """Every act of n pairs, the least number first."""
    return list(range(n)) + list(range(CROSS, CROSS + n - 1))


def change_places(threads, place):
    """Lets the threads at the place and at the one to its right change places."""
    moved = threads[place]
    threads[place] = threads[place + 1]
    threads[place + 1] = moved


def threads_behind(n, a):
    """The thread at each place behind the working a."""
    threads = list(range(2 * n))
    for act in a:
        change_places(threads, left_place(act))
    return threads


def ways_of(n, t, a):
    """For each crossing of thread t in the working a: the other thread's number, and OVER more where t goes over it."""
    threads = list(range(2 * n))
    ways = []
    for act in a:
        place = left_place(act)
        # At a cross the left one of the two threads goes over, at a twist the right one.
        crossed = act >= CROSS
        if threads[place] == t:
            ways.append(threads[place + 1] + (OVER if crossed else 0))
        elif threads[place + 1] == t:
            ways.append(threads[place] + (0 if crossed else OVER))
        change_places(threads, place)
    return ways


def rows_of(n, a):
    """For each place the acts of a that are made at it, the first one last, where it is taken off at once."""
    # Acts that touch meet in a row, and only they can't change places: the rows are the lace, whatever the working.
    rows = [[] for place in range(2 * n)]
    for act in reversed(a):
        place = left_place(act)
        rows[place].append(act)
        rows[place + 1].append(act)
    return rows


def is_first(rows, act):
    """Whether a working of the lace in the rows begins with the act: nothing that touches it stands ahead of it."""
    here = rows[left_place(act)]
    there = rows[left_place(act) + 1]
    # Slices, since a row may be empty.
    return here[-1:] == [act] and there[-1:] == [act]


def take_first(rows, act):
    """Takes the act, which is first, off the lace in the rows."""
    place = left_place(act)
    rows[place].pop()
    rows[place + 1].pop()


def shared_firsts(acts, laces):
    """Those of the acts with which each of the laces can begin."""
    found = []
    for act in acts:
        if all([is_first(rows, act) for rows in laces]):
            found.append(act)
    return found


def take_shared(n, laces):
    """Takes off the laces, each given in its rows, the longest beginning that all of them have; answers its form."""
    acts = all_acts(n)
    taken = []
    firsts = shared_firsts(acts, laces)
    while len(firsts) > 0:
        # Acts with which one lace can begin don't touch: whichever is taken, the others still can be. So the least one,
        # as the form asks.
        for rows in laces:
            take_first(rows, firsts[0])
        taken.append(firsts[0])
        firsts = shared_firsts(acts, laces)
    return taken


def have_a_place_in_common(rows, others):
    """Whether an act of the lace in the rows touches one of the lace in the others."""
    for row, other in zip(rows, others):
        if len(row) > 0 and len(other) > 0:
            return True
    return False


def form_of(n, a):
    """The form of the working a's lace."""
    return take_shared(n, [rows_of(n, a)])


def common_of(n, a, b):
    """The form of the common beginning of the laces of a and b."""
    return take_shared(n, [rows_of(n, a), rows_of(n, b)])


def right(n, a):
    """[0] if a is a working of n pairs, else the refusal; behind -5 the place of the first number that is no act."""
    refused = refusal(n, [a])
    if refused == -5:
        return [-5, first_wrong(n, a)]
    return [refused]


def ends(n, a):
    """[0] and the thread at each of the 2 n places behind the working a, or the refusal."""
    refused = refusal(n, [a])
    if refused != 0:
        return [refused]
    return [0] + threads_behind(n, a)


def thread(n, t, a):
    """[0] and the ways of thread t in the working a, or the refusal."""
    # A t that is no thread is refused like n, so ahead of a number that is no act.
    if t >= 2 * n:
        return [-1]
    refused = refusal(n, [a])
    if refused != 0:
        return [refused]
    return [0] + ways_of(n, t, a)


def form(n, a):
    """[0] and the form of the working a's lace, or the refusal."""
    refused = refusal(n, [a])
    if refused != 0:
        return [refused]
    return [0] + form_of(n, a)


def same(n, a, b):
    """[0, 1] if the workings a and b are the same lace, [0, 0] if they are not, or the refusal."""
    refused = refusal(n, [a, b])
    if refused != 0:
        return [refused]
    return [0, 1 if rows_of(n, a) == rows_of(n, b) else 0]


def common(n, a, b):
    """[0] and the form of the common beginning of the laces of a and b, or the refusal."""
    refused = refusal(n, [a, b])
    if refused != 0:
        return [refused]
    return [0] + common_of(n, a, b)


def left(n, a, b):
    """[0] and the form of what's left of b behind a, or the refusal: -6 if a is no beginning of b."""
    refused = refusal(n, [a, b])
    if refused != 0:
        return [refused]
    rows = rows_of(n, b)
    begun = take_shared(n, [rows_of(n, a), rows])
    # A beginning has nothing beyond the common one.
    if len(begun) < len(a):
        return [-6]
    return [0] + take_shared(n, [rows])


def joined(n, a, b):
    """[0] and the form of the joined one of a and b, or the refusal: -6 if there is none."""
    refused = refusal(n, [a, b])
    if refused != 0:
        return [refused]
    rows = rows_of(n, a)
    others = rows_of(n, b)
    begun = take_shared(n, [rows, others])
    if have_a_place_in_common(rows, others):
        return [-6]
    return [0] + form_of(n, begun + take_shared(n, [rows]) + take_shared(n, [others]))


def undone(n, a, b):
    """[0], how many acts of a are undone at least, and how many worked then, to come to b's lace, or the refusal."""
    refused = refusal(n, [a, b])
    if refused != 0:
        return [refused]
    # The acts that are never undone begin both laces, so no more than the common beginning can stay.
    begun = len(common_of(n, a, b))
    return [0, len(a) - begun, len(b) - begun]
