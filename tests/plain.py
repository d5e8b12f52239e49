"""What the document's words say, gone through the long way with Python's sets."""

TOP = 2 ** 64 - 1
T_LOW = -(2 ** 63)
T_HIGH = 2 ** 63 - 1
WHEELS_REFUSED = (0, 65, 66, 100, 2 ** 32, 2 ** 63, TOP)


def members(n, a):
    return {x for x in range(n) if a // 2 ** x % 2 == 1}


def number_of(places):
    return sum(2 ** x for x in places)


def full(n):
    return 2 ** n - 1


def some_sets(n):
    """Sets of several sizes and shapes, the empty one and the whole wheel among them."""
    picked = {0, 1, full(n), 2 ** (n - 1), full(n) - 1}
    picked.add(number_of(range(0, n, 3)))
    picked.add(number_of(x for x in range(n) if x * x % 7 in (1, 2)))
    picked.add(0x9E3779B97F4A7C15 % 2 ** n)
    return sorted(picked)


def turned(n, t, a):
    return number_of({(x + t) % n for x in members(n, a)})


def flipped(n, t, a):
    return number_of({(t - x) % n for x in members(n, a)})


def scaled(n, m, a):
    return number_of({m * x % n for x in members(n, a)})


def sum_of(n, a, b):
    return number_of({(x + y) % n for x in members(n, a) for y in members(n, b)})


def check_repeatable(case, call, rows):
    """Answers are lists of plain ints; a changed answer and calls in between leave no trace."""
    firsts = []
    for row in rows:
        answer = call(*row)
        case.assertIs(list, type(answer))
        for value in answer:
            case.assertIs(int, type(value))
        firsts.append(list(answer))
        answer[0] = 98
        answer.append(99)
    kept = [tuple(row) for row in rows]
    case.assertEqual(firsts, [call(*row) for row in rows])
    case.assertEqual(firsts[::-1], [call(*row) for row in rows[::-1]])
    case.assertEqual(kept, [tuple(row) for row in rows])
