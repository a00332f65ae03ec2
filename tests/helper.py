"""Words to write networks, waves and calls with, for all the tests."""

from fractions import Fraction

from networktime.runs import answers


def element(kind, a=0, b=0, c=0, d=0, q=0):
    q = Fraction(q)
    return [kind, a, b, c, d, q.numerator, q.denominator]


def R(a, b, q):
    return element(0, a, b, q=q)


def C(a, b, q):
    return element(1, a, b, q=q)


def L(a, b, q):
    return element(2, a, b, q=q)


def M(x, y, q):
    return element(3, x, y, q=q)


def V(a, b):
    return element(4, a, b)


def I(a, b):
    return element(5, a, b)


def E(a, b, c, d, q):
    return element(6, a, b, c, d, q)


def G(a, b, c, d, q):
    return element(7, a, b, c, d, q)


def H(a, b, x, q):
    return element(8, a, b, x, q=q)


def F(a, b, x, q):
    return element(9, a, b, x, q=q)


def T(a, b, c, d, q):
    return element(10, a, b, c, d, q)


def O(a, b, c, d):
    return element(11, a, b, c, d)


def S(a, b, q):
    return element(12, a, b, q=q)


def D(a, b, q=0):
    return element(13, a, b, q=q)


def net(nodes, *parts):
    return [nodes] + [number for part in parts for number in part]


def wave(*points, period=0):
    """Numbers of a wave through points (time, value)."""
    numbers = [len(points)]
    for x in [period] + [x for point in points for x in point]:
        numbers += [Fraction(x).numerator, Fraction(x).denominator]
    return numbers


def flat(value):
    return wave((0, value))


def sampled(values, h=1):
    """A wave that has these values at 0, h, 2 h ..."""
    return wave(*[(k * Fraction(h), value) for k, value in enumerate(values)])


def begin(network, waves=()):
    return [1, len(network)] + list(network) + [len(waves)] + list(waves)


def start(rule=0, hn=1, hd=1, bits=64):
    return [2, rule, hn, hd, bits]


def step(n):
    return [3, n]


def now(what, k=0):
    return [4, what, k]


def is_on(k):
    return [5, k]


def kept(k):
    return [6, k]


def looks(nodes, parts):
    """Every call that tells something of a run, and those just behind the last node and the last element."""
    calls = [now(4)] + [now(0, node) for node in range(nodes + 2)]
    for k in range(len(parts) + 1):
        calls += [now(1, k), now(2, k), now(3, k), is_on(k), kept(k)]
    return calls


def told(*values):
    """The answer that tells these fractions."""
    return [0] + [x for value in values for x in (Fraction(value).numerator, Fraction(value).denominator)]


def ask(*calls):
    """The answers to the calls on one new object, a list each."""
    assert 1 <= len(calls) <= 100, len(calls)
    numbers = answers([number for call in calls for number in call])
    answered = []
    while numbers:
        answered.append(numbers[1:1 + numbers[0]])
        numbers = numbers[1 + numbers[0]:]
    return answered


def answer_last(*calls):
    return ask(*calls)[-1]


def watched(nodes, parts, waves, watch, values, h=1):
    """begin of a network whose steps can be made only while a voltage or a current has the told values.

    watch is a node, or ("i", an element). A copy of what is watched, and a wave with the values, have a node
    each, with diodes both ways between: off they hold for equal voltages alone, on they are never regular.
    """
    copy, wanted = nodes + 1, nodes + 2
    follower = H(copy, 0, watch[1], 1) if isinstance(watch, tuple) else E(copy, 0, watch, 0, 1)
    extra = [follower, V(wanted, 0), D(copy, wanted), D(wanted, copy)]
    return begin(net(nodes + 2, *parts, *extra), list(waves) + sampled(values, h))


def steps_with(nodes, parts, waves, watch, values, rule=0, h=1, bits=64, n=None):
    """How many steps are made while what is watched has the values, the first at the operating point.

    None if it doesn't even have the first.
    """
    h = Fraction(h)
    n = len(values) - 1 if n is None else n
    network = watched(nodes, parts, waves, watch, values, h)
    answered = ask(network, start(rule, h.numerator, h.denominator, bits), step(n))
    assert answered[0] == [0], answered
    return None if answered[1] == [-4] else answered[2][1]


def assert_course(test, nodes, parts, waves, watch, values, **how):
    """What is watched goes through just these values, and a step with any other can't be made."""
    test.assertEqual(steps_with(nodes, parts, waves, watch, values, **how), len(values) - 1)
    little = Fraction(1, 1000)
    for k in range(len(values)):
        for wrong in (values[k] - little, values[k] + little):
            bent = list(values[:k]) + [wrong] + list(values[k + 1:])
            made = steps_with(nodes, parts, waves, watch, bent, **how)
            test.assertEqual(made, None if k == 0 else k - 1)
