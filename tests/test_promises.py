"""E1 to E4 over many drawn patterns and things; and each answer against one found by trying everything."""

import itertools
import random
import re
import unittest

from claimwithin.desk import answers
from tests.helper import (
    ABOVE, DRAWN_WORDS, LINK_NAMES, TERM_NAMES, Made, claim, closed, drawn, every, has_way, is_clash, least, pattern, run, same, shown,
    size, some, thing, under, within, words,
)


def drawn_span(source):
    lo = source.randint(0, 7)
    return (lo, min(9, lo + source.choice((-1, 0, 2, 5, 9, 9, 9))))


def drawn_pattern(source, how_many):
    """A pattern; seldom void."""
    chance = source.choice((0.1, 0.2, 0.3))
    made = drawn(source, how_many, drawn_span, chance)
    while is_void(made) and source.random() < 0.9:
        made = drawn(source, how_many, drawn_span, chance)
    made.only = source.random() < 0.3
    return made


def weakened(source, made):
    """A pattern that asks for less, most often: its elements in another order, some of what they ask for left out."""
    order = source.sample(range(len(made.kinds)), len(made.kinds))
    if len(order) > 1 and source.random() < 0.3:
        order.pop()
    kinds = [some(source, made.kinds[old], 0.7) for old in order]
    amounts = []
    for old in order:
        kept = some(source, sorted(made.amounts[old]), 0.8)
        amounts.append({m: shifted(source, made.amounts[old][m]) for m in kept})
    joins = {}
    for p, q in itertools.product(range(len(order)), repeat=2):
        joins[(p, q)] = some(source, made.joins[(order[p], order[q])], 0.7)
    new = Made(kinds, amounts, joins, source.random() < (0.6 if made.only else 0.25))
    if not new.only and len(kinds) < 5 and source.random() < 0.2:
        new = with_bare(new)
    return new


def with_bare(made):
    """With one bare element, or part, more."""
    how_many = len(made.kinds) + 1
    joins = {pair: made.joins.get(pair, []) for pair in itertools.product(range(how_many), repeat=2)}
    return Made(made.kinds + [[]], made.amounts + [{}], joins, made.only)


def shifted(source, span):
    """The range as it is, one half of it, or a wider one."""
    middle = (span[0] + span[1]) // 2
    return source.choice((span, (span[0], middle), (middle + 1, span[1]), (0, 9), (span[0] - 1, span[1])))


def strengthened(source, made):
    """A thing that falls under the pattern: a least one with more kinds, other values, more joins and, if it's open, more parts."""
    kinds = []
    for told in made.kinds:
        more = sorted(set(told) | set(some(source, TERM_NAMES, 0.3)), key=TERM_NAMES.index)
        kinds.append(list(told) if is_clash(more) else more)
    amounts = []
    for spans in made.amounts:
        values = {m: source.randint(0, 9) for m in some(source, "mn", 0.3)}
        values.update({m: source.choice((span[0], span[1], source.randint(*span))) for m, span in spans.items()})
        amounts.append(values)
    joins = {}
    for pair, links in made.joins.items():
        joins[pair] = sorted(set(links) | set(some(source, LINK_NAMES, 0.1)), key=LINK_NAMES.index)
    new = Made(kinds, amounts, joins)
    for bare in range(0 if made.only else source.choice((0, 0, 1, 2, 8 - len(kinds)))):
        new = with_bare(new)
    return new


def is_void(made):
    return any(map(is_clash, made.kinds)) or any(lo > hi for spans in made.amounts for lo, hi in spans.values())


def cuts_by_trying(m, span, others):
    lo, hi = span
    found = {lo}
    for value in range(lo + 1, hi + 1):
        if any(m in spans and value in (spans[m][0], spans[m][1] + 1) for other in others for spans in other.amounts):
            found.add(value)
    return sorted(found)


def least_things(made, others):
    """The least things of a pattern that isn't void, in order."""
    places = [(element, m) for element, spans in enumerate(made.amounts) for m in sorted(spans)]
    cuts = [cuts_by_trying(m, made.amounts[element][m], others) for element, m in places]
    for how_many in range(len(made.kinds), len(made.kinds) + 1 if made.only else 9):
        for choice in itertools.product(*cuts):
            amounts = [{} for element in made.kinds]
            for (element, m), cut in zip(places, choice):
                amounts[element][m] = cut
            least_one = Made(made.kinds, amounts, made.joins)
            while len(least_one.kinds) < how_many:
                least_one = with_bare(least_one)
            yield least_one


def told_of(names, order):
    """Those of a closed set that no other one of it, closed, has."""
    whole = closed(names)
    return [name for name in order if name in whole and not any(name in ABOVE[other] for other in whole - {name})]


def shown_by_trying(made):
    plain = Made(
        [told_of(kinds, TERM_NAMES) for kinds in made.kinds], made.amounts,
        {pair: told_of(links, LINK_NAMES) for pair, links in made.joins.items()},
    )
    plain.names = "abcdefgh"[:len(made.kinds)]
    return plain.thing_text()


def size_by_trying(made, others):
    if is_void(made):
        return 0
    product = 1
    for spans in made.amounts:
        for m, span in spans.items():
            product *= len(cuts_by_trying(m, span, others))
    return product


def outside_by_trying(made, others):
    """The first least thing that falls under none of the others; None if there's none."""
    if not is_void(made):
        for least_one in least_things(made, others):
            if not any(has_way(least_one, other) for other in others):
                return least_one
    return None


def within_by_trying(made, others):
    """The answer of within."""
    if size_by_trying(made, others) > 256:
        return [-2]
    outside = outside_by_trying(made, others)
    return [1] if outside is None else shown(0, shown_by_trying(outside))


def drawn_question(source, most):
    """A pattern and others, some of which it may well lie within."""
    made = drawn_pattern(source, source.randint(1, most))
    others = []
    for other in range(source.choice((0, 1, 1, 2, 3, 4, 6, 8))):
        others.append(weakened(source, made) if source.random() < 0.85 else drawn_pattern(source, source.randint(1, most)))
    return made, others


class TryingTest(unittest.TestCase):
    def assert_as_tried(self, made, others):
        """Asks within, size and least; gives back what within answers, in one word."""
        numbers = list(range(1, len(others) + 1))
        calls = [words(DRAWN_WORDS), claim(made.claim_text())] + [claim(other.claim_text()) for other in others]
        told = run(*calls, within(0, numbers), size(0, numbers), least(0))[len(calls):]
        wanted = size_by_trying(made, others)
        self.assertEqual(told[0], within_by_trying(made, others), (made.claim_text(), [other.claim_text() for other in others]))
        self.assertEqual(told[1], [-2] if wanted > 256 else [wanted])
        self.assertEqual(told[2], [-5] if is_void(made) else shown(1, shown_by_trying(next(least_things(made, [])))))
        if len(told[0]) == 1:
            return {-2: "too much", 1: "void" if wanted == 0 else "within"}[told[0][0]]
        return "shown" if bytes(told[0][3:]).count(b"part") == len(made.kinds) else "shown by more"

    def test_few_elements(self):
        source = random.Random(11)
        seen = {}
        for turn in range(1000):
            made, others = drawn_question(source, 3)
            case = self.assert_as_tried(made, others)
            seen[case] = seen.get(case, 0) + 1
        self.assertGreater(min(seen[case] for case in ("within", "shown", "shown by more", "void")), 30, seen)

    def test_many_elements(self):
        source = random.Random(12)
        seen = {}
        turns = 0
        while turns < 120:
            made, others = drawn_question(source, 5)
            if len(made.kinds) > 3 and size_by_trying(made, others) < 40 and len(others) < 4:
                case = self.assert_as_tried(made, others)
                seen[case] = seen.get(case, 0) + 1
                turns += 1
        self.assertGreater(min(seen[case] for case in ("within", "shown", "shown by more")), 3, seen)

    def test_all_and_same(self):
        source = random.Random(13)
        seen = {}
        for turn in range(150):
            made, others = drawn_question(source, 2)
            first = [made] + [weakened(source, made) for p in range(source.randint(0, 2))] + others[:2]
            source.shuffle(first)
            many = first + others
            calls = [words(DRAWN_WORDS)] + [claim(one.claim_text()) for one in many]
            p, q = (source.randrange(len(many)), source.randrange(len(many)))
            told = run(*calls, every(range(len(first)), range(len(first), len(many))), same(p, q))[len(calls):]
            each = [within_by_trying(one, others) for one in first]
            fails = [answer for answer in each if answer != [1]]
            self.assertEqual(told[0], [-2] if [-2] in each else fails[0] if fails else [1])
            ways = [within_by_trying(many[p], [many[q]]), within_by_trying(many[q], [many[p]])]
            self.assertEqual(told[1], [-2] if [-2] in ways else [1] if ways == [[1], [1]] else [0])
            for answer in told:
                seen[answer[0]] = seen.get(answer[0], 0) + 1
        self.assertGreater(min(seen[0], seen[1]), 50, seen)


class FirstPromiseTest(unittest.TestCase):
    """E1: what's told of all things is so of each."""

    def test_drawn_things(self):
        source = random.Random(21)
        checked = 0
        for turn in range(250):
            made, others = drawn_question(source, 4)
            numbers = list(range(1, len(others) + 1))
            calls = [words(DRAWN_WORDS), claim(made.claim_text())] + [claim(other.claim_text()) for other in others]
            told = run(*calls, within(0, numbers))[-1]
            if told == [1] and not is_void(made):
                things = [strengthened(source, made) for x in range(8)]
                reads = [thing(one.thing_text()) for one in things]
                asks = [under(p, x) for x in range(8) for p in [0] + numbers]
                answered = [answer[0] for answer in run(*calls, *reads, *asks)[len(calls) + 8:]]
                for x in range(8):
                    of_thing = answered[x * (len(others) + 1):(x + 1) * (len(others) + 1)]
                    self.assertEqual(of_thing[0], 1, (made.claim_text(), things[x].thing_text()))
                    self.assertIn(1, of_thing[1:])
                    checked += 1
        self.assertGreater(checked, 400)

    def test_the_thing_shown(self):
        source = random.Random(22)
        checked = 0
        for turn in range(500):
            made, others = drawn_question(source, 4)
            numbers = list(range(1, len(others) + 1))
            calls = [words(DRAWN_WORDS), claim(made.claim_text())] + [claim(other.claim_text()) for other in others]
            told = run(*calls, within(0, numbers))[-1]
            if told[0] == 0:
                self.assertEqual(told[1:3], [0, len(told) - 3])
                again = run(*calls, thing(told[3:]), under(0, 0), *[under(p, 0) for p in numbers])[len(calls):]
                self.assertEqual(again, [[0], [1]] + [[0]] * len(others))
                self.assert_shown_as_it_is(bytes(told[3:]).decode())
                checked += 1
        self.assertGreater(checked, 100)

    def assert_shown_as_it_is(self, text):
        """Read again it's the thing: the closed pattern that asks for just it is shown by the same text."""
        if text.count("part") <= 5:
            asked = re.sub(r"=(-?[0-9]+)", r"=\1..\1", text.removeprefix("thing\n")) + "only\n"
            self.assertEqual(run(words(DRAWN_WORDS), claim(asked), least(0))[1:], [[0], shown(1, text)])

    def test_each_small_thing(self):
        """All things of up to two parts with a term, a term of it, and a value of 0 to 3 or none; and bare parts behind."""
        texts = "term a\nterm b of a\nmeasure m\nlink l\n"
        parts = [f"{kind}{value}" for kind in ("", " a", " b") for value in ("", " m=0", " m=1", " m=2", " m=3")]
        things = [f"thing\npart p{one}\n" for one in parts]
        things += [f"thing\npart p{one}\npart q{two}\n{join}" for one in parts for two in parts for join in ("", "join p l q\n", "join q l p\n")]
        things += [f"thing\npart p{one}\npart q\npart r\n" for one in parts]
        source = random.Random(23)
        spans = ("", " m=0..3", " m=0..1", " m=2..3", " m=1..2", " m=0..0", " m=3..3")
        claims = []
        while len(claims) < 24:
            lines = [f"part x{source.choice(('', ' a', ' b'))}{source.choice(spans)}\n"]
            if source.random() < 0.5:
                lines.append(f"part y{source.choice(('', ' a'))}{source.choice(spans)}\n")
                lines.append(source.choice(("", "join x l y\n", "join y l x\n")))
            claims.append("".join(lines) + source.choice(("", "", "only\n")))
        reads = [words(texts)] + [claim(text) for text in claims]
        falls = self.table(reads, things, len(claims))
        seen = {0: 0, 1: 0}
        for turn in range(400):
            p = source.randrange(len(claims))
            others = [source.randrange(len(claims)) for o in range(source.randint(1, 5))]
            told = run(*reads, within(p, others))[-1]
            seen[told[0]] += 1
            if told == [1]:
                for x in range(len(things)):
                    self.assertTrue(not falls[p][x] or any(falls[q][x] for q in others), (claims[p], others, things[x]))
        self.assertGreater(min(seen.values()), 50)

    def table(self, reads, things, how_many):
        """Of each pattern, of each thing whether it falls under it."""
        falls = [[] for p in range(how_many)]
        for start in range(0, len(things), 12):
            some_things = things[start:start + 12]
            asks = [under(p, x) for p in range(how_many) for x in range(len(some_things))]
            answered = run(*reads, *[thing(text) for text in some_things], *asks)[len(reads) + len(some_things):]
            for p in range(how_many):
                falls[p].extend(answer[0] for answer in answered[p * len(some_things):(p + 1) * len(some_things)])
        return falls


class SecondAndThirdPromiseTest(unittest.TestCase):
    """E2: within itself, within more, through a third. E3: the same are under the same."""

    def test_drawn_patterns(self):
        source = random.Random(31)
        through = 0
        equal = 0
        for turn in range(60):
            made = drawn_pattern(source, source.randint(1, 3))
            many = [made, weakened(source, made), weakened(source, made)]
            many += [weakened(source, one) for one in many] + [drawn_pattern(source, source.randint(1, 3))]
            things = [strengthened(source, one) for one in many if not is_void(one)]
            reads = [words(DRAWN_WORDS)] + [claim(one.claim_text()) for one in many]
            pairs = list(itertools.product(range(len(many)), repeat=2))
            lies = dict(zip(pairs, run(*reads, *[within(p, [q]) for p, q in pairs])[len(reads):]))
            alike = dict(zip(pairs, run(*reads, *[same(p, q) for p, q in pairs])[len(reads):]))
            asks = [under(p, x) for p in range(len(many)) for x in range(len(things))]
            answered = run(*reads, *[thing(one.thing_text()) for one in things], *asks)[len(reads) + len(things):]
            falls = [answered[p * len(things):(p + 1) * len(things)] for p in range(len(many))]
            for p, q in pairs:
                if -2 not in (lies[(p, q)][0], lies[(q, p)][0]):
                    self.assertEqual(alike[(p, q)], [1] if lies[(p, q)] == lies[(q, p)] == [1] else [0])
                if alike[(p, q)] == [1]:
                    self.assertEqual(falls[p], falls[q])
                    equal += p != q
                for r in range(len(many)):
                    if lies[(p, q)] == lies[(q, r)] == [1] and lies[(p, r)][0] != -2:
                        self.assertEqual(lies[(p, r)], [1])
                        through += len({p, q, r}) == 3
            for p in range(len(many)):
                self.assertIn(lies[(p, p)], ([1], [-2]))
        self.assertGreater(through, 200)
        self.assertGreater(equal, 30)

    def test_within_more_others(self):
        source = random.Random(32)
        checked = 0
        for turn in range(200):
            made, others = drawn_question(source, 3)
            more = others[:7] + [weakened(source, made)]
            source.shuffle(more)
            reads = [words(DRAWN_WORDS), claim(made.claim_text())]
            few = run(*reads, *[claim(one.claim_text()) for one in others[:7]], within(0, range(1, len(others[:7]) + 1)))[-1]
            told = run(*reads, *[claim(one.claim_text()) for one in more], within(0, range(1, len(more) + 1)))[-1]
            if few == [1]:
                self.assertIn(told, ([1], [-2]))
                checked += 1
        self.assertGreater(checked, 60)

    def test_through_a_list(self):
        """Within some others together, each of which lies within further ones."""
        source = random.Random(33)
        checked = 0
        for turn in range(200):
            made, others = drawn_question(source, 2)
            others = others[:4]
            last = [weakened(source, other) for other in others] + [weakened(source, made)]
            many = [made] + others + last
            reads = [words(DRAWN_WORDS)] + [claim(one.claim_text()) for one in many]
            middle = range(1, len(others) + 1)
            end = range(len(others) + 1, len(many))
            told = run(*reads, within(0, middle), every(middle, end), within(0, end))[len(reads):]
            if told[:2] == [[1], [1]]:
                self.assertIn(told[2], ([1], [-2]))
                checked += 1
        self.assertGreater(checked, 20)


class FourthPromiseTest(unittest.TestCase):
    """E4: refused, nothing is changed."""

    READS = [
        words("term a\nterm b of a\nterm c\nnever a c\nmeasure m\nmeasure n\nlink l\n"),
        claim("part w m=0..9 n=0..9\npart x m=0..9 n=0..9\npart y m=0..9 n=0..9\npart z m=0..9 n=0..9\npart v m=4..9\n"),
        claim("part x m=5..9 n=5..9\n"), claim("part x a c\n"), claim("part x b\npart y\njoin y l x\n"), claim("part x a\n"),
        thing("thing\npart p b\npart q\njoin q l p\n"),
    ]
    REFUSED = [
        within(0, [1]), within(5), within(0, [5]), within(0, [1] * 9), every([4, 0], [1]), every([0] * 9, []), every([], [1] * 9),
        every([5], [0]), every([0], [5]), same(0, 1), same(1, 0), same(5, 0), same(0, 5), least(2), least(5), size(0, [1]),
        size(5), size(0, [1] * 9), under(5, 0), under(0, 1), thing("thing\npart p a c\n"), words("term x\nterm x\n"), claim("part x a\njoin"),
        pattern("claims\nclaim\npart x\n", 1, 1), pattern("claims\nclaim\npart x\n", 2, 0),
    ]
    ASKED = [
        within(3, [4]), within(4, [3]), within(2), every([3, 2], [4]), every([3, 4], [3]), same(3, 4), same(3, 3), least(3), least(0),
        under(3, 0), under(4, 0), under(1, 0), size(3, [4]), size(2, [0]), thing("thing\npart p\n"), claim("part x\n"),
    ]

    def test_refused_calls(self):
        wanted = run(*self.READS, *self.ASKED)[len(self.READS):]
        told = run(*self.READS, *self.REFUSED, *self.ASKED)[len(self.READS):]
        self.assertTrue(all(answer[0] < 0 for answer in told[:len(self.REFUSED)]), told)
        self.assertEqual(told[len(self.REFUSED):], wanted)

    def test_refused_calls_between_all_others(self):
        wanted = run(*self.READS, *self.ASKED)[len(self.READS):]
        for refused in self.REFUSED:
            mixed = [call for asked in self.ASKED for call in (asked, refused)]
            told = run(*self.READS, *mixed)[len(self.READS):]
            self.assertEqual(told[::2], wanted)
            self.assertTrue(all(answer[0] < 0 for answer in told[1::2][:-2]))

    def test_before_words_stand(self):
        calls = [within(0), within(0, [0] * 9), every([], []), every([0] * 9, [0]), same(0, 0), least(0)]
        told = run(*calls, *self.READS, *self.ASKED)
        self.assertEqual(told[:len(calls)], [[-8]] * len(calls))
        self.assertEqual(told[len(calls):], run(*self.READS, *self.ASKED))

    def test_questions_change_nothing_either(self):
        twice = run(*self.READS, *self.ASKED[:-2], *self.ASKED[:-2])[len(self.READS):]
        half = len(self.ASKED) - 2
        self.assertEqual(twice[:half], twice[half:])

    def test_what_is_handed_in_and_given_back(self):
        calls = [number for call in self.READS + self.ASKED + self.REFUSED for number in call]
        before = list(calls)
        first = answers(calls)
        self.assertEqual(calls, before)
        second = answers(calls)
        self.assertEqual(first, second)
        self.assertIsNot(first, second)
        self.assertEqual(calls, before)
        self.assertEqual({type(number) for number in first}, {int})
        first.clear()
        self.assertEqual(answers(calls), second)

    def test_new_words_take_the_patterns_away(self):
        told = run(*self.READS, words("term c\n"), within(0), every([0], []), every([], [0]), every([], []), same(0, 0), least(0))
        self.assertEqual(told[len(self.READS) + 1:], [[-4], [-4], [-4], [1], [-4], [-4]])


if __name__ == "__main__":
    unittest.main()
