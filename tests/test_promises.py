"""What holds of every case, tried on many small ones and held against a second reading of the document."""

import itertools
import random
import re
import unittest

from tests.asking import BY_SIGHT, LAST, SIZES, TEXT, ask, boat, claim, fault, lines, more, of_case, rules, settled
from tests.asking import take, told, turn, witness

NAME = "[a-z0-9]{1,12}"
CLAIM_NAME = f"(?!(?:not|open|if)(?: |$)){NAME}"
CONDITION = f"(?:(?:not |open )?{CLAIM_NAME})"
CONDITIONS = f"{CONDITION}(?: {CONDITION}){{0,7}}"
LINE_FORMS = [re.compile(form) for form in [
    f"(claim|seen|unseen) (?P<claim>{CLAIM_NAME})",
    f"(weight) (?P<who>{NAME}) (?P<amount>[1-9])",
    f"(says|denies) (?P<who>{NAME}) (?P<claim>{CLAIM_NAME})",
    f"(for|against) (?P<claim>{CLAIM_NAME}) if (?P<conditions>{CONDITIONS})",
    f"(penalty) (?P<boat>{NAME}) (?P<points>[1-9][0-9]?) if (?P<conditions>{CONDITIONS})",
    f"(redress) (?P<boat>{NAME}) if (?P<conditions>{CONDITIONS})",
]]


def model_read(text):
    """(rows, None) or (None, fault): a row is its kind and a dict of its parts."""
    rows = []
    for number, line in enumerate(text.split("\n")[:-1]):
        matches = [match for match in (form.fullmatch(line) for form in LINE_FORMS) if match]
        row = (matches[0][1], matches[0].groupdict()) if matches else None
        why = model_why(rows, row)
        if why:
            return None, (number, why)
        rows.append(row)
    if not text.endswith("\n") and text != "":
        return None, (len(rows), 1)
    return rows, None


def condition_pairs(parts):
    return re.findall(r"(not |open |)(\S+)", parts.get("conditions") or "")


def model_why(rows, row):
    if row is None:
        return 1
    kind, parts = row
    names = [other["claim"] for sort, other in rows if sort == "claim"]
    named = [name for _, name in condition_pairs(parts)]
    if kind != "claim" and "claim" in parts:
        named.append(parts["claim"])
    if any(name not in names for name in named):
        return 3
    if kind in ("for", "against"):
        if any(names.index(name) >= names.index(parts["claim"]) for _, name in condition_pairs(parts)):
            return 3
    spoken = [(other["who"], other["claim"]) for sort, other in rows if sort in ("says", "denies")]
    weighed = [other["who"] for sort, other in rows if sort == "weight"]
    sights = [other["claim"] for sort, other in rows if sort in ("seen", "unseen")]
    if (kind == "claim" and parts["claim"] in names
            or kind == "weight" and (parts["who"] in weighed or parts["who"] in [who for who, _ in spoken])
            or kind in ("says", "denies") and (parts["who"], parts["claim"]) in spoken
            or kind in ("seen", "unseen") and parts["claim"] in sights):
        return 4
    witnesses = model_witnesses(rows + [row])
    if len(rows) + 1 > 512 or len(names) + (kind == "claim") > 64 or ("who" in parts and len(witnesses) > 8):
        return 2
    return 0


def model_witnesses(rows):
    return list(dict.fromkeys(parts["who"] for _, parts in rows if "who" in parts))


def model_settle(rows, without):
    """The list of [verdict, by] of all claims, by their numbers."""
    kept = [who for k, who in enumerate(model_witnesses(rows)) if not without >> k & 1]
    weights = {parts["who"]: int(parts["amount"]) for kind, parts in rows if kind == "weight"}
    found = {}
    for name in [parts["claim"] for kind, parts in rows if kind == "claim"]:
        told_of = [(kind, parts) for kind, parts in rows if parts.get("claim") == name]
        going = {kind for kind, parts in told_of if kind in ("for", "against") and all(
            found[on][0] == {"": 1, "not ": 2, "open ": 3}[sort] for sort, on in condition_pairs(parts))}
        sight = [kind for kind, _ in told_of if kind in ("seen", "unseen")]
        said = sum(weights.get(parts["who"], 1) for kind, parts in told_of if kind == "says" and parts["who"] in kept)
        denied = sum(weights.get(parts["who"], 1) for kind, parts in told_of
                     if kind == "denies" and parts["who"] in kept)
        if sight:
            found[name] = [1 if sight == ["seen"] else 2, 1]
        elif going:
            found[name] = [3 if len(going) == 2 else 1 if "for" in going else 2, 2]
        else:
            found[name] = [1 if said > denied else 2 if said < denied else 3, 3]
    return list(found.values())


def model_holds(rows, parts, without):
    names = [other["claim"] for kind, other in rows if kind == "claim"]
    verdicts = dict(zip(names, [verdict for verdict, _ in model_settle(rows, without)]))
    return all(verdicts[on] == {"": 1, "not ": 2, "open ": 3}[sort] for sort, on in condition_pairs(parts))


def model_claims(rows):
    return [parts["claim"] for kind, parts in rows if kind == "claim"]


def model_rules(rows, number, without):
    name = model_claims(rows)[number]
    going = [line for line, (kind, parts) in enumerate(rows)
             if kind in ("for", "against") and parts["claim"] == name and model_holds(rows, parts, without)]
    return [len(going)] + going


def model_boat(rows, name, without):
    hers = [(kind, parts) for kind, parts in rows if parts.get("boat") == name and model_holds(rows, parts, without)]
    penalty = max([0] + [int(parts["points"]) for kind, parts in hers if kind == "penalty"])
    return [0, penalty, int(penalty == 0 and "redress" in [kind for kind, _ in hers])]


def model_turn(rows, number):
    witnesses = range(len(model_witnesses(rows)))
    for size in witnesses:
        # combinations gives the rising rows in their order.
        for members in itertools.combinations(witnesses, size + 1):
            bits = sum(1 << k for k in members)
            if model_settle(rows, bits)[number][0] != model_settle(rows, 0)[number][0]:
                return [len(members), bits]
    return [-3]


def model_answer(held, call):
    """What a call but take and more answers where this is the held case's text."""
    rows = model_read(held)[0]
    claims, witnesses = model_claims(rows), model_witnesses(rows)
    sort, first = call[0], call[1] if len(call) > 1 else 0
    without = {4: call[-1], 5: call[-1], 6: first}.get(sort, 0)
    if sort == 2:
        return told(held)
    if sort == 3:
        return [0, len(claims), len(witnesses), len(rows)]
    if without >= 2 ** len(witnesses):
        return [-8]
    if sort == 6:
        name = bytes(call[3:]).decode("latin-1")
        return model_boat(rows, name, without) if re.fullmatch(NAME, name) else [-8]
    if first >= len(witnesses if sort == 7 else claims):
        return [-4]
    if sort == 4:
        return [0] + model_settle(rows, without)[first]
    if sort == 5:
        return model_rules(rows, first, without)
    return told(witnesses[first]) if sort == 7 else model_turn(rows, first)


def some_call(chance, most_claims=6, most_bits=9):
    """A call but take and more; now and then with a number that is refused."""
    number = chance.choice([LAST, 64]) if chance.random() < 0.05 else chance.randrange(most_claims)
    without = chance.choice([LAST, 256]) if chance.random() < 0.05 else chance.randrange(most_bits)
    name = chance.choice(["u", "v", "w", "not", "a", "", "U", "u\n", "x" * 12, "x" * 13])
    return chance.choice([TEXT, SIZES, claim(number, without), rules(number, without), rules(number, without),
                          boat(name, without), boat(chance.choice("uvw"), without), witness(number), turn(number),
                          turn(number)])


def some_line(chance, names, whos):
    def pick():
        return chance.choice(names)

    conditions = " ".join(chance.choice(["", "", "not ", "open "]) + pick() for _ in range(chance.randint(1, 3)))
    return chance.choice([
        f"claim {pick()}", f"claim {pick()}", f"weight {chance.choice(whos)} {chance.randint(1, 9)}",
        f"says {chance.choice(whos)} {pick()}", f"denies {chance.choice(whos)} {pick()}",
        f"says {chance.choice(whos)} {pick()}", f"denies {chance.choice(whos)} {pick()}",
        f"{chance.choice(['seen', 'unseen'])} {pick()}", f"for {pick()} if {conditions}",
        f"against {pick()} if {conditions}", f"for {pick()} if {conditions}", f"against {pick()} if {conditions}",
        f"penalty {chance.choice(whos)} {chance.randint(1, 99)} if {conditions}",
        f"redress {chance.choice(whos)} if {conditions}",
    ])


def spoiled(chance, text):
    """The text with a byte or two put in, left out or changed."""
    for _ in range(chance.randint(1, 2)):
        place = chance.randint(0, len(text))
        put = chance.choice(["", " ", "\n", "0", "a", "9", "not ", "if ", " open", "A", "\r", "?", "\xff"])
        text = text[:place] + put + text[place + chance.randint(0, 1):]
    return text


def some_case(chance, names="abcde", whos="uvw", rows=25):
    """A text that is a case: lines that are at fault are left out."""
    held = []
    for _ in range(rows):
        row = some_line(chance, names, whos)
        if model_why(held, model_row(row)) == 0:
            held.append(model_row(row))
            yield row


def model_row(line):
    match = [match for match in (form.fullmatch(line) for form in LINE_FORMS) if match][0]
    return (match[1], match.groupdict())


class ModelTest(unittest.TestCase):
    def test_faults(self):
        chance = random.Random(1)
        for _ in range(3000):
            names = ["a", "b", "c", "not", "x"] if chance.random() < 0.1 else ["a", "b", "c"]
            rows = ["claim a", "claim b"] + [some_line(chance, names, "uvwxyzstrq") for _ in range(chance.randint(0, 6))]
            text = lines(*rows)
            if chance.random() < 0.5:
                text = spoiled(chance, text)
            self.assertEqual(fault(text), model_read(text)[1], text)

    def test_what_is_proved(self):
        chance = random.Random(2)
        for _ in range(400):
            text = lines(*some_case(chance))
            rows = model_read(text)[0]
            for without in range(2 ** len(model_witnesses(rows))):
                expected = [[0] + outcome for outcome in model_settle(rows, without)]
                answered = ask(take(text), *[claim(k, without) for k in range(len(expected))])
                self.assertEqual(answered[1:], expected, text)

    def test_rules_boats_and_turns(self):
        chance = random.Random(12)
        for _ in range(300):
            text = lines(*some_case(chance, whos="uvwx", rows=35))
            rows = model_read(text)[0]
            sets = range(2 ** len(model_witnesses(rows)))
            numbers = range(len(model_claims(rows)))
            calls = [rules(k, without) for k in numbers for without in sets] + [turn(k) for k in numbers]
            calls += [boat(name, without) for name in "uvwx" for without in sets] + [witness(k) for k in range(5)]
            calls = chance.sample(calls, min(len(calls), 40))
            self.assertEqual(ask(take(text), *calls)[1:], [model_answer(text, call) for call in calls], text)

    def test_turns_among_eight_witnesses(self):
        chance = random.Random(13)
        counts = set()
        for _ in range(60):
            rows = ["claim a", "claim b", "claim c", *[f"weight w{k} {chance.choice([1, 1, 2, 3])}" for k in range(8)]]
            rows += [f"{chance.choice(['says', 'says', 'says', 'denies'])} w{k} {name}"
                     for k in range(8) for name in "abc" if chance.random() < 0.5]
            rows += [f"{chance.choice(['for', 'against'])} c if {chance.choice(['', 'not ', 'open '])}a",
                     f"{chance.choice(['for', 'against'])} c if b {chance.choice(['', 'not ', 'open '])}a"]
            text = lines(*rows)
            answered = ask(take(text), turn(0), turn(1), turn(2))[1:]
            self.assertEqual(answered, [model_turn(model_read(text)[0], k) for k in range(3)], text)
            counts |= {answer[0] for answer in answered}
        self.assertGreater(len(counts), 5)

    def test_all_calls_among_one_another(self):
        chance = random.Random(14)
        for _ in range(30):
            held = ""
            calls, expected = [], []
            while len(calls) < 100:
                if chance.random() < 0.3:
                    rows = [some_line(chance, "abcd", "uvw") for _ in range(chance.randint(0, 3))]
                    text = lines(*rows)
                    if chance.random() < 0.2:
                        text = lines(*some_case(chance, "abcd", rows=20))
                    text = spoiled(chance, text) if chance.random() < 0.1 else text
                    is_take = chance.random() < 0.2
                    wrong = model_read(text if is_take else held + text)[1]
                    calls.append(take(text) if is_take else more(text))
                    expected.append([-6, *wrong] if wrong else [0])
                    held = held if wrong else text if is_take else held + text
                else:
                    calls.append(some_call(chance))
                    expected.append(model_answer(held, calls[-1]))
            self.assertEqual(ask(*calls), expected)

    def test_sizes(self):
        chance = random.Random(3)
        for _ in range(200):
            text = lines(*some_case(chance))
            rows = model_read(text)[0]
            claims = len([kind for kind, _ in rows if kind == "claim"])
            self.assertEqual(ask(take(text), SIZES)[1], [0, claims, len(model_witnesses(rows)), len(rows)])

    def test_more(self):
        chance = random.Random(4)
        for _ in range(400):
            held = ""
            calls, expected = [], []
            for _ in range(6):
                text = lines(*[some_line(chance, "abc", "uvw") for _ in range(chance.randint(0, 2))])
                text = spoiled(chance, text) if chance.random() < 0.2 else text
                whole = text if chance.random() < 0.3 else held + text
                calls.append(take(text) if whole == text else more(text))
                wrong = model_read(whole)[1]
                held = held if wrong else whole
                expected.append([-6, *wrong] if wrong else [0])
                calls.append(TEXT)
                expected.append(told(held))
            self.assertEqual(ask(*calls), expected)


class PromiseTest(unittest.TestCase):
    def test_1_the_held_text_is_taken_as_the_held_case(self):
        chance = random.Random(5)
        for _ in range(100):
            text = lines(*some_case(chance))
            look = [SIZES] + [claim(k, without) for k in range(5) for without in range(8)]
            look += [rules(k, without) for k in range(5) for without in range(8)]
            look += [boat(name, without) for name in "uvw" for without in range(8)]
            look += [witness(k) for k in range(4)] + [turn(k) for k in range(6)]
            first = ask(take(text), TEXT, *look)
            self.assertEqual(ask(take(first[1][1:]), TEXT, *look), first)

    def test_2_what_comes_behind_changes_nothing_before(self):
        chance = random.Random(6)
        for _ in range(100):
            rows = list(some_case(chance))
            claims = [row for row in rows if row.startswith("claim ")]
            text = lines(*rows)
            for number, own in enumerate(claims):
                later = {row.split()[1] for row in claims[number + 1:]}
                kept = [row for row in rows if not tells_of(row, later)]
                self.assertEqual(settled(text, number), settled(lines(*kept), number), text)
                self.assertEqual(of_case(text, rules(number))[0], of_case(lines(*kept), rules(number))[0], text)

    def test_2_just_one_of_three(self):
        chance = random.Random(7)
        for _ in range(100):
            text = lines(*some_case(chance), "claim last")
            self.assertIn(settled(text, 0)[0], (1, 2, 3))
            self.assertIn(settled(text, 0)[1], (1, 2, 3))

    def test_3_every_order_of_words_and_rules(self):
        first = ["claim a", "claim b", "claim c", "weight u 2"]
        for rows in [
            ["says u a", "denies v a", "denies w a", "for b if open a", "against c if b"],
            ["says u a", "denies v a", "for b if a", "against b if a", "for c if open b"],
            ["denies u a", "says v a", "says w b", "against b if not a", "for c if not b"],
        ]:
            expected = [settled(lines(*first, *rows), k) for k in range(3)]
            for order in itertools.permutations(rows):
                self.assertEqual([settled(lines(*first, *order), k) for k in range(3)], expected, order)

    def test_3_some_orders_of_larger_cases(self):
        chance = random.Random(8)
        for _ in range(100):
            rows = list(some_case(chance, rows=40))
            fixed = [row for row in rows if row.startswith(("claim ", "weight "))]
            free = [row for row in rows if row not in fixed]
            text = lines(*fixed, *free)
            # A weight may not be told of one who has spoken, so these rows alone keep their order.
            self.assertIsNone(fault(text))
            count = len([row for row in fixed if row.startswith("claim ")])
            expected = [settled(text, k) for k in range(count)]
            self.assertEqual([settled(lines(*rows), k) for k in range(count)], expected)
            chance.shuffle(free)
            self.assertEqual([settled(lines(*fixed, *free), k) for k in range(count)], expected)

    def test_3_boats_and_turns_in_another_order(self):
        chance = random.Random(15)
        for _ in range(100):
            rows = list(some_case(chance, rows=40))
            # Their weights ahead of all, in a row, keep the witnesses' numbers as they are.
            whos = [f"weight {who} {chance.randint(1, 9)}" for who in "uvw"]
            claims = [row for row in rows if row.startswith("claim ")]
            free = [row for row in rows if not row.startswith(("claim ", "weight "))]
            look = [turn(k) for k in range(len(claims))]
            look += [boat(name, without) for name in "uvw" for without in range(8)]
            expected = ask(take(lines(*whos, *claims, *free)), *look)
            numbers = [of_case(lines(*whos, *claims, *free), rules(k)) for k in range(len(claims))]
            chance.shuffle(free)
            self.assertEqual(ask(take(lines(*whos, *claims, *free)), *look), expected)
            moved = [of_case(lines(*whos, *claims, *free), rules(k)) for k in range(len(claims))]
            self.assertEqual([answer[0] for answer in moved], [answer[0] for answer in numbers])
            for answer in numbers + moved:
                self.assertEqual(answer[1:], sorted(answer[1:]))

    def test_4_who_is_silent_on_a_claim_and_all_before_it_does_not_matter(self):
        chance = random.Random(9)
        tried = 0
        for _ in range(100):
            rows = list(some_case(chance))
            text = lines(*rows)
            witnesses = model_witnesses(model_read(text)[0])
            heard = set()
            for number, own in enumerate([row for row in rows if row.startswith("claim ")]):
                heard |= {row.split()[1] for row in rows
                          if row.startswith(("says ", "denies ")) and row.split()[2] == own.split()[1]}
                for k, who in enumerate(witnesses):
                    if who not in heard:
                        tried += 1
                        self.assertEqual(settled(text, number, 1 << k), settled(text, number), text)
        self.assertGreater(tried, 50)

    def test_4_no_turning_set_has_one_who_is_silent(self):
        chance = random.Random(16)
        tried = 0
        for _ in range(100):
            rows = list(some_case(chance, whos="uvwxyz", rows=40))
            text = lines(*rows)
            witnesses = model_witnesses(model_read(text)[0])
            heard = set()
            for number, own in enumerate([row for row in rows if row.startswith("claim ")]):
                heard |= {row.split()[1] for row in rows
                          if row.startswith(("says ", "denies ")) and row.split()[2] == own.split()[1]}
                answer = of_case(text, turn(number))
                if answer == [-3]:
                    continue
                members = {who for k, who in enumerate(witnesses) if answer[1] >> k & 1}
                self.assertEqual(answer[0], len(members))
                self.assertLessEqual(members, heard, text)
                tried += len(members)
        self.assertGreater(tried, 50)

    def test_4_a_turning_set_is_as_small_as_can_be(self):
        chance = random.Random(17)
        for _ in range(60):
            text = lines(*some_case(chance, whos="uvwx", rows=40))
            rows = model_read(text)[0]
            sets = range(2 ** len(model_witnesses(rows)))
            for number in range(len(model_claims(rows))):
                verdicts = [settled(text, number, bits)[0] for bits in sets]
                turning = [bits for bits in sets if verdicts[bits] != verdicts[0]]
                answer = of_case(text, turn(number))
                if not turning:
                    self.assertEqual(answer, [-3], text)
                else:
                    self.assertIn(answer[1], turning, text)
                    self.assertEqual(answer[0], min(bits.bit_count() for bits in turning), text)

    def test_5_a_rule_more_that_does_not_go_changes_nothing(self):
        chance = random.Random(10)
        tried = 0
        for _ in range(100):
            rows = list(some_case(chance))
            text = lines(*rows)
            names = [row.split()[1] for row in rows if row.startswith("claim ")]
            expected = [settled(text, k) for k in range(len(names))]
            for first, second in itertools.combinations(range(len(names)), 2):
                for wanted, sort in [(1, ""), (2, "not "), (3, "open ")]:
                    if expected[first][0] != wanted:
                        rule = f"{chance.choice(['for', 'against'])} {names[second]} if {sort}{names[first]}\n"
                        tried += 1
                        self.assertEqual([settled(text + rule, k) for k in range(len(names))], expected, rule)
                        self.assertEqual(of_case(text + rule, rules(second)), of_case(text, rules(second)), rule)
                        for name in "uvw":
                            self.assertEqual(of_case(text + rule, boat(name)), of_case(text, boat(name)), rule)
        self.assertGreater(tried, 50)

    def test_5_seen_outweighs_all(self):
        chance = random.Random(11)
        for _ in range(100):
            rows = [row for row in some_case(chance) if not row.startswith(("seen", "unseen"))]
            for number, own in enumerate([row for row in rows if row.startswith("claim ")]):
                for word, verdict in [("seen", 1), ("unseen", 2)]:
                    text = lines(*rows, f"{word} {own.split()[1]}")
                    self.assertEqual(settled(text, number), (verdict, BY_SIGHT), text)
                    self.assertEqual(of_case(text, turn(number)), [-3], text)


def tells_of(row, names):
    """Whether a row tells or names one of these claims."""
    kind, parts = model_row(row)
    return parts.get("claim") in names or any(name in names for _, name in condition_pairs(parts))


if __name__ == "__main__":
    unittest.main()
