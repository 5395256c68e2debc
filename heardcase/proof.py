"""How a case is settled: its claims, and what follows for boats."""

from heardcase.verdicts import BY_RULES, BY_SIGHT, BY_WITNESSES, OPEN, PROVED, REFUTED, fact


class Proof:
    """A case settled without some witnesses.

    outcomes are pairs (verdict, settled by), by the claims' numbers; facts has the bits of all
    these verdicts.
    """

    def __init__(self):
        self.outcomes = []
        self.facts = 0


def all_hold(needed, facts):
    """Whether all conditions hold that need these facts."""
    return (facts & needed) == needed


def going_rules(claim, facts):
    return [rule for rule in claim.rules if all_hold(rule.needed, facts)]


def verdict_of_rules(claim, facts):
    """What the rules make of the claim, or 0 if none goes."""
    made = [rule.made for rule in going_rules(claim, facts)]
    if PROVED in made and REFUTED in made:
        return OPEN
    return made[0] if len(made) > 0 else 0


def verdict_of_witnesses(case, claim, without):
    balance = 0
    for witness, said in claim.words.items():
        if (without >> witness) & 1 == 0:
            weight = case.weights[witness]
            balance += weight if said == PROVED else -weight
    if balance == 0:
        return OPEN
    return PROVED if balance > 0 else REFUTED


def settle_claim(case, claim, without, facts):
    """The pair (verdict, settled by) of a claim; facts are those of all claims before it."""
    if claim.known != 0:
        return (claim.known, BY_SIGHT)
    verdict = verdict_of_rules(claim, facts)
    if verdict != 0:
        return (verdict, BY_RULES)
    return (verdict_of_witnesses(case, claim, without), BY_WITNESSES)


def settle(case, without):
    """The Proof of the case without these witnesses."""
    proof = Proof()
    for number, claim in enumerate(case.claims):
        outcome = settle_claim(case, claim, without, proof.facts)
        proof.outcomes.append(outcome)
        proof.facts = proof.facts | fact(outcome[0], number)
    return proof


def penalty_of(boat, facts):
    return max([points for points, needed in boat.penalties if all_hold(needed, facts)], default=0)


def has_redress(boat, facts):
    if penalty_of(boat, facts) > 0:
        return False
    return any([all_hold(needed, facts) for needed in boat.redresses])


def members_of(bits):
    """The numbers of the witnesses in a set, rising."""
    return [number for number in range(bits.bit_length()) if (bits >> number) & 1 == 1]


def rank_of(bits):
    """What puts sets of witnesses in order: how many they have, then their rising rows."""
    members = members_of(bits)
    return (len(members), members)


def sets_of(witnesses):
    """All sets of this many witnesses, but the one of none, in order."""
    return sorted(range(1, 1 << witnesses), key=rank_of)
