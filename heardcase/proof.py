"""How the claims of a case are settled."""

from heardcase.verdicts import BY_RULES, BY_SIGHT, BY_WITNESSES, OPEN, PROVED, REFUTED


def rule_goes(rule, outcomes):
    for wanted, number in rule[1]:
        if outcomes[number][0] != wanted:
            return False
    return True


def verdict_of_rules(claim, outcomes):
    """What the rules make of the claim, or 0 if none goes."""
    made = [rule[0] for rule in claim.rules if rule_goes(rule, outcomes)]
    if PROVED in made and REFUTED in made:
        return OPEN
    return made[0] if len(made) > 0 else 0


def verdict_of_witnesses(case, claim, without):
    balance = 0
    for witness, said in claim.words.items():
        if (without >> witness) & 1 == 0:
            weight = case.weights[witness]
            balance += weight if said == PROVED else -weight
    if balance == 0:
        return OPEN
    return PROVED if balance > 0 else REFUTED


def settle_claim(case, claim, without, outcomes):
    """The pair (verdict, settled by) of a claim; outcomes are those of all claims before it."""
    if claim.known != 0:
        return (claim.known, BY_SIGHT)
    verdict = verdict_of_rules(claim, outcomes)
    if verdict != 0:
        return (verdict, BY_RULES)
    return (verdict_of_witnesses(case, claim, without), BY_WITNESSES)


def settle(case, last, without):
    """The pairs (verdict, settled by) of the claims from 0 to last, without these witnesses."""
    outcomes = []
    for claim in case.claims[:last + 1]:
        outcomes.append(settle_claim(case, claim, without, outcomes))
    return outcomes
