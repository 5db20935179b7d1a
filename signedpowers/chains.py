"""Which offices may decide a matter, and by which chain of delegations."""

from signedpowers.spans import in_force


def covers(row, matter):
    return row.kind == matter.kind and row.amount >= matter.amount and in_force(row, matter.day)


def has_own_power(house, office, matter):
    return any([row.office == office and covers(row, matter) for row in house.powers])


def chains_to_pass_on(house, matter):
    """The chain of each office that may pass the matter on, by the office's number.

    Built up from the own powers, so that delegations in a ring lead nowhere by themselves.
    """
    chains = {}
    for office in range(len(house.offices)):
        if has_own_power(house, office, matter):
            chains[office] = []
    found = chains_of_a_round(house, matter, chains)
    while len(found) > 0:
        chains.update(found)
        found = chains_of_a_round(house, matter, chains)
    return chains


def chains_of_a_round(house, matter, earlier):
    # Kept apart from the earlier ones: within a round no office may count on another that this round brings.
    found = {}
    for number, row in enumerate(house.delegations):
        reached = row.receiver in earlier or row.receiver in found
        if row.further == 1 and not reached and row.office in earlier and covers(row, matter):
            found[row.receiver] = [number] + earlier[row.office]
    return found


def chains_to_decide(house, matter):
    """The chain of each office that may decide the matter, by the office's number, rising."""
    passing = chains_to_pass_on(house, matter)
    chains = {}
    for office in range(len(house.offices)):
        chain = chain_to_decide(house, office, matter, passing)
        if chain is not None:
            chains[office] = chain
    return chains


def chain_to_decide(house, office, matter, passing):
    """None, if the office may not decide the matter."""
    if has_own_power(house, office, matter):
        return []
    for number, row in enumerate(house.delegations):
        if row.receiver == office and row.office in passing and covers(row, matter):
            return [number] + passing[row.office]
    return None
