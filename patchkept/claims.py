"""Giving each of several claimants a token of its own."""


def with_claim(token, askers, held):
    """Return what is held after each token on the way to the free one has gone to the claimant that asked for it."""
    found = {claimant: held[claimant] for claimant in held}
    while token is not None:
        asking = askers[token]
        left = found.get(asking)
        found[asking] = token
        token = left
    return found


def claimed(claimant, options, held):
    """Return what is held once the claimant, which holds nothing yet, holds a token too, or None."""
    owners = {token: owner for owner, token in held.items()}
    askers = {}
    waiting = [claimant]
    while waiting:
        asking = waiting.pop()
        for token in options[asking]:
            if token in askers:
                continue
            askers[token] = asking
            if token not in owners:
                return with_claim(token, askers, held)
            # The owner may find another one for itself.
            waiting.append(owners[token])
    return None


def own_tokens(options):
    """Return a dict of a token for each claimant, all of them different, or None if there are too few.

    `options` has for each claimant the list of the tokens that it can have.
    """
    held = {}
    for claimant in options:
        held = claimed(claimant, options, held)
        if held is None:
            return None
    return held
