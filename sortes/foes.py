"""What foes make of the messages of a round (points 23 and 24)."""


def after_rules(p, script, messages, step):
    """Return the messages after the rules of the script for the round `step`, the last one that has messages."""
    foes, rules = script
    changed = {address: messages[address] for address in messages}
    for address, change in rules:
        if address[0] == step:
            number = _changed_number(p, foes, changed, address, change)
            if number is not None:
                changed[address] = number
            elif address in changed:
                del changed[address]
    return changed


def _changed_number(p, foes, messages, address, change):
    """Return the number that the message with this address has after the change, or None if it is not there."""
    old = messages.get(address)
    if change[0] == "is":
        return change[1] % p
    if change[0] == "drop":
        return None
    if change[0] == "add":
        return None if old is None else (old + change[1]) % p
    # A message of a later round is not among the messages yet, so it is not copied.
    if _is_known(foes, change[1]):
        return messages.get(change[1], old)
    return old


def _is_known(foes, address):
    """Return whether the foes get to know a message with this address."""
    return address[1] in foes or address[2] in foes or address[2] == 0
