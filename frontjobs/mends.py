"""MENDs: small changes of a SHELL, and what they, and other RULES, keep from coming."""

from frontjobs.deciding import can_come, wrongs_of
from frontjobs.errors import BadQuestion
from frontjobs.setups import LETTING, READING, WRONGS, need_setup, need_wrong, shell_fault


def changed_scripts(script):
    """The SCRIPTs that come of one by leaving out a STEP, or by exchanging two unlike ones side by side."""
    found = [script[:at] + script[at + 1:] for at in range(len(script))]
    for at in range(1, len(script)):
        one, other = script[at - 1], script[at]
        if one != other:
            found.append(script[:at - 1] + (other, one) + script[at + 1:])
    return found


def mends(setup):
    """The ascending tuple of all MENDs of the SHELL."""
    shell = need_setup(setup)[2]
    found = set()
    for at, script in enumerate(shell):
        for changed in changed_scripts(script):
            found.add(shell[:at] + (changed,) + shell[at + 1:])
    return tuple(sorted(found))


def gains(setup, shell):
    """The WRONGS that can come with the SHELL of the SETUP and not with this one, and those of the other way about."""
    kinds, rules, own = need_setup(setup)
    if shell_fault(shell) is not None:
        raise BadQuestion("what is no SHELL")
    here, there = wrongs_of(setup), wrongs_of((kinds, rules, shell))
    lost = [wrong for wrong in WRONGS if wrong in here and wrong not in there]
    new = [wrong for wrong in WRONGS if wrong in there and wrong not in here]
    return tuple(lost), tuple(new)


def mended(setup, wrong):
    """The ascending tuple of the MENDs with which the WRONG cannot come."""
    kinds, rules, own = need_setup(setup)
    need_wrong(wrong)
    return tuple([shell for shell in mends(setup) if not can_come((kinds, rules, shell), wrong)])


def rules_for(setup, wrong):
    """The ascending tuple of the RULES with which the WRONG cannot come."""
    kinds, own, shell = need_setup(setup)
    need_wrong(wrong)
    every = sorted([(reads, writes, takes) for reads in READING for writes in LETTING for takes in LETTING])
    return tuple([rules for rules in every if not can_come((kinds, rules, shell), wrong)])


def quietest(setup):
    """The least number of WRONGS that can come with the SHELL or one of its MENDs, and the first SHELL with so few."""
    kinds, rules, own = need_setup(setup)
    best = (len(wrongs_of(setup)), own)
    for shell in mends(setup):
        many = len(wrongs_of((kinds, rules, shell)))
        if many < best[0]:
            best = (many, shell)
    return best
