"""The values of atoms before and after a change."""

from rulestand.literals import once


def differing(before, after):
    """Return the list of the atoms whose words are different, with both words.

    The dicts have the words of atoms; those of atoms that they do not have are "false".
    """
    found = []
    for atom in once(list(before) + list(after)):
        words = (before.get(atom, "false"), after.get(atom, "false"))
        if words[0] != words[1]:
            found.append((atom, words[0], words[1]))
    return found
