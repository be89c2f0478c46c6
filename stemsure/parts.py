"""The parts that an entry gives, and the forms that they make.

A part is a triple (stem, pre, suf): the stem, the number of the affix
before it and that of the affix behind it, -1 standing for none.
"""

JOINED = 8
ONLY_JOINED = 9


def fits(affix, stem):
    """Whether the affix fits the stem."""
    side, _, strip, _, ends, _ = affix
    if len(stem) <= len(strip):
        return False
    if side == "pre":
        return stem.startswith(strip) and (ends == "" or stem[0] in ends)
    return stem.endswith(strip) and (ends == "" or stem[-1] in ends)


def fitting(affixes, entry, side):
    """The numbers of the affixes on this side that the entry takes and that fit it."""
    stem, flags = entry
    return [
        number
        for number, affix in enumerate(affixes)
        if affix[0] == side and affix[1] in flags and fits(affix, stem)
    ]


def go_together(affixes, part):
    """Whether the affixes of the part, which fit its stem, may both stand there."""
    stem, pre, suf = part
    if pre == -1 or suf == -1:
        return True
    _, _, strip_before, _, _, cross_before = affixes[pre]
    _, _, strip_behind, _, _, cross_behind = affixes[suf]
    return cross_before and cross_behind and len(stem) > len(strip_before) + len(strip_behind)


def parts_of_entry(affixes, entry):
    """All parts that the entry gives."""
    before = [-1] + fitting(affixes, entry, "pre")
    behind = [-1] + fitting(affixes, entry, "suf")
    parts = [(entry[0], pre, suf) for pre in before for suf in behind]
    return [part for part in parts if go_together(affixes, part)]


def form_of_part(affixes, part):
    """The form that the part makes."""
    stem, pre, suf = part
    head = ""
    tail = ""
    start = 0
    stop = len(stem)
    if pre != -1:
        _, _, strip, head, _, _ = affixes[pre]
        start = len(strip)
    if suf != -1:
        _, _, strip, tail, _, _ = affixes[suf]
        stop = len(stem) - len(strip)
    return head + stem[start:stop] + tail


def parts_by_form(affixes, entries):
    """A dict that gives for each form of the entries the list of the parts that make it."""
    found = {}
    for entry in entries:
        for part in parts_of_entry(affixes, entry):
            found.setdefault(form_of_part(affixes, part), []).append(part)
    return found


def parts_alone(affixes, entries):
    """The parts by form of the entries whose forms are words by themselves."""
    return parts_by_form(affixes, [entry for entry in entries if ONLY_JOINED not in entry[1]])


def parts_to_join(affixes, entries):
    """The parts by form of the entries whose forms may be joined."""
    return parts_by_form(affixes, [entry for entry in entries if JOINED in entry[1]])
