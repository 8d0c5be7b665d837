"""Merging the runs of a bundle that keep the same: from there on they do the same, so one of them is enough."""


def masks_of(values):
    masks = {}
    for value in values:
        if not isinstance(value, int):
            for mask in value:
                masks[mask] = True
    return list(masks)


def split_by(mask, groups):
    parts = []
    for group in groups:
        inside = group & mask
        if inside == 0 or inside == group:
            parts.append(group)
        else:
            parts.append(inside)
            parts.append(group ^ inside)
    return parts


# The lanes in groups of those that keep the same; but none where there are more groups than let.
def groups_alike(bundle, let):
    groups = [bundle.full]
    for mask in masks_of(bundle.kept):
        groups = split_by(mask, groups)
        if len(groups) > let:
            return []
    return groups


def gathered(mask, firsts):
    lanes = 0
    lane = 1
    for first in firsts:
        if mask & first != 0:
            lanes = lanes | lane
        lane = lane << 1
    return lanes


# Of each group only the run stays whose inputs come first in order. It tells whether that was worth it:
# if more are left than let, nothing's done.
def merged(bundle, let):
    firsts = [bundle.first_lane(group) for group in groups_alike(bundle, let)]
    if firsts == []:
        return False
    full = gathered(bundle.full, firsts)
    bundle.change_lanes(full, lambda mask: gathered(mask, firsts))
    return True
