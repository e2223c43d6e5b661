"""Groups of things that are connected, directly or over others."""


def least_members(joined):
    """Return for each number the least number of its group.

    joined is a list with the list of the numbers to which each number is joined directly; each of
    two joined numbers is in the other one's list.
    """
    leasts = [None] * len(joined)
    for number in range(len(joined)):
        if leasts[number] is None:
            for member in group_members(joined, number):
                leasts[member] = number
    return leasts


def group_members(joined, number):
    """Return the list of the members of the group of a number."""
    members = {number: True}
    left = [number]
    while left:
        member = left.pop()
        for other in joined[member]:
            if other not in members:
                members[other] = True
                left.append(other)
    return list(members)
