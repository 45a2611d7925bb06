"""The pairing that is told: as many pairs as can be, and the first of those with as many.

Targets that are given away are kept as the bits of one number, so that what is left for the
source marks further on is looked up and not tried out anew.
"""


def most_with_one_more(partners, most_behind):
    most = []
    for taken in range(len(most_behind)):
        pairs = most_behind[taken]
        for target in partners:
            bit = 1 << target
            if (taken & bit) == 0:
                pairs = max(pairs, 1 + most_behind[taken | bit])
        most.append(pairs)
    return most


def most_from_each_on(partner_lists, target_count):
    # The first table is of all source marks, the last of none; each tells by the bits taken.
    tables = [[0] * (1 << target_count)]
    for partners in reversed(partner_lists):
        tables.append(most_with_one_more(partners, tables[-1]))
    return list(reversed(tables))


def first_choice(partners, taken, most_here, most_behind):
    # A target is only taken if no pair is lost by it further on.
    for target in partners:
        bit = 1 << target
        if (taken & bit) == 0 and 1 + most_behind[taken | bit] == most_here[taken]:
            return target + 1
    return 0


def first_pairing(partner_lists, target_count):
    # Of each source mark 0, or 1 more than its target's number; each list of partners goes upwards.
    tables = most_from_each_on(partner_lists, target_count)
    taken = 0
    choices = []
    for place, partners in enumerate(partner_lists):
        choice = first_choice(partners, taken, tables[place], tables[place + 1])
        choices.append(choice)
        if choice > 0:
            taken = taken | (1 << (choice - 1))
    return choices
