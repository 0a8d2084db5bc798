"""What hands say of patches, and which patches are accepted by it."""

from quiltward.demands import Lacks, counting
from quiltward.errors import VouchError
from quiltward.patches import is_hand, is_id, is_tuple_of, is_within, needs
from quiltward.sets import all_needs, order_of

MOST_NUMBER = 99999


def check_record(key, what):
    """Return None for a pair and a record that are as told; raise VouchError otherwise."""
    if not is_tuple_of(key, 2) or not is_hand(key[0]) or not is_within(key[1], 1, MOST_NUMBER):
        raise VouchError("key")
    if what[0] == "withdraw":
        if not is_within(what[1], 1, key[1] - 1):
            raise VouchError("number")
    elif not is_id(what[1]):
        raise VouchError("id")


def with_record(records, key, what):
    """Return records with one more."""
    check_record(key, what)
    if key in records and records[key] != what:
        raise VouchError("other")
    rows = {one: records[one] for one in records}
    rows[key] = what
    return rows


def standing_records(records):
    """Return a dict from the pairs of the records that stand to True."""
    found, fallen = {}, {}
    # Only later records of a hand take one back, so it is settled when its turn comes from the end.
    for hand, number in sorted(records)[::-1]:
        if (hand, number) not in fallen:
            found[(hand, number)] = True
            word, told = records[(hand, number)]
            if word == "withdraw":
                fallen[(hand, told)] = True
    return found


class Said:
    """What the records that stand say."""

    def __init__(self, records):
        self.records = {key: records[key] for key in sorted(standing_records(records))}
        self.numbers = {}
        for hand, number in self.records:
            # The least number of a hand comes first, and stays.
            self.numbers.setdefault(self.records[(hand, number)], {}).setdefault(hand, number)

    def least_numbers(self, name, word):
        """Return a dict from the hands that agree to a patch, or refuse it, ascending, to their least numbers."""
        return self.numbers.get((word, name), {})

    def agreeing(self, demand, name):
        """Return the list of the pairs (hand, number) of the hands that agree to a patch and count in a demand."""
        least = self.least_numbers(name, "agree")
        return [(hand, least[hand]) for hand in counting(demand, name[1]) if hand in least]

    def is_met(self, demand, name):
        """Return whether a demand is met for a patch itself."""
        if demand[0] == "some":
            return len(self.agreeing(demand, name)) >= demand[1]
        refusing = self.least_numbers(name, "refuse")
        return not any(hand in refusing for hand in demand[1])

    def unmet(self, rules, name):
        """Return the list of the indexes of the demands that are not met for a patch itself, ascending."""
        return [index for index, demand in enumerate(rules) if not self.is_met(demand, name)]

    def is_shown(self, demand, name, pairs):
        """Return whether a list of pairs (hand, number) shows that a demand is met for a patch itself."""
        if demand[0] == "none":
            return pairs == [] and self.is_met(demand, name)
        if len(pairs) != demand[1] or len({hand for hand, _ in pairs}) != len(pairs):
            return False
        hands = counting(demand, name[1])
        return all(pair[0] in hands and self.records.get(pair) == ("agree", name) for pair in pairs)

    def wanting(self, rules, name):
        """Return what is wanting for a patch itself, or None."""
        rows = []
        for index in self.unmet(rules, name):
            demand = rules[index]
            if demand[0] == "none":
                return None
            agreed = {hand: True for hand, _ in self.agreeing(demand, name)}
            others = [hand for hand in counting(demand, name[1]) if hand not in agreed]
            rows.append((demand[1] - len(agreed), others))
        return Lacks(rows).shortest()


def said_of(records, name, word):
    """Return the list of the pairs (hand, number) of the hands that agree to a patch, or refuse it, ascending."""
    least = Said(records).least_numbers(name, word)
    return [(hand, least[hand]) for hand in sorted(least)]


def unmet(rules, records, name):
    """Return the list of the indexes of the demands that are not met for a patch itself, ascending."""
    return Said(records).unmet(rules, name)


def accepted(patches, rules, records):
    """Return the set of the accepted patches."""
    said, found = Said(records), {}
    for name in order_of(patches):
        if all(other in found for other in needs(patches[name])) and not said.unmet(rules, name):
            found[name] = patches[name]
    return found


def with_needs(patches, name):
    """Return the list of an id and of all that its patch needs, directly or through others, ascending."""
    return sorted(all_needs(patches, name) + [name])


def ways_on(patches, ways, seen):
    """Return the ways with one id more to ids that were not seen, one way to each of them."""
    rows = {}
    for way in ways:
        for other in needs(patches[way[-1]]):
            if other not in seen and other not in rows:
                rows[other] = way + [other]
    return [rows[other] for other in rows]


def way_to_unmet(patches, rules, said, name):
    """Return the pair of an index and a way with the fewest ids to a patch whose demand with it is not met, or None."""
    ways, seen = [[name]], {}
    while ways:
        found = []
        for way in ways:
            seen[way[-1]] = True
            found.extend([(index, way) for index in said.unmet(rules, way[-1])[:1]])
        if found:
            return min(found)
        ways = ways_on(patches, ways, seen)
    return None


def shown_lists(rules, said, name):
    """Return the list of the lists of pairs that show that each demand is met for a patch itself."""
    return [said.agreeing(demand, name)[:demand[1]] if demand[0] == "some" else [] for demand in rules]


def why(patches, rules, records, name):
    """Return a paper that tells why a patch is accepted or not."""
    said = Said(records)
    found = way_to_unmet(patches, rules, said, name)
    if found is not None:
        return "no", found[1], found[0]
    return "yes", [(one, shown_lists(rules, said, one)) for one in with_needs(patches, name)]


def row_right(rules, said, name, lists):
    """Return whether lists, one for each demand, show that all demands are met for a patch itself."""
    if len(lists) != len(rules):
        return False
    return all([said.is_shown(demand, name, pairs) for demand, pairs in zip(rules, lists)])


def way_right(patches, name, way):
    """Return whether a list of ids begins with an id, and each of them needs the next one."""
    if not way or way[0] != name:
        return False
    return all(way[k + 1] in needs(patches[way[k]]) for k in range(len(way) - 1))


def why_right(patches, rules, records, name, paper):
    """Return whether a paper is accepted."""
    said = Said(records)
    if paper[0] == "no":
        return way_right(patches, name, paper[1]) and paper[2] in said.unmet(rules, paper[1][-1])
    if [one for one, _ in paper[1]] != with_needs(patches, name):
        return False
    return all(row_right(rules, said, one, lists) for one, lists in paper[1])


def wanting_for(rules, records, name):
    """Return the shortest list of hands by which the demands would be met for a patch itself, or None."""
    return Said(records).wanting(rules, name)


def wanting(patches, rules, records, name):
    """Return the list of the pairs of an id and what is wanting, for a patch and all that it needs, ascending."""
    said = Said(records)
    return [(one, said.wanting(rules, one)) for one in with_needs(patches, name)]
