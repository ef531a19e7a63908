"""Numbers that are put together into groups."""


class Groups:
    """The numbers below a count, each in a group of its own until groups are united."""

    def __init__(self, count):
        # Each number leads to a smaller one of its group; the smallest one of a group leads to itself.
        self._links = list(range(count))

    def root(self, number):
        """The smallest number of the group of a number."""
        at = number
        while self._links[at] != at:
            # Shortening the way on each walk keeps later walks short.
            self._links[at] = self._links[self._links[at]]
            at = self._links[at]
        return at

    def unite(self, number, other):
        """Makes the groups of two numbers one group."""
        smaller, greater = sorted([self.root(number), self.root(other)])
        self._links[greater] = smaller

    def indexes(self):
        """For each number the index of its group, where groups are counted in the order of their smallest numbers."""
        found = []
        group_count = 0
        for number in range(len(self._links)):
            root = self.root(number)
            if root == number:
                found.append(group_count)
                group_count += 1
            else:
                found.append(found[root])
        return found
