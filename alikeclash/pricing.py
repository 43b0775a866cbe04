"""Heaviest matchings, grown left end by left end under prices that fall and rise."""


class Pricing:
    """A matching of some left ends of a web, and prices of all ends.

    The prices of both ends of a tie always add up to at least its weight, and to just
    the weight for ties of the matching. Right ends outside the matching have the price 0,
    as have left ends that were taken in and are outside of it.
    """

    def __init__(self, web):
        self._web = web
        self._at_left = {}
        self._left_price = {}
        self._right_price = {}
        self._left_tie = {}
        self._right_tie = {}
        for number, (left, right, weight) in enumerate(web):
            self._at_left.setdefault(left, []).append(number)
            self._left_price[left] = max(weight, self._left_price.get(left, 0))
            self._right_price[right] = 0

    def match_all(self):
        """Take in all left ends."""
        for left in list(self._at_left):
            self.take_in(left)

    def matching(self):
        """The matching."""
        return tuple(sorted(list(self._left_tie.values())))

    def price_of(self, end):
        """The price of an end."""
        return self._left_price[end[1]] if end[0] == "left" else self._right_price[end[1]]

    def take_in(self, root):
        """Give the left end a tie, or leave one out whose price has fallen to 0."""
        tree = [root]
        # For each right end in the tree the tie by which it was reached.
        reached = {}
        while True:
            poorest = min([(self._left_price[left], left) for left in tree])
            slacks = self.slacks_beside(tree, reached)
            if not slacks or poorest[0] <= min(slacks)[0]:
                self.shift(tree, reached, poorest[0])
                self.leave_out(poorest[1], reached)
                return
            slack, tie = min(slacks)
            self.shift(tree, reached, slack)
            right = self._web[tie][1]
            reached[right] = tie
            if right not in self._right_tie:
                self.turn(right, reached)
                return
            tree.append(self._web[self._right_tie[right]][0])

    def slacks_beside(self, tree, reached):
        """By how much prices exceed the weight, for each tie from the tree to a right end outside."""
        slacks = []
        for left in tree:
            for tie in self._at_left[left]:
                _, right, weight = self._web[tie]
                if right not in reached:
                    slacks.append((self._left_price[left] + self._right_price[right] - weight, tie))
        return slacks

    def shift(self, tree, reached, much):
        """Let left prices in the tree fall, and right ones rise, by so much."""
        for left in tree:
            self._left_price[left] -= much
        for right in reached:
            self._right_price[right] += much

    def leave_out(self, left, reached):
        """Take the left end out of the matching, so that the root of the tree comes in."""
        if left in self._left_tie:
            right = self._web[self._left_tie[left]][1]
            del self._left_tie[left]
            self.turn(right, reached)

    def turn(self, right, reached):
        """Match right ends with the ties by which they were reached, from this one back to the root."""
        while right is not None:
            tie = reached[right]
            left = self._web[tie][0]
            before = self._left_tie.get(left)
            self._left_tie[left] = tie
            self._right_tie[right] = tie
            right = None if before is None else self._web[before][1]
