"""The dearest kept lot, and prices of times that show that none is dearer."""

from heapq import heappop, heappush

from fewestpours.asks import stretches


class Keeping:
    """How m - 1 units go from the first time to behind the last one, each along stretches or idly.

    Place t lies ahead of time t. A stretch (i, j) leads from place i + 1 to place j, over the times between;
    each unit goes idly over all other times. The height of a place is what one more unit can gain up to it
    at most, given how the others go: so heights never fall, and their steps are the prices of the times.
    """

    def __init__(self, many, spans, worths):
        self.many = many
        self.spans = spans
        self.worths = worths
        self.begun_at = [[] for _ in range(many + 1)]
        self.ended_at = [[] for _ in range(many + 1)]
        for index, (i, j) in enumerate(spans):
            if i + 1 < j:
                self.begun_at[i + 1].append(index)
                self.ended_at[j].append(index)
        # What lies over no time is kept without any unit.
        self.is_kept = [i + 1 == j for i, j in spans]
        self.idle = [0] * many
        self.heights = [0] * (many + 1)
        for place in range(1, many + 1):
            gains = [self.heights[spans[index][0] + 1] + worths[index] for index in self.ended_at[place]]
            self.heights[place] = max([self.heights[place - 1], *gains])

    def steps_from(self, place):
        """A list of the steps that may change how units go.

        Each step is a triple: a place, how much less it gains than the heights tell, and the stretch taken or given
        up, None if it is idle.
        """
        height = self.heights[place]
        steps = []
        if place < self.many:
            steps.append((place + 1, self.heights[place + 1] - height, None))
        if place > 0 and self.idle[place - 1] > 0:
            steps.append((place - 1, self.heights[place - 1] - height, None))
        for index in self.begun_at[place]:
            if not self.is_kept[index]:
                end = self.spans[index][1]
                steps.append((end, self.heights[end] - height - self.worths[index], index))
        for index in self.ended_at[place]:
            if self.is_kept[index]:
                begin = self.spans[index][0] + 1
                steps.append((begin, self.heights[begin] - height + self.worths[index], index))
        return steps

    def send(self):
        """Let one more unit go, so that all together gain as much as they can."""
        losses = [None] * (self.many + 1)
        losses[0] = 0
        came_by = [None] * (self.many + 1)
        waiting = [(0, 0)]
        while waiting:
            loss, place = heappop(waiting)
            if loss == losses[place]:
                for other, less, index in self.steps_from(place):
                    if losses[other] is None or loss + less < losses[other]:
                        losses[other] = loss + less
                        came_by[other] = (place, index)
                        heappush(waiting, (loss + less, other))
        for place, loss in enumerate(losses):
            self.heights[place] -= loss
        self.change_along(came_by)

    def change_along(self, came_by):
        """Let a unit go as told, from the last place back, for each the one ahead of it and the stretch."""
        place = self.many
        while place != 0:
            before, index = came_by[place]
            if index is not None:
                self.is_kept[index] = not self.is_kept[index]
            elif before < place:
                self.idle[before] += 1
            else:
                self.idle[place] -= 1
            place = before


def kept_and_prices(asks, worths, m):
    """A pair: some kept lot for m with the greatest worth, and prices of the times whose bound is just this.

    The worths are those of the stretches, in order.
    """
    spans = stretches(asks)
    keeping = Keeping(len(asks), spans, worths)
    for _ in range(m - 1):
        keeping.send()
    kept = tuple([span for span, is_kept in zip(spans, keeping.is_kept) if is_kept])
    return kept, tuple([keeping.heights[time + 1] - keeping.heights[time] for time in range(len(asks))])
