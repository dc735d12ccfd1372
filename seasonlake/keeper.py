"""What one list of calls keeps: the lake, the strategy, and what was reckoned of them."""

from seasonlake.strategies import Strategy
from seasonlake.sureness import all_sure, strategy_sure


class Keeper:
    # sure and sure_by_strategy are None until a call asks for them: reckoning them
    # for each lake and strategy that's told would be in vain for most.
    def __init__(self):
        self.lake = None
        self.sure = None
        self.strategy = Strategy([], 0)
        self.sure_by_strategy = None

    # With None all is as at the beginning.
    def put_lake(self, lake):
        self.lake = lake
        self.sure = None
        self.put_strategy(Strategy([], 0))

    def put_strategy(self, strategy):
        self.strategy = strategy
        self.sure_by_strategy = None


def sure_of(keeper):
    if keeper.sure is None:
        keeper.sure = all_sure(keeper.lake)
    return keeper.sure


def sure_by_strategy_of(keeper):
    if keeper.sure_by_strategy is None:
        keeper.sure_by_strategy = strategy_sure(keeper.lake, keeper.strategy)
    return keeper.sure_by_strategy
