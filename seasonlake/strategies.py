"""A strategy as it was told, and what it lets out."""

from seasonlake.lakes import most_letting


class Rule:
    # conditions: tuples ("least", level), ("most", level), ("was", kind's number), ("season", first, last).
    def __init__(self, conditions, letting):
        self.conditions = conditions
        self.letting = letting


class Strategy:
    def __init__(self, rules, otherwise):
        self.rules = rules
        self.otherwise = otherwise


def condition_holds(condition, season, level, before):
    if condition[0] == "least":
        return level >= condition[1]
    if condition[0] == "most":
        return level <= condition[1]
    if condition[0] == "was":
        return before == condition[1]
    return condition[1] <= season <= condition[2]


def rule_holds(rule, season, level, before):
    for condition in rule.conditions:
        if not condition_holds(condition, season, level, before):
            return False
    return True


def wanted_letting(strategy, season, level, before):
    for rule in strategy.rules:
        if rule_holds(rule, season, level, before):
            return rule.letting
    return strategy.otherwise


def strategy_letting(lake, strategy, season, level, before):
    return min(wanted_letting(strategy, season, level, before), most_letting(lake, level))
