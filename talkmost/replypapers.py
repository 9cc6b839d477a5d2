"""Reply papers: numbers that show that no plan of a kind gets more than a value."""

from talkmost.draws import size
from talkmost.plans import are_plans
from talkmost.ratio import at_most, cover, greatest, is_fraction, nested_numbers
from talkmost.replies import choice_numbers, end_values, report_sums
from talkmost.talks import own_bounds, rounds


def reply_paper(game, talk, plans, h, i):
    """Return a reply paper that is accepted for the best total: the best numbers."""
    levels = choice_numbers(game, talk, plans, h, i)
    return [[greatest(numbers) for numbers in level] for level in levels]


def judge_reply(game, talk, plans, h, i, value, paper):
    """Return whether the paper is accepted for the value."""
    if not are_plans(game, talk, plans) or not is_reply_paper(talk, h, paper) or not is_fraction(value):
        return False
    levels = [report_sums(talk, h, r, paper[r + 1]) for r in range(rounds(talk))]
    levels.append(end_values(game, talk, plans, h, i))
    covered = all([cover(numbers, lists) for numbers, lists in zip(paper, levels)])
    return covered and at_most(paper[0][0], value)


def is_reply_paper(talk, h, paper):
    """Return whether there is a number for each own history, by rounds and at the end."""
    if len(paper) != rounds(talk) + 1:
        return False
    return all([
        nested_numbers(numbers, [size(own_bounds(talk, h, r))]) for r, numbers in enumerate(paper)
    ])
