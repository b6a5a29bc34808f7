"""Whether a plan settles a question, and what of the plan isn't needed for that."""

from leastasks.plans import answer_told, asking, followed, is_ask, place_asked, plan_behind, telling
from leastasks.questions import all_open, answer_to, settled_by, spot_of
from leastasks.rows import rows_of, told_further


def row_mistold(question, plan):
    for row in rows_of(len(question[0])):
        if followed(plan, question[0], row)[0] != answer_to(question, row):
            return row
    return None


def trimmed(question, plan):
    return trimmed_at(question, plan, all_open(question))


def trimmed_at(question, plan, part):
    settled = settled_by(question, part)
    if settled is not None:
        return telling(settled)
    if not is_ask(plan):
        return telling(answer_told(plan))
    spot = spot_of(question, place_asked(plan))
    if_no = trimmed_at(question, plan_behind(plan, 0), told_further(part, spot, 0))
    if_yes = trimmed_at(question, plan_behind(plan, 1), told_further(part, spot, 1))
    if if_no == if_yes:
        return if_no
    return asking(place_asked(plan), if_no, if_yes)
