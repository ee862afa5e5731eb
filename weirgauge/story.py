"""What a whole list of deeds tells, and what is there behind it."""

from weirgauge.desk import Desk
from weirgauge.rows import EVENT


def answers(plan, deeds):
    desk = Desk(plan)
    return [desk.do(deed) for deed in deeds]


def standing(plan, deeds):
    desk = desk_behind(plan, deeds)
    return [row for row in desk.rows() if desk.is_closed(row[2])]


def kept_after(plan, deeds):
    desk = desk_behind(plan, deeds)
    return [row + (desk.is_closed(row[2]),) for row in desk.rows() if desk.is_kept(row[2])]


def missed(plan, deeds):
    return desk_behind(plan, deeds).missed


# Without a mark no event is too late, so all of them are counted.
def in_order(plan, events):
    return desk_behind(plan, [(EVENT,) + event for event in events]).rows()


def desk_behind(plan, deeds):
    desk = Desk(plan)
    for deed in deeds:
        desk.do(deed)
    return desk
