"""What a job is, and which jobs can all be done in time."""

from finebook.errors import NoJob


def check_jobs(jobs):
    for place, job in enumerate(jobs):
        if job[0] < 1 or job[1] < 0:
            raise NoJob(f"no job at place {place}: the end is below one or the fine below nought")


# If any order is in time, the one by rising ends is: where a job stands ahead
# of one with an earlier end, the two can change their ticks.
def by_end(jobs, places):
    return sorted(places, key=lambda place: (jobs[place][0], place))


def ending_by(jobs, places, tick):
    return sorted([place for place in places if jobs[place][0] <= tick])


# A job that comes too late in the order by ends proves the tick: it and all
# ahead of it end by its end, and they are more than the ticks up to there.
def order_or_tick(jobs, places):
    order = by_end(jobs, places)
    for ahead, place in enumerate(order):
        end = jobs[place][0]
        if end <= ahead:
            return ("tick", end, ending_by(jobs, places, end))
    return ("order", order)


# All jobs are checked, not only those of the places: one wrong job refuses all.
def in_time(jobs, places):
    check_jobs(jobs)
    return order_or_tick(jobs, places)
