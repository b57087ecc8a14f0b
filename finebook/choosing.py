"""Which jobs to do so that the fines are the least, and why the others are left."""

from finebook.jobs import by_end, check_jobs, order_or_tick


def by_falling_fine(jobs):
    return sorted(range(len(jobs)), key=lambda place: jobs[place][1], reverse=True)


# Each job is kept that can still be done with those kept before it, the highest
# fines first. A job that is left gets its tick on the spot: the kept jobs that
# end by it fill all ticks up to it, so no job that is kept later ends by it, and
# none of those that do has a lower fine.
def settle(jobs):
    check_jobs(jobs)
    kept = []
    left = []
    for place in by_falling_fine(jobs):
        answer = order_or_tick(jobs, kept + [place])
        if answer[0] == "order":
            kept.append(place)
        else:
            left.append((place, answer[1]))
    return (sorted(kept), sorted(left))


def chosen(jobs):
    return settle(jobs)[0]


def plan(jobs):
    return by_end(jobs, chosen(jobs))


def fines(jobs):
    return sum([jobs[place][1] for place, tick in reasons(jobs)])


def reasons(jobs):
    return settle(jobs)[1]
