"""Papers, looked at without looking for anything: whether one shows that its claim is true."""

from wirelooker.catches import moments_of
from wirelooker.claims import Claims
from wirelooker.paperforms import taken_apart


def paper_holds(catch, wish, begin, end, paper, *, truth=True):
    """Whether a thing is a paper of the claim that a wish is so, or isn't, from a begin on below an end."""
    if not 0 <= begin < end <= moments_of(catch):
        return False
    claims = Claims(catch, wish)
    # A list of what is due, for papers may be deeper than calls should be.
    due = [((0, begin, end, truth), paper)]
    while due:
        claim, thing = due.pop()
        apart = taken_apart(thing)
        if apart is None:
            return False
        head, ends, papers = apart
        under = claims.under(claim, head, ends)
        if under is None:
            return False
        due.extend(list(zip(under, papers)))
    return True
