"""Views: what of a stand counts for what is wished for."""

from pagestrue.topruns import judged_runs
from pagestrue.viewlooks import Quest


def views_along(page, web, stand, wished, runs):
    """The list of the views of what stands, and of what stands behind each run."""
    quest = Quest(page, web, stand, wished)
    return [quest.look.told(view) for view in quest.along(judged_runs(quest.forms, runs))]
