"""Claims, and which papers show that they are so."""

from switchstages.chainclaims import CHAIN_CLAIMS, shows_of_chain
from switchstages.frameclaims import FRAME_CLAIMS, shows_of_frame
from switchstages.laidclaims import LAID_CLAIMS, shows_of_laid
from switchstages.tableclaims import TABLE_CLAIMS, shows_of_table
from switchstages.words import is_row
from switchstages.workclaims import WORK_CLAIMS, shows_of_work

MOST_PARTS = 9


def accepts(claim, paper):
    """Whether claim is a claim, and paper one that shows it, whatever both are."""
    if not is_row(claim, 1, MOST_PARTS) or not isinstance(claim[0], str):
        return False
    kind, parts = claim[0], claim[1:]
    if kind in FRAME_CLAIMS:
        return shows_of_frame(kind, parts, paper)
    if kind in WORK_CLAIMS:
        return shows_of_work(kind, parts, paper)
    if kind in TABLE_CLAIMS:
        return shows_of_table(kind, parts, paper)
    if kind in LAID_CLAIMS:
        return shows_of_laid(kind, parts, paper)
    return kind in CHAIN_CLAIMS and shows_of_chain(kind, parts, paper)
