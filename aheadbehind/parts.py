"""Parts: the greatest box that may run beside a helper."""

from aheadbehind.basics import is_list, is_sign
from aheadbehind.checks import check_few_states, first_wrong
from aheadbehind.errors import InvalidSigns
from aheadbehind.forms import merged, sure_box
from aheadbehind.rows import led, ways_on

MOST_HELPER_STATES = 3
MOST_WHOLE_STATES = 4

# Where the helper gives nothing, the whole is not asked, so all such places are one.
FREE = ((), ())


def room(helper, whole, signs):
    """The form of the greatest box with only these signs that stands, in step with the helper, for the whole."""
    check_signs(signs)
    check_few_states(helper, MOST_HELPER_STATES)
    check_few_states(whole, MOST_WHOLE_STATES)
    helper_ways = ways_on(helper)
    whole_ways = ways_on(whole)

    def lead(node, sign):
        ends = led(helper_ways, node[0], sign)
        if not ends:
            return FREE
        further = led(whole_ways, node[1], sign)
        return (ends, further) if further else None

    sure, _ = sure_box((tuple(helper.starts()), tuple(whole.starts())), sorted(signs), lead)
    return merged(sure)


def check_signs(signs):
    """Raise InvalidSigns unless signs is a list of unlike signs."""
    if not is_list(signs):
        raise InvalidSigns(None)
    position = first_wrong(signs, [is_sign(sign) for sign in signs])
    if position is not None:
        raise InvalidSigns(position)
