"""What holds of every call: it leaves what it is handed, keeps nothing, prints nothing, answers whole numbers."""

import contextlib
import copy
import io


def refuse(self, *args, **kwargs):
    raise AssertionError("a list that was handed in is changed")


class Kept(list):
    """A list that can't be changed, not for a while either."""

    __setitem__ = __delitem__ = __iadd__ = __imul__ = refuse
    append = clear = extend = insert = pop = remove = reverse = sort = refuse


def check_call(case, call, arguments, between):
    """Call with these arguments, and again behind other calls: between is done meanwhile."""
    handed = copy.deepcopy(arguments)
    said = io.StringIO()
    with contextlib.redirect_stdout(said), contextlib.redirect_stderr(said):
        answer = call(*handed)
        case.assertEqual(handed, arguments)
        case.assertIs(type(answer), list)
        case.assertEqual({type(number) for number in answer}, {int})
        first = list(answer)
        # What is done to an answer must not show in another one.
        answer.append(5)
        answer[0] = 77
        case.assertEqual(call(*handed), first)
        between()
        case.assertEqual(call(*handed), first)
        kept = [Kept(argument) if isinstance(argument, list) else argument for argument in arguments]
        case.assertEqual(call(*kept), first)
    case.assertEqual(handed, arguments)
    case.assertEqual(said.getvalue(), "")
