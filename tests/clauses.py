"""Clauses that tests try at views: by their meaning, by the second meaning of the tests, and by their code."""

from second_meaning import SecondMeaning
from stores import Store

from tapline.check import typed_script
from tapline.clause_meaning import do_clause
from tapline.compile_clause import compile_clause
from tapline.run_code import run_code

MEMORY = tuple((3 * k + 7) % 256 for k in range(256))
EVENT = ("entry", 2, 77, 1, 3, 40, (5, 600, 70))
VIEW = (EVENT, (11, 22, 33, 65535), MEMORY)
TICK = (("tick", 1, 8, -1, -1, -1, ()), (0, 0, 0, 0), ())

DECLARED = """
int g; int h; str s; int a[int]; str b[str, int]; thread int t; thread str u;
"""


def script_of(actions, head=""):
    """A typed script with DECLARED and one clause at entry and tick; head may have a predicate."""
    return typed_script(DECLARED + "probe entry, tick " + head + "{ " + actions + " }")


def with_expr(expr):
    """The script of one clause that traces a typed expression, with locals of both kinds."""
    patterns = (("entry", None, None), ("tick", None, None))
    clause = (patterns, None, ("int", "str"), (("trace", (expr,)),))
    return script_of("")[:4] + ((clause,),)


def all_ways(script, view=VIEW, prepare=None, index=0, **given):
    """The deeds and the store of a clause; all ways to execute it must agree, to the last sign."""
    results = []
    code = compile_clause(script, index)
    for way in (lambda store: do_clause(script, index, view, store),
                lambda store: run_code(code, view, store),
                lambda store: SecondMeaning(script[4][index], view, store).run()):
        store = Store(script, **given)
        if prepare is not None:
            prepare(store)
        results.append((way(store), store))
    for deeds, store in results[1:]:
        if repr((deeds, store.log)) != repr((results[0][0], results[0][1].log)):
            raise AssertionError((results[0][0], deeds, results[0][1].log, store.log))
    return results[0]


def deeds_of(actions, view=VIEW, head="", prepare=None, **given):
    return all_ways(script_of(actions, head), view, prepare, **given)[0]


def value_of(text, view=VIEW, prepare=None, **given):
    """What an expression, written in the language, gives: a value, or the word of a fault."""
    return only_value(deeds_of(f"trace({text});", view, "", prepare, **given))


def typed_value(expr, view=VIEW, prepare=None, **given):
    """The same for a typed expression."""
    return only_value(all_ways(with_expr(expr), view, prepare, **given)[0])


def only_value(deeds):
    (deed,) = deeds
    if deed[0] == "fault":
        return deed[1]
    if deed[:3] != ("record", None, "trace"):
        raise AssertionError(deed)
    return deed[3][0]
