"""A clause is executed by its meaning, with a store of any sort (see tapline/run_code.py)."""

from tapline.doer import Doer
from tapline.faults import Fault
from tapline.scene import Scene


def do_clause(script, index, view, store):
    """The tuple of the deeds of a clause of a typed script that fires at a view."""
    _, predicate, kinds, actions = script[4][index]
    scene = Scene(view, store, kinds)
    doer = Doer(store, view[0][4])
    try:
        if predicate is None or scene.number_of(predicate) != 0:
            do_actions(scene, doer, actions)
    except Fault as why:
        doer.fault(why.word)
    return doer.told()


def do_actions(scene, doer, actions):
    for action in actions:
        word = action[0]
        if word == "stop":
            doer.stop()
            return
        if word == "set":
            do_set(scene, doer, action[1], action[2])
        elif word == "put":
            do_put(scene, doer, action)
        elif word in ("trace", "say"):
            doer.record(word, scene.values_of(action[1]))
        elif word == "speculate":
            doer.speculate(scene.number_of(action[1]))
        elif word == "commit":
            doer.commit(scene.number_of(action[1]))
        else:
            doer.discard(scene.number_of(action[1]))


def do_set(scene, doer, target, expr):
    word = target[0]
    i = target[1]
    keys = ()
    if word == "array":
        keys = scene.values_of(target[2])
    value = scene.value_of(expr)
    if word == "local":
        scene.set_local(i, value)
    elif word == "global":
        doer.set_global(i, value)
    elif word == "thread":
        doer.set_thread(i, value)
    else:
        doer.set_array(i, keys, value)


def do_put(scene, doer, action):
    _, i, exprs, expr = action
    keys = scene.values_of(exprs)
    n = None
    if expr is not None:
        n = scene.number_of(expr)
    doer.put(i, keys, n)
