"""SETUPs that the tests of TABLEs, PAPERs and MENDs use; each has just what its name says."""

SHELL = (("group", "give", "listen", "take"), ("group",), ("give", "go", "listen", "take"), ("go",))
WORKED = ((("read",),), ("stop", "go", "stop"), SHELL)

# The largest SETUPs of which the interface promises something: 4 ACTs, 3 with "front", and 8 STEPs; 1 ACT and 10 STEPs.
LARGEST = {
    "three kinds in front": (
        (("front",), ("raw",), ("front",)), ("stop", "go", "go"),
        ((), ("group", "give", "plain", "plain"), (), ("give", "plain", "take", "take"))),
    "one kind in front": (
        (("front", "raw", "plain"),), ("fail", "go", "go"),
        ((), (), ("take", "give", "plain", "plain", "plain", "go"), ("give", "group"))),
    "three jobs": (
        (("front",), ("read",), ("raw",)), ("stop", "stop", "go"),
        (("plain",), ("listen",), (), ("give", "group", "group", "group", "give", "give"))),
    "many modes": (
        (("raw",), ("plain", "raw"), ("write",)), ("fail", "go", "stop"),
        ((), (), ("give", "group", "group", "group"), ("give", "give", "group", "take"))),
    "a long way": (
        (("group", "plain", "write", "raw"),), ("fail", "go", "stop"),
        (("listen",), ("listen",), (), ("give", "take", "give", "plain", "take", "go"))),
    "ten steps": (
        (("front",),), ("stop", "stop", "go"),
        (("group", "give", "listen"), ("group", "go"), ("give", "go", "wait", "take"), ("go",))),
    "two kinds in front": (
        (("raw",), ("front",), ("front",)), ("wait", "go", "go"),
        (("group", "give"), ("take",), ("give", "take", "take", "take", "listen"), ())),
    "counted at the start of many scripts": (
        (("raw",), ("raw", "raw", "raw")), ("fail", "go", "go"),
        (("group", "plain", "group"), (), ("give", "give", "group", "group"), ("plain",))),
}

SETUPS = {
    "worked": WORKED,
    "never takes the front back": ((("read",),), ("stop", "go", "stop"), (("group", "give", "listen"),) + SHELL[1:]),
    "does nothing": ((("read", "hold"),), ("stop", "go", "stop"), ((), (), (), ())),
    "gives the front away": ((("again",),), ("fail", "go", "go"), (("group", "give"), ("group",), ("give",), ())),
    "waits": ((("read",),), ("stop", "go", "stop"), (("group", "give", "wait", "take"), ("group",), ("wait",), ())),
    "raw and writing behind": ((("raw", "write"),), ("stop", "go", "stop"), SHELL),
    "raw by one, written by another": ((("raw",), ("write",)), ("stop", "go", "stop"), SHELL),
    "written plain": ((("raw",), ("write",)), ("stop", "go", "stop"), (
        ("group", "give", "listen", "take", "plain"), ("group",), ("give", "listen", "take", "plain"), ())),
    "takes the front": ((("group", "front"),), ("stop", "go", "go"), (("listen", "take"), (), ("go",), ())),
    "held": ((("hold", "read"),), ("stop", "stop", "stop"), SHELL),
    "waits to read": ((("read",),), ("wait", "go", "stop"), SHELL),
    "three kinds": ((("read",), ("raw",), ("write",)), ("stop", "stop", "go"), SHELL),
    "stuck": ((("again",),), ("stop", "go", "stop"), (("wait",), ("wait",), (), ())),
    "three jobs, few steps": ((("front", "write", "plain"),), ("fail", "stop", "go"), (("give",), ("group", "give"), (), ())),
    "three jobs, four steps": (
        (("front", "write", "group"),), ("wait", "stop", "go"), (("wait",), ("take",), (), ("group", "give"))),
    "counted jobs": (
        (("group", "front", "again"),), ("fail", "go", "go"),
        (("plain",), ("wait", "go", "plain"), ("go",), ("listen", "wait", "group"))),
}

# Those whose TABLEs are small, and want much: jobs of which there are only so many, or that come back in other ways.
SMALL = {
    "out of the front by itself": ((("raw", "group", "plain"),), ("fail", "stop", "stop"), (("give",), ("listen",), ("go",), ())),
    "waits for what never ends": ((("again",),), ("stop", "stop", "go"), (("wait",), ("listen", "go"), (), ())),
    "puts itself in front": ((("group", "front", "hold"),), ("stop", "go", "go"), (("wait",), ("wait",), ("go", "plain"), ())),
    "in front without a group": ((("raw", "front"),), ("fail", "go", "stop"), (("listen", "plain"), (), (), ())),
    "only what stops in front": (
        (("group", "group", "front"),), ("stop", "stop", "stop"), ((), ("give", "listen", "take"), (), ())),
    "no step at all": ((("raw", "group"),), ("wait", "go", "stop"), ((), (), (), ())),
    "once and again": (
        (("again", "raw", "front"),), ("fail", "stop", "stop"),
        (("listen",), ("plain", "group", "give"), ("go", "give"), ())),
    "stays in front": ((("group", "front", "raw"),), ("stop", "go", "go"), ((), (), (), ())),
}
