"""What is defined at the end of an expansion: macros, environments and counters, each as an expression."""

from macromarkup.signs import codes_of, name_of


def macros_of(state):
    """The code points of the expressions of the macros, then of the environments, of the outermost scope."""
    scope = state.scopes[0]
    expressions = []
    for name, macro in scope.macros.items():
        expressions.append(expression("macro", name, [macro.takes, default_mark(macro)]))
    for name, environment in scope.environments.items():
        expressions.append(expression("environment", name, [environment.takes]))
    return separated(expressions)


def default_mark(macro):
    """1 if the macro has a default, otherwise 0."""
    if macro.default is None:
        return 0
    return 1


def counters_of(state):
    """The code points of the expressions of the counters."""
    return separated([expression("counter", name_of(label), [value]) for label, value in state.counters.items()])


def expression(symbol, name, numbers):
    """The expression of something with a name, in which no sign needs an escape sequence, and numbers."""
    return "(" + " ".join([symbol, '"' + name + '"'] + [str(number) for number in numbers]) + ")"


def separated(expressions):
    return codes_of("\n".join(expressions))
