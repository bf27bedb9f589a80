"""The state of an expansion: its input and output, scopes, counters, and what is still allowed."""

from macromarkup.faults import TOO_MANY, TextFault
from macromarkup.lexis import MARK, PARAMETER

EXPANSIONS = 200
MOST_TOKENS = 3000


class Macro:
    """A macro: how many arguments it takes, its default (None without one) and its body."""

    def __init__(self, takes, default, body):
        self.takes = takes
        self.default = default
        self.body = body


class Environment:
    """A defined environment: how many arguments it takes, and what stands for its beginning and its end."""

    def __init__(self, takes, first, last):
        self.takes = takes
        self.first = first
        self.last = last


class Scope:
    """The macros and the environments that are valid in a scope, by their names.

    Nothing in a scope is changed: a definition puts another scope in its place. So a scope that
    begins as a copy can be the very one around it.
    """

    def __init__(self, macros, environments):
        self.macros = macros
        self.environments = environments


class State:
    """The state of an expansion.

    The input lies in a list from its end to its beginning. For each open group and environment there
    are its name (None for a group) and its position.
    """

    def __init__(self, tokens):
        self.rest = list(reversed(tokens))
        self.done = []
        self.scopes = [Scope({}, {})]
        self.unclosed = []
        self.counters = {}
        self.allowed = EXPANSIONS

    def enter(self, name, position):
        """Opens a group or an environment and a scope."""
        self.unclosed.append((name, position))
        self.scopes.append(self.scopes[-1])

    def leave(self):
        """Ends the innermost group or environment and its scope."""
        self.unclosed.pop()
        self.scopes.pop()

    def innermost(self):
        """The name of the innermost open environment; None if that is a group or there is none."""
        if not self.unclosed:
            return None
        return self.unclosed[-1][0]

    def add_macro(self, name, macro):
        scope = self.scopes.pop()
        self.scopes.append(Scope(with_name(scope.macros, name, macro), scope.environments))

    def add_environment(self, name, environment):
        scope = self.scopes.pop()
        self.scopes.append(Scope(scope.macros, with_name(scope.environments, name, environment)))

    def replace_by(self, command, tokens):
        """Expands a command to these tokens, among which there can be a mark."""
        if self.allowed == 0 or counted(tokens) + counted(self.rest) > MOST_TOKENS:
            raise TextFault(TOO_MANY, command.position)
        self.allowed -= 1
        self.rest.extend(list(reversed(tokens)))


def with_name(known, name, meaning):
    """A copy of the definitions with one that comes last, also if it replaces another one."""
    result = {}
    for key, kept in known.items():
        if key != name:
            result[key] = kept
    result[name] = meaning
    return result


def counted(tokens):
    """The number of tokens; marks aren't counted."""
    return sum([1 for token in tokens if token.kind != MARK])


def greatest_parameter(tokens):
    """The greatest digit of a parameter among the tokens, 0 if there is none."""
    return max([token.value for token in tokens if token.kind == PARAMETER], default=0)


def filled(tokens, given):
    """The tokens with their parameters replaced by the given arguments."""
    result = []
    for token in tokens:
        if token.kind == PARAMETER:
            result.extend(given[token.value - 1])
        else:
            result.append(token)
    return result
