"""Expands tokens: carries out definitions, macros, conditions and counters."""

from macromarkup.arguments import name_in, take_argument, take_optional
from macromarkup.definitions import run_newcommand, run_newcounter, run_newenvironment, run_setcounter
from macromarkup.definitions import run_stepcounter, show_counter
from macromarkup.faults import BAD_DEFINITION, NOT_CLOSED, NOT_OPENED, UNKNOWN_NAME, TextFault
from macromarkup.language import ENVIRONMENTS, TREE_COMMANDS
from macromarkup.lexis import CLOSING, COMMAND, MARK, OPENING, PARAMETER, SPACE, Token
from macromarkup.state import State, filled


def expanded(tokens):
    """The state at the end of the expansion of these tokens."""
    state = State(tokens)
    while state.rest:
        token = state.rest.pop()
        if token.kind == COMMAND:
            run_command(state, token)
        elif token.kind == MARK:
            state.enter(token.value, token.position)
        elif token.kind == PARAMETER:
            raise TextFault(BAD_DEFINITION, token.position)
        else:
            hand_on(state, token)
    if state.unclosed:
        raise TextFault(NOT_CLOSED, state.unclosed[-1][1])
    return state


def hand_on(state, token):
    """Puts out a token that is no command."""
    if token.kind == OPENING:
        state.enter(None, token.position)
    elif token.kind == CLOSING:
        if not state.unclosed or state.innermost() is not None:
            raise TextFault(NOT_OPENED, token.position)
        state.leave()
    state.done.append(token)


def run_command(state, command):
    name = command.value
    if name in TREE_COMMANDS:
        state.done.append(command)
    elif name in state.scopes[-1].macros:
        run_macro(state, command)
    elif name == "begin":
        run_begin(state, command)
    elif name == "end":
        run_end(state, command)
    elif name == "ifempty":
        run_ifempty(state, command)
    elif name == "ifsame":
        run_ifsame(state, command)
    elif name in ("newcommand", "renewcommand"):
        run_newcommand(state, command)
    elif name == "newenvironment":
        run_newenvironment(state, command)
    elif name == "newcounter":
        run_newcounter(state, command)
    elif name == "setcounter":
        run_setcounter(state, command)
    elif name == "stepcounter":
        run_stepcounter(state, command)
    elif name in ("arabic", "roman", "alph"):
        show_counter(state, command)
    else:
        raise TextFault(UNKNOWN_NAME, command.position)


def run_macro(state, command):
    macro = state.scopes[-1].macros[command.value]
    given = []
    if macro.default is not None:
        chosen = take_optional(state.rest)
        if chosen is None:
            chosen = macro.default
        given.append(chosen)
    while len(given) < macro.takes:
        given.append(take_argument(state.rest, command))
    state.replace_by(command, filled(macro.body, given))


def run_ifempty(state, command):
    asked = take_argument(state.rest, command)
    empty = take_argument(state.rest, command)
    other = take_argument(state.rest, command)
    if without_spaces(asked):
        state.replace_by(command, other)
    else:
        state.replace_by(command, empty)


def run_ifsame(state, command):
    first = take_argument(state.rest, command)
    second = take_argument(state.rest, command)
    same = take_argument(state.rest, command)
    other = take_argument(state.rest, command)
    if meanings(first) == meanings(second):
        state.replace_by(command, same)
    else:
        state.replace_by(command, other)


def without_spaces(tokens):
    """The tokens without spaces at both ends."""
    start = 0
    end = len(tokens)
    while start < end and tokens[start].kind == SPACE:
        start += 1
    while end > start and tokens[end - 1].kind == SPACE:
        end -= 1
    return tokens[start:end]


def meanings(tokens):
    """What tells whether tokens are the same: all but their positions and the spaces at both ends."""
    return [(token.kind, token.value) for token in without_spaces(tokens)]


def run_begin(state, command):
    argument = take_argument(state.rest, command)
    name = name_in(argument, command)
    environments = state.scopes[-1].environments
    if name in environments:
        environment = environments[name]
        given = []
        while len(given) < environment.takes:
            given.append(take_argument(state.rest, command))
        state.replace_by(command, filled(environment.first, given) + [Token(MARK, command.position, name)])
    elif name in ENVIRONMENTS:
        state.enter(name, command.position)
        put_out(state, command, argument)
    else:
        raise TextFault(UNKNOWN_NAME, command.position)


def run_end(state, command):
    argument = take_argument(state.rest, command)
    name = name_in(argument, command)
    if state.innermost() != name:
        raise TextFault(NOT_OPENED, command.position)
    environments = state.scopes[-1].environments
    state.leave()
    if name in environments:
        state.replace_by(command, environments[name].last)
    elif name in ENVIRONMENTS:
        put_out(state, command, argument)
    else:
        raise TextFault(UNKNOWN_NAME, command.position)


def put_out(state, command, argument):
    """Puts out the beginning or the end of an environment of the language."""
    state.done.append(command)
    state.done.append(Token(OPENING, command.position, None))
    state.done.extend(argument)
    state.done.append(Token(CLOSING, command.position, None))
