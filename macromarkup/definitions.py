"""The commands that define macros, environments and counters, and those that use counters."""

from macromarkup.arguments import label_of, name_in, number_of, take_argument, take_optional
from macromarkup.faults import BAD_DEFINITION, INVALID, NO_COUNTER, TextFault
from macromarkup.language import ENVIRONMENTS, is_language_command
from macromarkup.lexis import COMMAND, characters
from macromarkup.numerals import GREATEST_ROMAN, roman_text
from macromarkup.state import Environment, Macro, greatest_parameter

MOST_PARAMETERS = 9
ALPHABET = "abcdefghijklmnopqrstuvwxyz"


def run_newcommand(state, command):
    """Carries out newcommand and renewcommand."""
    target = take_argument(state.rest, command)
    number = take_optional(state.rest)
    default = None
    if number is not None:
        default = take_optional(state.rest)
    body = take_argument(state.rest, command)
    macro = Macro(optional_number(number, command), default, body)
    if not can_be_defined(state, command, target) or not is_sound_macro(macro):
        raise TextFault(BAD_DEFINITION, command.position)
    state.add_macro(target[0].value, macro)


def optional_number(number, command):
    if number is None:
        return 0
    return number_of(number, command)


def can_be_defined(state, command, target):
    """Whether the target is a single command that this definition can give a meaning."""
    if len(target) != 1 or target[0].kind != COMMAND or is_language_command(target[0].value):
        return False
    return (target[0].value in state.scopes[-1].macros) == (command.value == "renewcommand")


def is_sound_macro(macro):
    """Whether the number of arguments fits the default and the parameters."""
    if macro.takes > MOST_PARAMETERS or greatest_parameter(macro.body) > macro.takes:
        return False
    return macro.default is None or macro.takes > 0 and greatest_parameter(macro.default) == 0


def run_newenvironment(state, command):
    name = name_in(take_argument(state.rest, command), command)
    number = take_optional(state.rest)
    first = take_argument(state.rest, command)
    last = take_argument(state.rest, command)
    takes = optional_number(number, command)
    if name in ENVIRONMENTS or name in state.scopes[-1].environments or takes > MOST_PARAMETERS:
        raise TextFault(BAD_DEFINITION, command.position)
    if greatest_parameter(first) > takes or greatest_parameter(last) > 0:
        raise TextFault(BAD_DEFINITION, command.position)
    state.add_environment(name, Environment(takes, first, last))


def run_newcounter(state, command):
    label = label_of(take_argument(state.rest, command), command)
    if label in state.counters:
        raise TextFault(BAD_DEFINITION, command.position)
    state.counters[label] = 0


def run_setcounter(state, command):
    target = take_argument(state.rest, command)
    number = take_argument(state.rest, command)
    label = label_of(target, command)
    value = number_of(number, command)
    counter_value(state, label, command)
    state.counters[label] = value


def run_stepcounter(state, command):
    label = label_of(take_argument(state.rest, command), command)
    state.counters[label] = counter_value(state, label, command) + 1


def counter_value(state, label, command):
    if label not in state.counters:
        raise TextFault(NO_COUNTER, command.position)
    return state.counters[label]


def show_counter(state, command):
    """Carries out arabic, roman and alph."""
    label = label_of(take_argument(state.rest, command), command)
    value = counter_value(state, label, command)
    if command.value == "arabic":
        text = str(value)
    elif command.value == "roman" and 1 <= value <= GREATEST_ROMAN:
        text = roman_text(value)
    elif command.value == "alph" and 1 <= value <= len(ALPHABET):
        text = ALPHABET[value - 1]
    else:
        raise TextFault(INVALID, command.position)
    state.done.extend(characters(text, command.position))
