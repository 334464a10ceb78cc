"""Plans read from texts and written as texts."""

from outgrow.bounds import MOST_AGAIN, MOST_BRACKETS, MOST_NUMBER, MOST_THINGS, is_name
from outgrow.errors import BadText
from outgrow.signs import Reader


def read_plan(text):
    """The plan that is written in a text; BadText where none is."""
    reader = Reader(text)
    plan = read_body(reader)
    if reader.sign() != "":
        raise BadText(reader.spot())
    return plan


def read_body(reader):
    things = [read_thing(reader)]
    while reader.sign() == ";":
        reader.take(";")
        things.append(read_thing(reader))
    return tuple(things)


def read_thing(reader):
    word = reader.take_if(reader.things < MOST_THINGS and reader.sign() in READERS)
    reader.things += 1
    read_rest = READERS[word]
    return read_rest(reader)


def read_bracket(reader):
    """The body that stands next, in brackets."""
    reader.take_if(reader.depth < MOST_BRACKETS and reader.sign() == "(")
    reader.depth += 1
    body = read_body(reader)
    reader.take(")")
    reader.depth -= 1
    return body


def read_end(reader):
    if reader.sign().isdigit():
        return ("", reader.take_number(0, MOST_NUMBER))
    name = reader.take_if(reader.sign() == "n" or is_name(reader.sign()))
    sign = reader.sign()
    if sign not in ("+", "-"):
        return (name, 0)
    reader.take(sign)
    number = reader.take_number(1, MOST_NUMBER)
    return (name, number if sign == "+" else -number)


def read_step(reader):
    return ("step", reader.take_number(0, MOST_NUMBER))


def read_for(reader):
    name = reader.take_name()
    reader.take("from")
    first = read_end(reader)
    reader.take("to")
    last = read_end(reader)
    return ("for", name, first, last, read_bracket(reader))


def read_if(reader):
    lesser = read_end(reader)
    reader.take("<=")
    greater = read_end(reader)
    body = read_bracket(reader)
    other = ()
    if reader.sign() == "else":
        reader.take("else")
        other = read_bracket(reader)
    return ("if", lesser, greater, body, other)


def read_double(reader):
    return ("double", read_bracket(reader))


def read_call(reader):
    name = reader.take_name()
    reader.take("with")
    return ("call", name, read_end(reader))


def read_again(reader):
    number = reader.take_number(1, MOST_AGAIN)
    reader.take("on")
    word = reader.take_if(reader.sign() in ("halves", "thirds", "less"))
    return ("again", number, word)


READERS = {
    "step": read_step,
    "for": read_for,
    "if": read_if,
    "double": read_double,
    "call": read_call,
    "again": read_again,
}


def plan_text(plan):
    """The text of a plan or of a body, from which read_plan reads the same plan."""
    return "; ".join([thing_text(thing) for thing in plan])


def thing_text(thing):
    write = WRITERS[thing[0]]
    return write(thing)


def end_text(end):
    name, number = end
    if name == "":
        return str(number)
    if number == 0:
        return name
    return f"{name} + {number}" if number > 0 else f"{name} - {-number}"


def step_text(thing):
    return f"step {thing[1]}"


def for_text(thing):
    name, first, last, body = thing[1:]
    return f"for {name} from {end_text(first)} to {end_text(last)} ({plan_text(body)})"


def if_text(thing):
    lesser, greater, body, other = thing[1:]
    text = f"if {end_text(lesser)} <= {end_text(greater)} ({plan_text(body)})"
    return f"{text} else ({plan_text(other)})" if other else text


def double_text(thing):
    return f"double ({plan_text(thing[1])})"


def call_text(thing):
    return f"call {thing[1]} with {end_text(thing[2])}"


def again_text(thing):
    return f"again {thing[1]} on {thing[2]}"


WRITERS = {
    "step": step_text,
    "for": for_text,
    "if": if_text,
    "double": double_text,
    "call": call_text,
    "again": again_text,
}
