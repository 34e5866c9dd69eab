"""The texts of processes and scripts."""

from parley.processes import fold, parts
from parley.reading import read_definition, read_process
from parley.scripts import Script
from parley.writing import written


def show_process(process):
    """The text of a process, with the fewest round brackets."""
    return fold(process, parts, lambda place, texts: written(place, kinds_of_parts(place), texts))


def kinds_of_parts(process):
    """The list of the kinds of the parts of a process."""
    return [part[0] for part in parts(process)]


def parse_process(text):
    """The process that a text writes; raises BadText(1) if there is none."""
    return read_process(text, 1)


def format_script(script):
    """The text of a script, one line for each definition."""
    return "\n".join([f"{name} = {show_process(process)}" for name, process in script.definitions])


def parse_script(text):
    """The script that a text writes; raises BadText(line), and then what Script raises."""
    definitions = []
    for number, line in enumerate(text.split("\n"), start=1):
        if line.strip(" ") != "":
            definitions.append(read_definition(line, number))
    return Script(definitions)
