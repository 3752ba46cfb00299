"""The desk: a modulus, a memory of three cells and a source, operated by lines of text."""

from brimful.errors import BadLine, BadMemory, BadStep, BadText, TooLong
from brimful.judge import judge
from brimful.numbers import are_numbers, is_modulus
from brimful.sources import parse_source
from brimful.texts import number_in, numbers_in, written
from brimful.three import CELLS, answer, compile_source

MOST_FIGURES = 40


class Desk:
    """Follows lines; one that it cannot follow raises BadLine and changes nothing."""

    def __init__(self):
        self._modulus = None
        self._memory = None
        # The program for the source; it has as many steps as the source costs.
        self._program = None

    def do(self, line):
        """Follows the line, and returns the answer."""
        if not isinstance(line, str):
            raise BadLine("a line is a string")
        words = line.split(" ")
        if "" in words:
            raise BadLine("words are separated by single blanks")
        match words:
            case ["modulus", word]:
                return self._take_modulus(word)
            case ["memory", word]:
                return self._take_memory(word)
            case ["source", *rest]:
                return self._take_source(" ".join(rest))
            case ["cost"]:
                return f"{len(self._held_program())}"
            case ["run", word]:
                return self._run_for(word)
            case ["stop", number, word]:
                return self._stop_behind(number, word)
            case ["judge"]:
                return self._judge_program()
            case _:
                raise BadLine("there is no such line")

    def _take_modulus(self, word):
        modulus = number_in(word, MOST_FIGURES)
        if not is_modulus(modulus):
            raise BadLine("the modulus is none")
        self._modulus = modulus
        self._memory = None
        self._program = None
        return "ok"

    def _take_memory(self, word):
        modulus = self._held_modulus()
        memory = numbers_in(word, MOST_FIGURES)
        if not are_numbers(memory, CELLS, modulus):
            raise BadLine(f"the memory is not {CELLS} numbers")
        self._memory = memory
        return "ok"

    def _take_source(self, text):
        modulus = self._held_modulus()
        try:
            self._program = compile_source(parse_source(text), modulus)
        except BadText:
            raise BadLine("this is not the textual form of a source") from None
        except TooLong:
            raise BadLine("the source costs too much") from None
        return "ok"

    def _run_for(self, word):
        program, memory = self._held_program(), self._held_memory()
        try:
            amount, behind = answer(program, memory, numbers_in(word, MOST_FIGURES))
        except BadMemory:
            raise BadLine("the inputs are not those of the source") from None
        return f"{amount} memory {written(behind)}"

    def _stop_behind(self, number, word):
        program, memory = self._held_program(), self._held_memory()
        many, given = number_in(number, MOST_FIGURES), numbers_in(word, MOST_FIGURES)
        try:
            middle = program.part(many).run(memory, given)
            behind = program.called_back(many).run(middle, given)
        except BadStep:
            raise BadLine("the program does not have so many steps") from None
        except BadMemory:
            raise BadLine("the inputs are not those of the source") from None
        return f"{written(middle)} then {written(behind)}"

    def _judge_program(self):
        program = self._held_program()
        try:
            witness = judge(program, 0)
        except (BadStep, TooLong):
            return "unknown"
        return "clean" if witness is None else witness[0]

    def _held_modulus(self):
        if self._modulus is None:
            raise BadLine("there is no modulus yet")
        return self._modulus

    def _held_memory(self):
        if self._memory is None:
            raise BadLine("there is no memory yet")
        return self._memory

    def _held_program(self):
        if self._program is None:
            raise BadLine("there is no source yet")
        return self._program
