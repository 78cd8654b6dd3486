"""Scripts that haul barges, tie ropes and cut them."""

from haulropes.checks import FARTHEST, is_barge, is_number
from haulropes.errors import ExecutionFailed, HaulError, StepLimitExceeded
from haulropes.harbor import Harbor
from haulropes.statements import is_place, is_variable, parse_script

MOST_STEPS = 300


def run_script(fleet, positions, source):
    """Return the fleet, the positions, the total distance and the variables after a script."""
    run = execute_script(fleet, positions, source)
    harbor = run.harbor
    return harbor.current_fleet(), harbor.current_positions(), harbor.distance(), run.variables


def trace_script(fleet, positions, source):
    """Return the list of the operations that a script executes."""
    return execute_script(fleet, positions, source).harbor.history()


def execute_script(fleet, positions, source):
    """Return the run of a script that has come to its end."""
    run = Run(Harbor(fleet, positions))
    run.run_block(parse_script(source))
    return run


class Run:
    """A harbor, the variables of a script that runs on it, and the number of its steps."""

    def __init__(self, harbor):
        self.harbor = harbor
        self.variables = {}
        self.steps = 0

    def run_block(self, statements):
        """Execute statements one after another."""
        for statement in statements:
            self.begin_step()
            self.execute(statement)

    def begin_step(self):
        """Count a step."""
        if self.steps == MOST_STEPS:
            raise StepLimitExceeded("the script takes too many steps")
        self.steps += 1

    def execute(self, statement):
        """Execute a statement, with its blocks."""
        word = statement.words[0]
        if word == "repeat":
            self.execute_repeat(statement)
        elif word == "while":
            self.execute_while(statement)
        elif word == "if":
            self.execute_if(statement)
        elif word in ("set", "add"):
            self.assign(statement)
        else:
            self.operate(statement)

    def execute_repeat(self, statement):
        """Execute a block as many times as its statement says."""
        for _ in range(self.evaluate(statement, 1)):
            self.begin_step()
            self.run_block(statement.block)

    def execute_while(self, statement):
        """Execute a block as long as its comparison holds."""
        while self.holds(statement):
            self.begin_step()
            self.run_block(statement.block)

    def execute_if(self, statement):
        """Execute the block that a comparison chooses."""
        if self.holds(statement):
            self.run_block(statement.block)
        elif statement.otherwise is not None:
            self.run_block(statement.otherwise)

    def assign(self, statement):
        """Give a variable a value, or add the value to it."""
        word, variable, _ = statement.words
        value = self.evaluate(statement, 2)
        if word == "add":
            value += self.variables.get(variable, 0)
        if not is_number(value, -FARTHEST, FARTHEST):
            raise ExecutionFailed(statement.row)
        self.variables[variable] = value

    def operate(self, statement):
        """Execute an operation on the harbor."""
        operation = self.find_operation(statement)
        try:
            self.harbor.apply_all([operation])
        except HaulError:
            raise ExecutionFailed(statement.row)

    def find_operation(self, statement):
        """Return the operation for which a statement stands now."""
        words = statement.words
        first = self.evaluate(statement, 1)
        if words[0] == "cut":
            return "cut", first
        if words[0] == "tie":
            return "tie", (first, self.evaluate(statement, 2), int(words[3]))
        position = self.evaluate(statement, 3)
        if words[2] == "by":
            position += self.find_place(statement, first)
        return "haul", first, position

    def holds(self, statement):
        """Return whether the comparison in a statement holds now."""
        left = self.evaluate(statement, 1)
        sign = statement.words[2]
        right = self.evaluate(statement, 3)
        if sign == "<":
            return left < right
        if sign == ">":
            return left > right
        return left == right

    def evaluate(self, statement, index):
        """Return what the value with this index among the words of a statement is now."""
        word = statement.words[index]
        if is_variable(word):
            return self.variables.get(word, 0)
        if is_place(word):
            return self.find_place(statement, int(word[1]))
        return int(word)

    def find_place(self, statement, barge):
        """Return the position of a barge."""
        positions = self.harbor.current_positions()
        if not is_barge(barge, len(positions)):
            raise ExecutionFailed(statement.row)
        return positions[barge]
