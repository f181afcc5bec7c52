"""The judge of certificates: it reads lines, one at a time, and does not search."""

from sureplan.checks import checked_goal, checked_start
from sureplan.labels import greater, is_less
from sureplan.layers import Layer, LayerTree
from sureplan.lineforms import form_reason
from sureplan.proofs import Proof
from sureplan.stepchecks import StepCheck
from sureplan.trees import Tree


class Judge:
    """Reads the lines of a certificate for a task, a state and a goal."""

    def __init__(self, task, state=None, goal=None):
        start = checked_start(task, state)
        self.proof = Proof(task, start, checked_goal(task, goal))
        self.facts = len(task.all_facts())
        self.numbers = len(task.all_numbers())
        self.steps = len(task.all_steps())
        self.has_begun = False
        self.has_claim = False
        self.best = 0
        # The tree that is being built, and its shares if it is a tree of a layer.
        self.tree = None
        self.shared = None

    def line(self, line):
        """Returns "right" and carries the line out, or returns the reason why it is not right."""
        reason = form_reason(line)
        if reason != "right":
            return reason
        if self._is_out_of_order(line[0]):
            return "order"
        if not self._has_index(line):
            return "index"
        if self._has_wrong_share(line):
            return "share"
        reason = self._carry_out(line)
        if reason == "right":
            self.has_begun = True
        return reason

    def claim(self):
        """Returns None if no claim was right so far, otherwise the greatest claim: an integer, or "none"."""
        if not self.has_claim:
            return None
        return "none" if self.best is None else self.best

    def _is_out_of_order(self, word):
        layers = self.proof.layers
        if word == "invariant":
            return self.has_begun
        if word in ("sum", "lean", "claim"):
            return self.tree is not None
        if word == "tree":
            return self.tree is not None or not layers or layers[-1].is_full()
        if word == "share":
            return self.shared is None or layers[-1].is_lean or len(self.tree.nodes) > 0
        return self.tree is None

    def _has_index(self, line):
        word = line[0]
        if word == "share":
            return line[1] < self.steps and line[1] not in self.shared.shares
        if word == "fact":
            return line[1] < self.facts
        return word != "number" or line[1] < self.numbers

    def _has_wrong_share(self, line):
        word = line[0]
        if word not in ("tree", "share"):
            return False
        p, q = line[-2:]
        if q == 0 or p > q:
            return True
        return word == "tree" and self.proof.layers[-1].is_lean and p != q

    def _carry_out(self, line):
        word = line[0]
        if word == "label":
            return self._add_leaf(line)
        if word == "claim":
            return self._add_claim(line[1])
        if word == "invariant":
            self.tree = Tree()
        elif word == "tree":
            self.shared = LayerTree(line)
            self.tree = self.shared.tree
        elif word == "share":
            self.shared.tell(line)
        elif word in ("fact", "number"):
            self.tree.write(line)
        else:
            self.proof.layers.append(Layer(word == "lean", self.steps))
        return "right"

    def _add_claim(self, label):
        if is_less(self.proof.start_value(), label):
            return "claim"
        self.has_claim = True
        self.best = greater(self.best, label)
        return "right"

    def _add_leaf(self, line):
        self.tree.write(line)
        if not self.tree.is_complete:
            return "right"
        reason = self._inside_reason() if self.shared is None else self._layer_reason()
        if reason != "right":
            self.tree.take_back()
            return reason
        proof = self.proof
        if self.shared is None:
            proof.inside = self.tree
        else:
            proof.layers[-1].append_tree(self.shared)
        self.tree = None
        self.shared = None
        return "right"

    def _inside_reason(self):
        if self.tree.least_in(self.proof.start) is None:
            return "start"
        return "right" if self.proof.leaving_fault(self.tree) is None else "step"

    def _layer_reason(self):
        proof = self.proof
        if any([p > q for p, q in proof.layers[-1].totals_with(self.shared)]):
            return "share"
        if proof.goal_fault(self.tree) is not None:
            return "goal"
        check = StepCheck(proof, self.shared, proof.relied_on(len(proof.layers) - 1))
        return "right" if check.fault() is None else "step"
