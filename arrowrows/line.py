"""What the calls of one line are about: one category and its instances."""

from arrowrows.category import Category
from arrowrows.category import is_category
from arrowrows.filling import Instance
from arrowrows.filling import is_right
from arrowrows.refusals import HOW_MANY_INSTANCES


def empty_instances(category):
    return [Instance(category) for i in range(HOW_MANY_INSTANCES)]


class Line:
    def __init__(self):
        self.category = Category(1)
        self.instances = empty_instances(self.category)

    def begin_anew(self, things):
        self.category = Category(things)
        self.instances = empty_instances(self.category)

    def put_arrow(self, x, y):
        self.category.ends.append((x, y))
        self.instances = empty_instances(self.category)

    def fulfils(self, need, chosen):
        """Whether what a call needs holds.

        "category": it is a category; "right": it is one, and the chosen
        instances are right; an empty text: nothing is needed.
        """
        if need == "":
            return True
        if not is_category(self.category):
            return False
        return need == "category" or self.all_right(chosen)

    def all_right(self, chosen):
        """Whether the chosen instances are right. It must be a category."""
        for i in chosen:
            if not is_right(self.category, self.instances[i]):
                return False
        return True
