"""What is worked out of a box. It is dear to make, and a box never changes, so it is kept once it was asked for."""

from splicedfilms.nets import Costs, Net
from splicedfilms.parts import Parts
from splicedfilms.routes import Routes
from splicedfilms.states import table_of_web
from splicedfilms.webs import Web


class Workings:
    """The workings of a box. They are only read, and no caller of the program gets them."""

    def __init__(self, strips, rules):
        self._strips = strips
        self._rules = rules
        self._web = None
        self._table = None
        self._net = None
        self._routes = None
        self._parts = None
        self._lots = None

    def web(self):
        """Return the web of the box."""
        if self._web is None:
            self._web = Web(self._strips, self._rules)
        return self._web

    def table(self):
        """Return the table of the box."""
        if self._table is None:
            self._table = table_of_web(self.web(), self.pictures())
        return self._table

    def pictures(self):
        """Return the text of the unlike pictures of the box, ascending."""
        return "".join(sorted(set("".join(self._strips + ["".join(rule) for rule in self._rules]))))

    def net(self):
        """Return the net of the box where ways are worth what they cost."""
        if self._net is None:
            self._net = Net(self._strips, self._rules, Costs())
        return self._net

    def routes(self):
        """Return the routes of the box."""
        if self._routes is None:
            self._routes = Routes(self.net(), self._rules)
        return self._routes

    def parts(self):
        """Return the parts of the box, without the rules by which nothing is spliced."""
        if self._parts is None:
            rules = [index for index in range(len(self._rules)) if self.web().splices_by(index)]
            self._parts = Parts(len(self._strips), rules)
        return self._parts

    def lots(self):
        """Return the net of the box where ways are worth the lot of the parts by which they lead."""
        if self._lots is None:
            self._lots = Net(self._strips, self._rules, self.parts())
        return self._lots
