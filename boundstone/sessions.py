"""The last requests of clients, with their answers."""

from boundstone.errors import BadShard


class Sessions:
    """For each client, the number and the answer of its last request."""

    def __init__(self):
        # From a client to the row of the client, its number and its answer.
        self._last = {}

    def status(self, client, number):
        """Tell whether a request is "new", done "again", or "stale"."""
        if client not in self._last:
            return "new"
        last = self._last[client][1]
        if number == last:
            return "again"
        return "new" if number > last else "stale"

    def answer(self, client):
        """Return the answer to the last request of a client."""
        if client not in self._last:
            raise BadShard("the client has no session")
        return self._last[client][2]

    def remember(self, client, number, answer):
        """Set the last request of a client."""
        if self.status(client, number) != "new":
            raise BadShard("the number is not new")
        self._last[client] = (client, number, answer)

    def rows(self):
        """Return the rows of client, number and answer, in ascending order of the client."""
        return tuple([self._last[client] for client in sorted(self._last)])

    def merged(self, other):
        """Return a new table with the later session of each client, the own one if both are the same."""
        table = self.clone()
        for client, number, answer in other.rows():
            if table.status(client, number) == "new":
                table.remember(client, number, answer)
        return table

    def clone(self):
        """Return an independent copy."""
        table = Sessions()
        table._last = dict(self._last)
        return table
