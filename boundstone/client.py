"""A client: sends one request at a time, again and again until it is answered."""

from boundstone.errors import BadLetter, BadOperation, BadServer
from boundstone.keys import contains
from boundstone.letters import check_letter, is_client
from boundstone.limits import DIRECTORY, MOST_SERVERS
from boundstone.operations import is_operation, place
from boundstone.routes import Routes
from boundstone.texts import is_integer


class Client:
    """A client of a group of servers, which returns the letters that it sends with their receivers."""

    def __init__(self, name, count):
        if not is_client(name) or not is_integer(count, 1, MOST_SERVERS):
            raise BadServer("no name of a client, or no number of servers")
        self._name = name
        self._count = count
        self._routes = Routes()
        # All operations that were submitted: those of the accepted requests, and then the queue.
        self._ops = []
        self._accepted = []

    def submit(self, op):
        """Append an operation to the queue, and return the letters that this leads to."""
        if not is_operation(op):
            raise BadOperation("not an operation")
        waits = self.pending() is not None
        self._ops.append(op)
        return [] if waits else self._send()

    def tick(self):
        """Return the letters with which the pending request is sent again."""
        return self._send()

    def receive(self, sender, letter):
        """Take a letter, and return the letters that it leads to."""
        try:
            check_letter(self._count, sender, self._name, letter)
        except BadLetter:
            return []
        if letter[0] == "there":
            return self._learn(letter)
        if letter[0] == "elsewhere":
            return self._forget(sender, letter)
        return self._accept(letter)

    def pending(self):
        """Return the number and the operation of the pending request, or None."""
        done = len(self._accepted)
        if done == len(self._ops):
            return None
        return (done + 1, self._ops[done])

    def accepted(self):
        """Return the accepted requests with their answers, in ascending order of the number."""
        return list(self._accepted)

    def pieces(self):
        """Return what is known of the ranges."""
        return self._routes.pieces()

    def _send(self):
        """Return the letter that sends the pending request, or none if there is no such request."""
        request = self.pending()
        if request is None:
            return []
        number, op = request
        piece = self._routes.find(place(op))
        if piece is None:
            return [(DIRECTORY, ("where", place(op)))]
        return [(piece[2][3], ("ask", number, op))]

    def _learn(self, letter):
        _, low, high, epoch, server = letter
        self._routes.add((low, high, epoch, server, 0, ""))
        request = self.pending()
        if request is None or not contains(low, high, place(request[1])):
            return []
        return self._send()

    def _forget(self, sender, letter):
        if self._is_pending(letter[1]):
            spot = place(self.pending()[1])
            piece = self._routes.find(spot)
            # A route that came later may name another server, and this one does not speak of it.
            if piece is not None and piece[2][3] == sender:
                self._routes.drop(spot)
        return []

    def _accept(self, letter):
        _, number, answer = letter
        if not self._is_pending(number):
            return []
        self._accepted.append(self.pending() + (answer,))
        return self._send()

    def _is_pending(self, number):
        request = self.pending()
        return request is not None and request[0] == number
