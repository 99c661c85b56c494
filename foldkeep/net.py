"""Nets, which model devices, their programs, and the words under way."""

from foldkeep.errors import NoSuchDevice, NoSuchLetter, NotNow
from foldkeep.hosts import Host, host_copy
from foldkeep.keeper import Keeper, keeper_copy


class Net:
    """Devices, each with a host and a keeper, and the letters under way between them."""

    def __init__(self, rules, ignores=()):
        devices = list(range(len(rules)))
        self.hosts = [Host(rule) for rule in rules]
        self.keepers = [Keeper(device, devices, rules[device], ignores) for device in devices]
        self.letters = []

    def program(self, device, deed):
        """Lets a program do a deed on a device."""
        self.host_of(device).program(deed)

    def step(self, device):
        """Lets the keeper ask for an operation and take its answer; returns both, or None if it asks for nothing."""
        operation = self.keeper_of(device).want()
        if operation is None:
            return None
        answer = self.hosts[device].ask(operation)
        self.tell(device, answer)
        return (operation, answer)

    def refuse(self, device):
        """Lets the host refuse what the keeper asks for."""
        asked_of(self.keeper_of(device))
        self.tell(device, ("refused",))

    def unanswered(self, device):
        """Lets the host do what the keeper asks for, and the keeper crash without the answer."""
        operation = asked_of(self.keeper_of(device))
        self.hosts[device].ask(operation)
        self.keepers[device].crash()

    def crash(self, device):
        """Lets the keeper crash."""
        self.keeper_of(device).crash()

    def speak(self, device, other):
        """Lets the keeper of a device speak to another one."""
        keeper = self.keeper_of(device)
        check_device(self, other)
        if device == other:
            raise NotNow("a device does not speak to itself")
        self.letters.extend([(device, other, word) for word in keeper.speak(other)])

    def deliver(self, place):
        """Lets the receiver of a letter hear it."""
        sender, receiver, word = letter_at(self, place)
        del self.letters[place]
        self.send(receiver, self.keepers[receiver].hear(sender, word))

    def lose(self, place):
        """Removes a letter."""
        check_letter(self, place)
        del self.letters[place]

    def again(self, place):
        """Adds a copy of a letter at the end."""
        self.letters.append(letter_at(self, place))

    def wish(self, device, wished):
        """Wishes something of a keeper."""
        self.keeper_of(device).wish(wished)

    def work(self, device, most):
        """Makes steps of a device until it asks for nothing, at most so many; returns how many were made."""
        check_device(self, device)
        for made in range(most):
            if self.step(device) is None:
                return made + 1
        return most

    def post(self, most):
        """Delivers letters, the first one each time, at most so many; returns how many were delivered."""
        many = 0
        while many < most and self.letters != []:
            self.deliver(0)
            many += 1
        return many

    def host_of(self, device):
        """The host of a device."""
        check_device(self, device)
        return self.hosts[device]

    def keeper_of(self, device):
        """The keeper of a device."""
        check_device(self, device)
        return self.keepers[device]

    def fork(self):
        """An equal net that shares nothing that can change."""
        net = Net([])
        net.hosts = [host_copy(host) for host in self.hosts]
        net.keepers = [keeper_copy(keeper) for keeper in self.keepers]
        net.letters = list(self.letters)
        return net

    def tell(self, device, answer):
        """Lets the keeper take an answer, and sends what it says then."""
        self.send(device, self.keepers[device].told(answer))

    def send(self, device, said):
        """Adds what the keeper of a device says, pairs (receiver, word), to the letters."""
        self.letters.extend([(device, receiver, word) for receiver, word in said])


def check_device(net, device):
    """Raises NoSuchDevice if there is no such device."""
    if device < 0 or device >= len(net.hosts):
        raise NoSuchDevice("there is no such device")


def check_letter(net, place):
    """Raises NoSuchLetter if there is no letter at this place."""
    if place < 0 or place >= len(net.letters):
        raise NoSuchLetter("there is no letter at this place")


def letter_at(net, place):
    """The letter at this place."""
    check_letter(net, place)
    return net.letters[place]


def asked_of(keeper):
    """What the keeper asks for; if that is nothing, it stays as it was."""
    # A keeper that asks for nothing may change by being asked, so this is tried with a copy first.
    trial = keeper_copy(keeper)
    if trial.want() is None:
        raise NotNow("the keeper asks for nothing")
    return keeper.want()
