"""The work on a tree that was cut: who knows what, and which messages are on the wire."""

from treeworkers.worth import worth

GIVEN_OUTCOME = 0


class Message:
    def __init__(self, sender, receiver, instance, outcome):
        self.sender = sender
        self.receiver = receiver
        self.instance = instance
        self.outcome = outcome


class Work:
    def __init__(self, tree, cuts):
        self.tree = tree
        self.owners = owners_of(tree.nodes, cuts)
        self.homes = [home_of(instance, self.owners) for instance in tree.instances]
        self.receivers = receivers_of(tree.instances, self.homes)
        self.users = users_of(tree.instances)
        self.known = [{} for node in cuts]
        self.messages = []


# A parent stands before its children, so its owner is known by then.
def owners_of(nodes, cuts):
    owners = []
    for number, node in enumerate(nodes):
        if number in cuts:
            owners.append(cuts.index(number))
        else:
            owners.append(owners[node.parent])
    return owners


def home_of(instance, owners):
    if instance.equation is None:
        return 0
    return owners[instance.equation_node]


# None stands where there is no receiver.
def receivers_of(instances, homes):
    receivers = [None for instance in instances]
    for number, instance in enumerate(instances):
        for name in instance.meanings.values():
            if homes[name] != homes[number]:
                receivers[name] = homes[number]
    return receivers


# For each instance the ones whose equations name it.
def users_of(instances):
    users = [[] for instance in instances]
    for number, instance in enumerate(instances):
        for name in instance.meanings.values():
            users[name].append(number)
    return users


def is_ready(work, number):
    known = work.known[work.homes[number]]
    if number in known:
        return False
    return all([name in known for name in work.tree.instances[number].meanings.values()])


def outcome_of(work, number):
    instance = work.tree.instances[number]
    if instance.equation is None:
        return GIVEN_OUTCOME
    known = work.known[work.homes[number]]
    outcomes = {}
    for occurrence, name in instance.meanings.items():
        outcomes[occurrence] = known[name]
    return worth(instance.equation.top, outcomes, work.tree.nodes[instance.equation_node].number)


# Tells whether a message was sent.
def work_out(work, number):
    home = work.homes[number]
    receiver = work.receivers[number]
    outcome = outcome_of(work, number)
    work.known[home][number] = outcome
    if receiver is None:
        return False
    work.messages.append(Message(home, receiver, number, outcome))
    return True


# Answers how many were worked out, and how many messages were sent.
def work_out_ready(work, worker, most):
    numbers = [number for number, home in enumerate(work.homes) if home == worker]
    ready = [number for number in numbers if is_ready(work, number)]
    count = 0
    sent = 0
    while ready and count < most:
        chosen = min(ready)
        ready.remove(chosen)
        if work_out(work, chosen):
            sent += 1
        count += 1
        for user in work.users[chosen]:
            if work.homes[user] == worker and is_ready(work, user):
                ready.append(user)
    return (count, sent)


# Tells whether what the message told was new to its receiver.
def deliver_message(work, place):
    message = work.messages.pop(place)
    known = work.known[message.receiver]
    if message.instance in known:
        return False
    known[message.instance] = message.outcome
    return True
