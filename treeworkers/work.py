"""The work on a tree that was cut: who knows what, and which messages are on the wire."""

from treeworkers.worth import worth

GIVEN_OUTCOME = 0


class Message:
    def __init__(self, sender, receiver, instance, outcome):
        self.sender = sender
        self.receiver = receiver
        self.instance = instance
        self.outcome = outcome


class Work:
    def __init__(self, tree, cuts):
        self.tree = tree
        self.owners = owners_of(tree.nodes, cuts)
        self.homes = [home_of(instance, self.owners) for instance in tree.instances]
        self.receivers = receivers_of(tree.instances, self.homes)
        self.users = users_of(tree.instances)
        self.known = [{} for node in cuts]
        self.messages = []
        self.put_count = 0


# A parent stands before its children, so its owner is known by then.
def owners_of(nodes, cuts):
    owners = []
    for number, node in enumerate(nodes):
        if number in cuts:
            owners.append(cuts.index(number))
        else:
            owners.append(owners[node.parent])
    return owners


def home_of(instance, owners):
    if instance.equation is None:
        return 0
    return owners[instance.equation_node]


# None stands where there is no receiver.
def receivers_of(instances, homes):
    receivers = [None for instance in instances]
    for number, instance in enumerate(instances):
        for name in instance.meanings.values():
            if homes[name] != homes[number]:
                receivers[name] = homes[number]
    return receivers


# For each instance the ones whose equations name it.
def users_of(instances):
    users = [[] for instance in instances]
    for number, instance in enumerate(instances):
        for name in instance.meanings.values():
            users[name].append(number)
    return users


def is_ready(work, number):
    known = work.known[work.homes[number]]
    if number in known:
        return False
    return all([name in known for name in work.tree.instances[number].meanings.values()])


def outcome_of(work, number):
    instance = work.tree.instances[number]
    if instance.equation is None:
        return GIVEN_OUTCOME
    known = work.known[work.homes[number]]
    outcomes = {}
    for occurrence, name in instance.meanings.items():
        outcomes[occurrence] = known[name]
    return worth(instance.equation.top, outcomes, work.tree.nodes[instance.equation_node].number)


# Every message goes this way, so that none is left out of the count.
def put_on_wire(work, message):
    work.messages.append(message)
    work.put_count += 1


# Tells whether there was a receiver to send it to.
def send_outcome(work, number):
    home = work.homes[number]
    receiver = work.receivers[number]
    if receiver is None:
        return False
    put_on_wire(work, Message(home, receiver, number, work.known[home][number]))
    return True


# Tells whether a message was sent.
def work_out(work, number):
    work.known[work.homes[number]][number] = outcome_of(work, number)
    return send_outcome(work, number)


# Answers how many were worked out, and how many messages were sent.
def work_out_ready(work, worker, most):
    numbers = [number for number, home in enumerate(work.homes) if home == worker]
    ready = [number for number in numbers if is_ready(work, number)]
    count = 0
    sent = 0
    while ready and count < most:
        chosen = min(ready)
        ready.remove(chosen)
        if work_out(work, chosen):
            sent += 1
        count += 1
        for user in work.users[chosen]:
            if work.homes[user] == worker and is_ready(work, user):
                ready.append(user)
    return (count, sent)


# Tells whether what the message told was new to its receiver.
def deliver_message(work, place):
    message = work.messages.pop(place)
    known = work.known[message.receiver]
    if message.instance in known:
        return False
    known[message.instance] = message.outcome
    return True


# Nothing ever changes a message, so one may stand on the wire twice.
def double_message(work, place):
    put_on_wire(work, work.messages[place])


# Answers how many instances the worker knew.
def forget_all(work, worker):
    count = len(work.known[worker])
    work.known[worker].clear()
    return count


# Answers how many messages were sent.
def resend_known(work, worker):
    sent = 0
    for number, home in enumerate(work.homes):
        if home == worker and number in work.known[worker]:
            if send_outcome(work, number):
                sent += 1
    return sent


# Answers how many instances were worked out, and how many messages were delivered.
def take_turn(work):
    count = 0
    for worker in range(len(work.known)):
        count += work_out_ready(work, worker, len(work.homes))[0]
    delivered = len(work.messages)
    for number in range(delivered):
        deliver_message(work, 0)
    return (count, delivered)


# Answers how many turns changed something, and how many messages were delivered.
def take_all_turns(work):
    turns = 0
    delivered = 0
    turn = take_turn(work)
    while turn != (0, 0):
        turns += 1
        delivered += turn[1]
        turn = take_turn(work)
    return (turns, delivered)


def count_unknown(work):
    return len([number for number, home in enumerate(work.homes) if number not in work.known[home]])


def count_ready(work):
    return len([number for number in range(len(work.homes)) if is_ready(work, number)])
