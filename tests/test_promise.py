"""Point 16: what holds whatever calls came, over calls drawn with fixed seeds."""

import random
import unittest

from tests.helper import ask
from tests.test_model import WRITTEN, Maker, Model, flat

MOST_CALLS = 400
NOT_ONCE = ("double", "forget", "resend")


def answered(calls):
    assert len(calls) <= MOST_CALLS
    return ask(*[WRITTEN[call[0]](*call[1:]) for call in calls])


def reached(names, instance):
    """All that the instance names, and what these name, and so on; itself only if it stands in a circle."""
    found, waiting = set(), [instance]
    while waiting:
        for other in names[waiting.pop()] - found:
            found.add(other)
            waiting.append(other)
    return found


def messages(told):
    """The messages that a wire tells: sender, receiver, the instance's two numbers, and the flat form."""
    found, spot = [], 1
    while spot < len(told):
        start = end = spot + 4
        lacking = 1
        while lacking:
            lacking += told[end + 1] - 1 if told[end] == 1 else -1
            end += 2
        found.append((*told[spot:start], told[start:end]))
        spot = end
    return found


class Scene:
    """A tree with its cuts, what its instances' own outcomes are, and calls drawn for it."""

    def __init__(self, seed, left_out=(), count=120):
        maker = Maker(seed, lively=True)
        self.seed = seed
        self.begun, nodes, self.workers = maker.begun()
        maker.names = [name for name in maker.names if name not in left_out]
        self.drawn = [maker.working_call(nodes, self.workers) for number in range(count)]
        self.dice = random.Random(seed)
        model = Model()
        for call in self.begun:
            assert getattr(model, call[0])(*call[1:])[0] == 0
        self.pairs = [tuple(model.two(instance)) for instance in model.instances]
        self.homes = {pair: model.homes[one] for pair, one in zip(self.pairs, model.instances)}
        self.receivers = {pair: model.receivers[one] for pair, one in zip(self.pairs, model.instances)
                          if one in model.receivers}
        self.circular = self.find_circular(model)
        self.forms = self.find_forms(model)

    def find_circular(self, model):
        """The instances that reach a circle."""
        names = {one: set(model.named(one)) for one in model.instances}
        whole = {one: reached(names, one) for one in model.instances}
        standing = {one for one in whole if one in whole[one]}
        return {pair for pair, one in zip(self.pairs, model.instances) if (whole[one] | {one}) & standing}

    def find_forms(self, model):
        """The flat form of each instance's own outcome, worked out as if nothing were cut."""
        alone = Model()
        for call in self.begun[:2] + [("begin",), ("work", 0, 1000)]:
            getattr(alone, call[0])(*call[1:])
        return {tuple(model.two(one)): flat(outcome) for one, outcome in alone.known[0].items()}

    def known(self, calls):
        """What each worker knows behind these calls, asked for by as many lists as it takes."""
        asked = [("knows", worker, *pair) for worker in range(self.workers) for pair in self.pairs]
        room = MOST_CALLS - len(calls)
        found = {}
        for start in range(0, len(asked), room):
            some = asked[start:start + room]
            for call, answer in zip(some, answered(calls + some)[len(calls):]):
                if answer != [1]:
                    assert answer[0] == 0
                    found[(call[1], call[2:])] = answer[1:]
        return found


class Promise(unittest.TestCase):
    def scenes(self, **given):
        return [Scene(seed, **given) for seed in range(40)]


class Draws(Promise):
    def test_circles_faults_lists_and_several_cuts_are_drawn(self):
        scenes = self.scenes()
        self.assertGreater(len([scene for scene in scenes if scene.circular]), 10)
        self.assertGreater(len([scene for scene in scenes if scene.workers > 4]), 10)
        for kind in (0, 1, 2):
            told = [scene for scene in scenes if any(scene.forms.get(pair, [9])[0] == kind for pair in scene.receivers)]
            self.assertGreater(len(told), 10, kind)

    def test_every_call_is_drawn_and_done(self):
        done = {}
        for scene in self.scenes():
            calls = scene.begun + scene.drawn
            for call, answer in zip(calls, answered(calls)):
                done[call[0]] = done.get(call[0], 0) + (answer[0] >= 0)
        for name in WRITTEN:
            self.assertGreater(done[name], 30, name)


class NeverWrong(Promise):
    def check_message(self, scene, message):
        sender, receiver, node, attribute, form = message
        self.assertEqual(sender, scene.homes[(node, attribute)])
        self.assertEqual(receiver, scene.receivers[(node, attribute)])
        self.assertEqual(form, scene.forms[(node, attribute)])
        self.assertNotIn((node, attribute), scene.circular)

    def check_known(self, scene, worker, pair, form):
        self.assertEqual(form, scene.forms[pair])
        self.assertNotIn(pair, scene.circular)
        self.assertIn(worker, (scene.homes[pair], scene.receivers.get(pair)))

    def test_own_outcomes_are_those_of_instances_that_reach_no_circle(self):
        for scene in self.scenes():
            with self.subTest(seed=scene.seed):
                self.assertEqual(set(scene.forms) | scene.circular, set(scene.pairs))
                self.assertEqual(set(scene.forms) & scene.circular, set())

    def test_what_messages_tell(self):
        for scene in self.scenes():
            with self.subTest(seed=scene.seed):
                calls = scene.begun + [one for call in scene.drawn for one in (call, ("wire",))]
                for call, answer in zip(calls, answered(calls)):
                    if call == ("wire",):
                        for message in messages(answer):
                            self.check_message(scene, message)

    def test_what_workers_know(self):
        for scene in self.scenes():
            with self.subTest(seed=scene.seed):
                for count in (40, 120):
                    for (worker, pair), form in scene.known(scene.begun + scene.drawn[:count]).items():
                        self.check_known(scene, worker, pair, form)

    def test_what_is_known_on_the_way(self):
        for scene in self.scenes():
            with self.subTest(seed=scene.seed):
                asked = [("knows", scene.homes[pair], *pair) for pair in scene.pairs]
                calls = list(scene.begun)
                for call in scene.drawn:
                    calls += [call, scene.dice.choice(asked), ("knows", scene.dice.randrange(scene.workers),
                                                               *scene.dice.choice(scene.pairs))]
                for call, answer in zip(calls, answered(calls)):
                    if call[0] == "knows" and answer[0] == 0:
                        self.check_known(scene, call[1], call[2:], answer[1:])


class AllInTheEnd(Promise):
    def wanted(self, scene):
        """What homes and receivers are to know."""
        found = {}
        for pair, form in scene.forms.items():
            found[(scene.homes[pair], pair)] = form
            if pair in scene.receivers:
                found[(scene.receivers[pair], pair)] = form
        return found

    def check_end(self, scene, calls):
        found = answered(calls + [("status",), ("wire",), ("all",)])[-3:]
        self.assertEqual(found[0][:4], [0, len(scene.circular), 0, 0])
        self.assertEqual(found[1:], [[0], [0, 0, 0]])
        self.assertEqual(scene.known(calls), self.wanted(scene))

    def test_behind_all_resend_and_all(self):
        for scene in self.scenes():
            with self.subTest(seed=scene.seed):
                for count in (0, 30, 120):
                    workers = scene.dice.sample(range(scene.workers), scene.workers)
                    ending = [("all",)] + [("resend", worker) for worker in workers] + [("all",)]
                    self.check_end(scene, scene.begun + scene.drawn[:count] + ending)

    def test_behind_all_alone_if_nothing_was_lost_or_forgotten(self):
        for scene in self.scenes(left_out=("lose", "forget")):
            with self.subTest(seed=scene.seed):
                self.check_end(scene, scene.begun + scene.drawn + [("all",)])

    def test_a_resend_is_needed_if_something_was_lost(self):
        lacking = 0
        for scene in self.scenes():
            with self.subTest(seed=scene.seed):
                known = scene.known(scene.begun + scene.drawn + [("all",)])
                lacking += known != self.wanted(scene)
        self.assertGreater(lacking, 5)

    def test_when_all_have_forgotten_all(self):
        for scene in self.scenes():
            with self.subTest(seed=scene.seed):
                calls = scene.begun + [("all",)] + [("forget", worker) for worker in range(scene.workers)]
                self.check_end(scene, calls + [("all",)])

    def test_how_many_turns_and_messages_one_all_takes(self):
        for scene in self.scenes():
            with self.subTest(seed=scene.seed):
                calls = scene.begun + [("all",), ("status",), ("all",)]
                found = answered(calls)[-3:]
                sent = [pair for pair in scene.receivers if pair in scene.forms]
                self.assertEqual(found[0][2], len(sent))
                self.assertEqual(found[1:], [[0, len(scene.circular), 0, 0, len(sent)], [0, 0, 0]])


class NothingTwice(Promise):
    def test_no_instance_is_sent_twice(self):
        for scene in self.scenes(left_out=NOT_ONCE + ("all",)):
            with self.subTest(seed=scene.seed):
                calls = scene.begun + [one for call in scene.drawn for one in (call, ("wire",))]
                found = answered(calls)
                sent = []
                for call, answer, told in zip(calls, found, found[1:]):
                    if call[0] == "work" and answer[0] == 0 and answer[2] > 0:
                        sent += [message[2:4] for message in messages(told)[-answer[2]:]]
                self.assertEqual(len(set(sent)), len(sent))

    def test_as_many_are_put_on_the_wire_as_were_worked_out_and_have_a_receiver(self):
        for scene in self.scenes(left_out=NOT_ONCE):
            with self.subTest(seed=scene.seed):
                for count in (20, 60, 120):
                    calls = scene.begun + scene.drawn[:count]
                    known = scene.known(calls)
                    sent = [pair for pair in scene.receivers if (scene.homes[pair], pair) in known]
                    self.assertEqual(answered(calls + [("status",)])[-1][4], len(sent))


class AnyOrder(Promise):
    def orders(self, scene, count):
        """Deliveries of so many messages: the first one first, the last one first, and drawn."""
        yield [("deliver", 0)] * count
        yield [("deliver", number) for number in reversed(range(count))]
        for time in range(2):
            yield [("deliver", scene.dice.randint(0, number)) for number in reversed(range(count))]

    def test_all_messages_on_the_wire_in_any_order(self):
        compared = 0
        for scene in self.scenes(count=60):
            with self.subTest(seed=scene.seed):
                calls = scene.begun + [("work", worker, 1000) for worker in range(scene.workers)] + scene.drawn
                count = len(messages(answered(calls + [("wire",)])[-1]))
                known = [scene.known(calls + order) for order in self.orders(scene, count)]
                self.assertEqual(known, known[:1] * 4)
                compared += count > 1
        self.assertGreater(compared, 10)

    def run_to_the_end(self, scene, calls, last_first):
        """Works and delivers till nothing is left, taking workers and messages in an order of its own."""
        calls = list(calls)
        while True:
            workers = scene.dice.sample(range(scene.workers), scene.workers)
            steps = [("work", worker, 1000) for worker in workers]
            found = answered(calls + steps + [("wire",)])
            told = messages(found[-1])
            if not told and not any(answer[1] for answer in found[-1 - len(steps):-1]):
                return calls
            calls += [step for step, answer in zip(steps, found[len(calls):]) if answer[1]]
            some = scene.dice.randint(1, len(told)) if told else 0
            for number in range(len(told) - 1, len(told) - 1 - some, -1):
                calls.append(("deliver", number if last_first else scene.dice.randint(0, number)))

    def test_work_and_messages_in_any_order_till_the_end(self):
        for scene in self.scenes(left_out=("all", "resend", "double"), count=40):
            with self.subTest(seed=scene.seed):
                calls = scene.begun + scene.drawn
                by_all = scene.known(calls + [("all",)])
                self.assertEqual(scene.known(self.run_to_the_end(scene, calls, True)), by_all)
                self.assertEqual(scene.known(self.run_to_the_end(scene, calls, False)), by_all)


if __name__ == "__main__":
    unittest.main()
