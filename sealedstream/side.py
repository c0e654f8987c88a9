"""An end of a stream: what it has to send, what came, how it stands."""

from sealedstream.curve import KEY_SIZE
from sealedstream.greeting import MESSAGE_SIZE, Greeting
from sealedstream.refusals import IS_BROKEN, NOT_NOW, TOO_MUCH, UNFIT, Broken
from sealedstream.way import DATA_KIND, END_KIND, HEAD_SIZE, MOST_DATA, KEY_KIND, Way, key_of_way, rest_size

NOT_OPENED = 0
WAITING = 1
SEALED = 2
BROKEN = 3
MOST_EVERY = 1000000
MOST_BYTES = 65536
MOST_HELD = 262144
FIRST_SENDS = 1
SECOND_SENDS = 2


def may_begin(first, every, rows):
    if first not in (0, 1) or every < 0 or every > MOST_EVERY:
        return False
    return all([len(row) == KEY_SIZE for row in rows])


def may_be_most(most):
    return 0 <= most and most <= MOST_BYTES


class End:
    def __init__(self):
        self.reset()

    def reset(self):
        self.phase = NOT_OPENED
        self.leads = False
        self.every = 0
        self.greeting = None
        self.outgoing = []
        self.arrived = []
        self.readable = []
        self.end_sent = False
        self.end_came = False
        self.sending = Way([])
        self.receiving = Way([])

    def begin(self, first, every, own, other, fleeting):
        if not may_begin(first, every, [own, other, fleeting]):
            return UNFIT
        self.reset()
        self.phase = WAITING
        self.leads = first == 1
        self.every = every
        self.greeting = Greeting(own, other, fleeting)
        if not self.leads:
            return 0
        try:
            self.greeting.lead()
        except Broken:
            return self.give_up()
        self.outgoing = self.greeting.message()
        return 0

    def give_up(self):
        self.phase = BROKEN
        self.greeting = None
        self.arrived = []
        self.sending.forget()
        self.receiving.forget()
        return IS_BROKEN

    def refusal_to_send(self):
        if self.phase == BROKEN:
            return IS_BROKEN
        if self.phase != SEALED or self.end_sent:
            return NOT_NOW
        return 0

    def refusal_to_add(self):
        refusal = self.refusal_to_send()
        if refusal == 0 and len(self.outgoing) > MOST_HELD:
            return TOO_MUCH
        return refusal

    def send(self, kind, data):
        self.outgoing.extend(self.sending.record(kind, data))

    def send_with_new_key_if_due(self, kind, data):
        if self.every != 0 and self.sending.count >= self.every:
            self.send(KEY_KIND, [])
        self.send(kind, data)

    def write(self, data):
        if len(data) > MOST_BYTES:
            return UNFIT
        refusal = self.refusal_to_add()
        if refusal != 0:
            return refusal
        for place in range(0, len(data), MOST_DATA):
            self.send_with_new_key_if_due(DATA_KIND, data[place:place + MOST_DATA])
        return len(data)

    def renew(self):
        refusal = self.refusal_to_add()
        if refusal != 0:
            return refusal
        self.send(KEY_KIND, [])
        return self.sending.new_keys

    def finish(self):
        refusal = self.refusal_to_send()
        if refusal != 0:
            return refusal
        self.send_with_new_key_if_due(END_KIND, [])
        self.end_sent = True
        return 0

    def take(self, most):
        if not may_be_most(most):
            return [UNFIT]
        taken = self.outgoing[:most]
        self.outgoing = self.outgoing[most:]
        return [len(taken)] + taken

    def read(self, most):
        if not may_be_most(most):
            return [UNFIT]
        data = self.readable[:most]
        self.readable = self.readable[most:]
        return [len(data)] + data

    def refusal_to_hear(self):
        if self.phase == NOT_OPENED:
            return NOT_NOW
        if self.phase == BROKEN:
            return IS_BROKEN
        return 0

    def cut(self):
        refusal = self.refusal_to_hear()
        if refusal != 0:
            return refusal
        return 1 if self.end_came else 0

    def state(self):
        return [
            self.phase,
            len(self.outgoing),
            len(self.readable),
            len(self.arrived),
            1 if self.end_sent else 0,
            1 if self.end_came else 0,
            self.sending.count,
            self.receiving.count,
            self.sending.new_keys,
            self.receiving.new_keys,
        ]

    def came(self, data):
        if len(data) > MOST_BYTES:
            return UNFIT
        refusal = self.refusal_to_hear()
        if refusal != 0:
            return refusal
        if len(self.readable) > MOST_HELD:
            return TOO_MUCH
        self.arrived.extend(data)
        try:
            self.go_through()
        except Broken:
            return self.give_up()
        return len(self.readable)

    def go_through(self):
        if self.phase == WAITING:
            if len(self.arrived) < MESSAGE_SIZE:
                return
            self.meet(self.arrived_part(MESSAGE_SIZE))
        while self.has_whole_record():
            head = self.arrived_part(HEAD_SIZE)
            self.receive(self.receiving.content(head, self.arrived_part(rest_size(head))))

    def arrived_part(self, size):
        part = self.arrived[:size]
        self.arrived = self.arrived[size:]
        return part

    def meet(self, message):
        if self.leads:
            self.greeting.meet_second(message)
        else:
            self.greeting.meet_first(message)
            self.outgoing.extend(self.greeting.message())
        first_way = Way(key_of_way(self.greeting.chain, FIRST_SENDS))
        second_way = Way(key_of_way(self.greeting.chain, SECOND_SENDS))
        self.sending = first_way if self.leads else second_way
        self.receiving = second_way if self.leads else first_way
        self.greeting = None
        self.phase = SEALED

    def has_whole_record(self):
        if len(self.arrived) < HEAD_SIZE:
            return False
        if self.end_came:
            raise Broken()
        return len(self.arrived) >= HEAD_SIZE + rest_size(self.arrived)

    def receive(self, inner):
        if inner[0] == DATA_KIND:
            self.readable.extend(inner[1:])
        if inner[0] == END_KIND:
            self.end_came = True
