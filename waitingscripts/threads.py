"""The calls on one set of scripts and its threads, and what they answer."""

OUT_OF_BOUNDS = -1
NOT_THERE = -2
NO_ROOM = -5

MOST_SCRIPTS = 6
MOST_ORDERS = 20
MOST_THREADS = 12
MOST_TICKS = 50
MOST_ORDERS_A_TICK = 200
HIGHEST_OWNER = 99
HIGHEST_WORD = 9

HOW_MANY_NUMBERS = 10
NUMBERS_REST_BY = 1000

# What a thread waits for; the call thread answers these.
NOTHING = 0
TICKS = 1
WORD = 2
THREAD = 3

# Orders that are asked for by number.
GO = 6
BEGIN = 7
END = 10

# The one call that brings a row.
SCRIPT = 0

# The highest that may be told with each order. Two of go and begin have no bound of their own here:
# a place is held against its script's orders, a script against those told before.
BOUNDS = (
    (999,),
    (99,),
    (9,),
    (9,),
    (1, 9, 999),
    (1, 9, 999),
    (1, 9, 999, 4294967295),
    (4294967295, 100),
    (),
    (99,),
    (),
)


class Thread:
    """One that plays a script."""

    def __init__(self, number, owner, script):
        self.number = number
        self.owner = owner
        self.script = script
        self.place = 0
        self.numbers = [0] * HOW_MANY_NUMBERS
        self.waits = NOTHING
        self.awaited = 0
        self.begun_last = None
        self.over = False

    def wait_for(self, waits, awaited):
        self.waits = waits
        self.awaited = awaited

    def wait_no_more(self):
        self.wait_for(NOTHING, 0)


class Play:
    """The scripts, the threads that play them, and the numbers of all."""

    def __init__(self):
        self.scripts = []
        # Numbers are given upwards and put at the end, so this stays in the order of numbers.
        self.threads = []
        self.numbers = [0] * HOW_MANY_NUMBERS
        self.ever_begun = 0
        self.ticks_done = 0
        self.orders_left = 0
        self.said = []

    def is_full(self):
        return len(self.threads) >= MOST_THREADS

    def thread_numbered(self, number):
        """The thread with this number, or None if it never was or is over."""
        for thread in self.threads:
            if thread.number == number:
                return thread
        return None

    def begin_thread(self, script, owner):
        thread = Thread(self.ever_begun, owner, script)
        self.threads.append(thread)
        self.ever_begun += 1
        return thread.number

    def release(self, waits, awaited):
        """Let all that wait for this wait no more; answer how many did."""
        waiting = [thread for thread in self.threads if thread.waits == waits and thread.awaited == awaited]
        for thread in waiting:
            thread.wait_no_more()
        return len(waiting)

    def end_thread(self, ended):
        ended.over = True
        self.threads = [thread for thread in self.threads if thread.number != ended.number]
        self.release(THREAD, ended.number)

    def stop_owner(self, owner):
        """End all threads of this owner; answer how many there were."""
        owned = [thread for thread in self.threads if thread.owner == owner]
        for thread in owned:
            self.end_thread(thread)
        return len(owned)


def numbers_meant(play, thread, of_all):
    return play.numbers if of_all == 1 else thread.numbers


def do_say(play, thread, told):
    play.said.extend([thread.number, told[0]])


def do_wait(play, thread, told):
    if told[0] > 0:
        thread.wait_for(TICKS, told[0])


def do_hear(play, thread, told):
    thread.wait_for(WORD, told[0])


def do_send(play, thread, told):
    play.release(WORD, told[0])


def do_set(play, thread, told):
    numbers = numbers_meant(play, thread, told[0])
    numbers[told[1]] = told[2]


def do_add(play, thread, told):
    numbers = numbers_meant(play, thread, told[0])
    numbers[told[1]] = (numbers[told[1]] + told[2]) % NUMBERS_REST_BY


def do_go(play, thread, told):
    numbers = numbers_meant(play, thread, told[0])
    if numbers[told[1]] >= told[2]:
        thread.place = told[3]


def do_begin(play, thread, told):
    if play.is_full():
        thread.begun_last = None
    else:
        owner = thread.owner if told[1] == 0 else told[1] - 1
        thread.begun_last = play.begin_thread(told[0], owner)


def do_join(play, thread, told):
    # None is no thread's number, so who has none begun last finds none.
    if play.thread_numbered(thread.begun_last) is not None:
        thread.wait_for(THREAD, thread.begun_last)


def do_stop(play, thread, told):
    play.stop_owner(told[0])


def do_end(play, thread, told):
    play.end_thread(thread)


# By the orders' numbers.
ORDERS = (do_say, do_wait, do_hear, do_send, do_set, do_add, do_go, do_begin, do_join, do_stop, do_end)


def do_next_order(play, thread):
    order = play.scripts[thread.script][thread.place]
    # Ahead of the order, as go may put the thread elsewhere.
    thread.place += 1
    play.orders_left -= 1
    ORDERS[order[0]](play, thread, order[1:])


def take_turn(play, thread):
    while play.orders_left > 0 and thread.waits == NOTHING and not thread.over:
        do_next_order(play, thread)


def next_in_turn(play, behind):
    """The lowest thread above this number that doesn't wait, or None."""
    for thread in play.threads:
        if thread.number > behind and thread.waits == NOTHING:
            return thread
    return None


def count_waits_down(play):
    for thread in play.threads:
        if thread.waits == TICKS:
            thread.awaited -= 1
            if thread.awaited == 0:
                thread.wait_no_more()


def do_tick(play):
    play.ticks_done += 1
    play.orders_left = MOST_ORDERS_A_TICK
    play.said = []
    count_waits_down(play)
    thread = next_in_turn(play, -1)
    while thread is not None:
        take_turn(play, thread)
        # Looked up anew, as the turn may have begun, released or stopped others.
        thread = next_in_turn(play, thread.number)


def what_is_said(play):
    return [len(play.said) // 2] + play.said


def orders_of(row):
    """The row's orders, each a list of its number and what is told with it."""
    orders = []
    at = 0
    while at < len(row):
        behind = at + 1 + len(BOUNDS[row[at]])
        orders.append(row[at:behind])
        at = behind
    return orders


def order_in_bounds(order, how_many_orders):
    for told, bound in zip(order[1:], BOUNDS[order[0]]):
        if told > bound:
            return False
    return order[0] != GO or order[4] <= how_many_orders


def call_script(play, row):
    orders = orders_of(row)
    own = len(play.scripts)
    if len(orders) > MOST_ORDERS:
        return [OUT_OF_BOUNDS]
    if not all([order_in_bounds(order, len(orders)) for order in orders]):
        return [OUT_OF_BOUNDS]
    if any([order[0] == BEGIN and order[1] > own for order in orders]):
        return [NOT_THERE]
    if own >= MOST_SCRIPTS:
        return [NO_ROOM]
    play.scripts.append(orders + [[END]])
    return [own]


def call_begin(play, told):
    if told[1] > HIGHEST_OWNER:
        return [OUT_OF_BOUNDS]
    if told[0] >= len(play.scripts):
        return [NOT_THERE]
    if play.is_full():
        return [NO_ROOM]
    return [play.begin_thread(told[0], told[1])]


def call_tick(play, told):
    do_tick(play)
    return [len(play.threads)] + what_is_said(play)


def call_ticks(play, told):
    if told[0] > MOST_TICKS:
        return [OUT_OF_BOUNDS]
    ticks_with_words = 0
    answer = []
    for tick in range(told[0]):
        do_tick(play)
        if len(play.said) > 0:
            ticks_with_words += 1
            answer.append(play.ticks_done)
            answer.extend(what_is_said(play))
    return [len(play.threads), ticks_with_words] + answer


def call_word(play, told):
    if told[0] > HIGHEST_WORD:
        return [OUT_OF_BOUNDS]
    return [play.release(WORD, told[0])]


def call_stop(play, told):
    if told[0] > HIGHEST_OWNER:
        return [OUT_OF_BOUNDS]
    return [play.stop_owner(told[0])]


def call_value(play, told):
    if told[0] >= HOW_MANY_NUMBERS:
        return [OUT_OF_BOUNDS]
    return [play.numbers[told[0]]]


def call_set(play, told):
    if told[0] >= HOW_MANY_NUMBERS or told[1] >= NUMBERS_REST_BY:
        return [OUT_OF_BOUNDS]
    play.numbers[told[0]] = told[1]
    return [0]


def call_threads(play, told):
    answer = [len(play.threads)]
    for thread in play.threads:
        answer.extend([thread.number, thread.owner, thread.script])
    return answer


def call_thread(play, told):
    thread = play.thread_numbered(told[0])
    if thread is None:
        return [NOT_THERE]
    return [thread.place, thread.waits, thread.awaited] + thread.numbers


def call_state(play, told):
    return [play.ticks_done, len(play.scripts), len(play.threads), play.ever_begun]


# By the calls' numbers.
CALLS = (
    call_script, call_begin, call_tick, call_ticks, call_word, call_stop,
    call_value, call_set, call_threads, call_thread, call_state,
)

# How many numbers are told with each call; script's row tells it itself.
TOLD_WITH_CALL = (0, 2, 0, 1, 1, 1, 1, 2, 0, 1, 0)


def first_told(calls, at):
    return at + 2 if calls[at] == SCRIPT else at + 1


def how_many_told(calls, at):
    return calls[at + 1] if calls[at] == SCRIPT else TOLD_WITH_CALL[calls[at]]


def answers(calls):
    """What is answered to each of these calls on a new set of scripts, with its length before it."""
    play = Play()
    given = []
    at = 0
    while at < len(calls):
        first = first_told(calls, at)
        behind = first + how_many_told(calls, at)
        answer = CALLS[calls[at]](play, calls[first:behind])
        given.append(len(answer))
        given.extend(answer)
        at = behind
    return given
