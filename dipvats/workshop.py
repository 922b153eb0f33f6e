"""Plans of dips, the workshop's days, and the answers to a line of calls on them."""

MOST_COOLS = 5
MOST_BOUGHT = 1000
MOST_FRAMES = 6
MOST_LAYERS = 6
LONGEST_WAIT = 100
LAST_MINUTE = 100000

OUT_OF_RANGE = -1
NO_SUCH_FRAME = -2
STILL_WARM = -3
WRONG_MINUTE = -3
TOO_FEW_LAYERS = -4
WRONG_FRAME = -4
NO_PLACE = -5
TOO_LITTLE_WAX = -6
NO_COOLING = -6
FULL_FRAME = -7
TOO_LATE = -8
NO_WORKSHOP = -9

BEGIN = 0
FRAME = 1
WAX = 2
DIP = 3
WAIT = 4
SELL = 5
LOOK = 6
LEAST = 7
PLAN = 8
JUDGE = 9
COOLING = 10
REST = 11
FOLLOW = 12

# By a call's number: how many whole numbers stand behind it, and how many rows behind these.
HANDED_OVER = (2, 1, 1, 1, 1, 1, 1, 0, 0, 0, 1, 0, 0, 0)
ROWS_BEHIND = (0, 0, 0, 0, 0, 0, 0, 1, 1, 2, 1, 0, 1, 0)

# In a plan: the minute in which no frame is dipped. A frame is its number and 1 more.
NOTHING = 0


def may_be_wanted(wanted):
    return len(wanted) <= MOST_FRAMES and max(wanted, default=0) <= MOST_LAYERS


def ranked_frames(wanted):
    """The frames' numbers, those that want more dips first, then the lower number."""
    return sorted(range(len(wanted)), key=lambda number: (-wanted[number], number))


def other_dips(wanted, ranked, most):
    """The dips, as in a plan, of the frames that aren't tops: all of one frame, then all of the next."""
    dips = []
    for number in ranked:
        if wanted[number] < most:
            dips.extend([number + 1] * wanted[number])
    return dips


def best_plan(cools, wanted):
    """The plan for what's wanted: it does, and no plan that does is shorter."""
    most = max(wanted, default=0)
    if most == 0:
        return []
    ranked = ranked_frames(wanted)
    tops = [number + 1 for number in ranked if wanted[number] == most]
    rows = [list(tops) for k in range(most - 1)]
    # Where there are no rows, most is 1, and all frames that want a dip are tops.
    for turn, dipped in enumerate(other_dips(wanted, ranked, most)):
        rows[turn % len(rows)].append(dipped)
    plan = []
    for row in rows:
        plan.extend(row)
        plan.extend([NOTHING] * max(0, cools + 1 - len(row)))
    plan.extend(tops)
    return plan


def least_minutes(cools, wanted):
    return len(best_plan(cools, wanted))


def wrong_minute(cools, wanted, plan):
    """The first minute in which a frame is dipped that wanted hasn't, or that's warm; None without one."""
    cool_again = [0] * len(wanted)
    for minute, dipped in enumerate(plan):
        if dipped == NOTHING:
            continue
        number = dipped - 1
        if number >= len(wanted) or minute < cool_again[number]:
            return minute
        cool_again[number] = minute + cools + 1
    return None


def wrong_frame(wanted, plan):
    """The lowest frame that isn't dipped as often as it wants; None without one."""
    for number, dips in enumerate(wanted):
        if plan.count(number + 1) != dips:
            return number
    return None


def judged(cools, wanted, plan):
    minute = wrong_minute(cools, wanted, plan)
    if minute is not None:
        return [WRONG_MINUTE, minute]
    number = wrong_frame(wanted, plan)
    if number is not None:
        return [WRONG_FRAME, number]
    return [len(plan) - least_minutes(cools, wanted)]


def longest_cooling(minutes, wanted):
    for cools in range(MOST_COOLS, -1, -1):
        if least_minutes(cools, wanted) <= minutes:
            return [cools]
    return [NO_COOLING]


class Frame:
    """A frame of the workshop's own: its layers, and when it's cool again."""

    def __init__(self, wanted):
        self.wanted = wanted
        self.layers = 0
        self.cool_from = 0
        self.sold = False

    def warm_minutes(self, minute):
        return max(0, self.cool_from - minute)

    def wax_held(self):
        # The k-th layer holds k measures, so these are 1 + 2 + .. + layers.
        return self.layers * (self.layers + 1) // 2

    def layers_left(self):
        # A sold frame has as many as it wants or more, so it's 0 for that one too.
        return max(0, self.wanted - self.layers)


class Workshop:
    """The vat, the frames and the minute; each call gives back the list of numbers that it answers."""

    def __init__(self, cools, wax):
        self.cools = cools
        self.minute = 0
        self.vat = wax
        self.bought = wax
        # Sold frames stay in the list: their numbers aren't used again.
        self.frames = []

    def standing_frame(self, number):
        """The frame of that number; None if there's none, or it's sold."""
        if number >= len(self.frames):
            return None
        frame = self.frames[number]
        if frame.sold:
            return None
        return frame

    def add_frame(self, layers):
        if layers < 1 or layers > MOST_LAYERS:
            return [OUT_OF_RANGE]
        if len(self.frames) >= MOST_FRAMES:
            return [NO_PLACE]
        self.frames.append(Frame(layers))
        return [len(self.frames) - 1]

    def buy_wax(self, measures):
        if measures < 1 or self.bought + measures > MOST_BOUGHT:
            return [OUT_OF_RANGE]
        self.bought = self.bought + measures
        self.vat = self.vat + measures
        return [self.vat]

    def dip(self, number):
        frame = self.standing_frame(number)
        if frame is None:
            return [NO_SUCH_FRAME]
        if self.minute >= LAST_MINUTE:
            return [TOO_LATE]
        if frame.warm_minutes(self.minute) > 0:
            self.melt_layer(frame)
        elif frame.layers >= MOST_LAYERS:
            return [FULL_FRAME]
        elif self.vat < frame.layers + 1:
            return [TOO_LITTLE_WAX]
        else:
            self.put_layer(frame)
        self.minute = self.minute + 1
        frame.cool_from = self.minute + self.cools
        return [frame.layers]

    def put_layer(self, frame):
        frame.layers = frame.layers + 1
        self.vat = self.vat - frame.layers

    def melt_layer(self, frame):
        if frame.layers > 0:
            self.vat = self.vat + frame.layers
            frame.layers = frame.layers - 1

    def wait(self, minutes):
        if minutes < 1 or minutes > LONGEST_WAIT:
            return [OUT_OF_RANGE]
        if self.minute + minutes > LAST_MINUTE:
            return [TOO_LATE]
        self.minute = self.minute + minutes
        return [self.minute]

    def sell(self, number):
        frame = self.standing_frame(number)
        if frame is None:
            return [NO_SUCH_FRAME]
        if frame.layers < frame.wanted:
            return [TOO_FEW_LAYERS]
        if frame.warm_minutes(self.minute) > 0:
            return [STILL_WARM]
        frame.sold = True
        return [frame.wax_held()]

    def look(self, number):
        frame = self.standing_frame(number)
        if frame is None:
            return [NO_SUCH_FRAME]
        return [frame.wanted, frame.layers, frame.warm_minutes(self.minute)]

    def rest(self):
        wanted = [frame.layers_left() for frame in self.frames]
        return [least_minutes(self.cools, wanted)] + wanted

    def follow(self, plan):
        passed = 0
        for dipped in plan:
            if dipped == NOTHING:
                answer = self.wait(1)
            else:
                answer = self.dip(dipped - 1)
            if answer[0] < 0:
                break
            passed = passed + 1
        return [passed, self.minute]

    def book(self):
        standing = sum([frame.wax_held() for frame in self.frames if not frame.sold])
        gone = sum([frame.wax_held() for frame in self.frames if frame.sold])
        return [self.minute, self.vat, standing, gone, self.bought]


class Line:
    """A line of calls, read from its beginning on."""

    def __init__(self, calls):
        self.calls = calls
        self.place = 0

    def at_end(self):
        return self.place >= len(self.calls)

    def take_number(self):
        number = self.calls[self.place]
        self.place = self.place + 1
        return number

    def take_numbers(self, how_many):
        behind = self.place + how_many
        numbers = self.calls[self.place:behind]
        self.place = behind
        return numbers

    def take_rows(self, how_many):
        rows = []
        for k in range(how_many):
            count = self.take_number()
            rows.append(self.take_numbers(count))
        return rows


def may_begin(cools, wax):
    return cools <= MOST_COOLS and wax <= MOST_BOUGHT


def answer_to_wanted(cools, call, numbers, rows):
    """What least, plan, judge and cooling answer, with the workshop's cooling."""
    wanted = rows[0]
    if not may_be_wanted(wanted):
        return [OUT_OF_RANGE]
    if call == LEAST:
        return [least_minutes(cools, wanted)]
    if call == PLAN:
        plan = best_plan(cools, wanted)
        return [len(plan)] + plan
    if call == JUDGE:
        return judged(cools, wanted, rows[1])
    # Only cooling, 10, is left.
    return longest_cooling(numbers[0], wanted)


def answer_in(shop, call, numbers, rows):
    """What a workshop that's there answers to a call other than begin."""
    if call == FRAME:
        return shop.add_frame(numbers[0])
    if call == WAX:
        return shop.buy_wax(numbers[0])
    if call == DIP:
        return shop.dip(numbers[0])
    if call == WAIT:
        return shop.wait(numbers[0])
    if call == SELL:
        return shop.sell(numbers[0])
    if call == LOOK:
        return shop.look(numbers[0])
    if call in (LEAST, PLAN, JUDGE, COOLING):
        return answer_to_wanted(shop.cools, call, numbers, rows)
    if call == REST:
        return shop.rest()
    if call == FOLLOW:
        return shop.follow(rows[0])
    # Only book, 13, is left.
    return shop.book()


def answers(calls):
    """For each call, in order: how many numbers are answered, and then these."""
    told = []
    shop = None
    line = Line(calls)
    while not line.at_end():
        call = line.take_number()
        numbers = line.take_numbers(HANDED_OVER[call])
        rows = line.take_rows(ROWS_BEHIND[call])
        if call == BEGIN:
            if may_begin(numbers[0], numbers[1]):
                shop = Workshop(numbers[0], numbers[1])
                answer = [0]
            else:
                answer = [OUT_OF_RANGE]
        elif shop is None:
            answer = [NO_WORKSHOP]
        else:
            answer = answer_in(shop, call, numbers, rows)
        told.append(len(answer))
        told.extend(answer)
    return told
