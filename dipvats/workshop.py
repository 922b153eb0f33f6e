"""The workshop's days, and the answers to a line of calls on it."""

MOST_COOLS = 5
MOST_BOUGHT = 1000
MOST_FRAMES = 6
MOST_LAYERS = 6
LONGEST_WAIT = 100
LAST_MINUTE = 100000

OUT_OF_RANGE = -1
NO_SUCH_FRAME = -2
STILL_WARM = -3
TOO_FEW_LAYERS = -4
NO_PLACE = -5
TOO_LITTLE_WAX = -6
FULL_FRAME = -7
TOO_LATE = -8
NO_WORKSHOP = -9

BEGIN = 0
FRAME = 1
WAX = 2
DIP = 3
WAIT = 4
SELL = 5

# By a call's number: how many whole numbers stand behind it.
HANDED_OVER = (2, 1, 1, 1, 1, 1, 1)


class Frame:
    """A frame of the workshop's own: its layers, and when it's cool again."""

    def __init__(self, wanted):
        self.wanted = wanted
        self.layers = 0
        self.cool_from = 0
        self.sold = False

    def warm_minutes(self, minute):
        return max(0, self.cool_from - minute)

    def wax_held(self):
        # The k-th layer holds k measures, so these are 1 + 2 + .. + layers.
        return self.layers * (self.layers + 1) // 2


class Workshop:
    """The vat, the frames and the minute; each call gives back the list of numbers that it answers."""

    def __init__(self, cools, wax):
        self.cools = cools
        self.minute = 0
        self.vat = wax
        self.bought = wax
        # Sold frames stay in the list: their numbers aren't used again.
        self.frames = []

    def standing_frame(self, number):
        """The frame of that number; None if there's none, or it's sold."""
        if number >= len(self.frames):
            return None
        frame = self.frames[number]
        if frame.sold:
            return None
        return frame

    def add_frame(self, layers):
        if layers < 1 or layers > MOST_LAYERS:
            return [OUT_OF_RANGE]
        if len(self.frames) >= MOST_FRAMES:
            return [NO_PLACE]
        self.frames.append(Frame(layers))
        return [len(self.frames) - 1]

    def buy_wax(self, measures):
        if measures < 1 or self.bought + measures > MOST_BOUGHT:
            return [OUT_OF_RANGE]
        self.bought = self.bought + measures
        self.vat = self.vat + measures
        return [self.vat]

    def dip(self, number):
        frame = self.standing_frame(number)
        if frame is None:
            return [NO_SUCH_FRAME]
        if self.minute >= LAST_MINUTE:
            return [TOO_LATE]
        if frame.warm_minutes(self.minute) > 0:
            self.melt_layer(frame)
        elif frame.layers >= MOST_LAYERS:
            return [FULL_FRAME]
        elif self.vat < frame.layers + 1:
            return [TOO_LITTLE_WAX]
        else:
            self.put_layer(frame)
        self.minute = self.minute + 1
        frame.cool_from = self.minute + self.cools
        return [frame.layers]

    def put_layer(self, frame):
        frame.layers = frame.layers + 1
        self.vat = self.vat - frame.layers

    def melt_layer(self, frame):
        if frame.layers > 0:
            self.vat = self.vat + frame.layers
            frame.layers = frame.layers - 1

    def wait(self, minutes):
        if minutes < 1 or minutes > LONGEST_WAIT:
            return [OUT_OF_RANGE]
        if self.minute + minutes > LAST_MINUTE:
            return [TOO_LATE]
        self.minute = self.minute + minutes
        return [self.minute]

    def sell(self, number):
        frame = self.standing_frame(number)
        if frame is None:
            return [NO_SUCH_FRAME]
        if frame.layers < frame.wanted:
            return [TOO_FEW_LAYERS]
        if frame.warm_minutes(self.minute) > 0:
            return [STILL_WARM]
        frame.sold = True
        return [frame.wax_held()]

    def look(self, number):
        frame = self.standing_frame(number)
        if frame is None:
            return [NO_SUCH_FRAME]
        return [frame.wanted, frame.layers, frame.warm_minutes(self.minute)]


def may_begin(cools, wax):
    return cools <= MOST_COOLS and wax <= MOST_BOUGHT


def answer_in(shop, call, number):
    """What a workshop that's there answers to a call other than begin."""
    if call == FRAME:
        return shop.add_frame(number)
    if call == WAX:
        return shop.buy_wax(number)
    if call == DIP:
        return shop.dip(number)
    if call == WAIT:
        return shop.wait(number)
    if call == SELL:
        return shop.sell(number)
    # Only look, 6, is left.
    return shop.look(number)


def answers(calls):
    """For each call, in order: how many numbers are answered, and then these."""
    told = []
    shop = None
    place = 0
    while place < len(calls):
        call = calls[place]
        behind = place + 1 + HANDED_OVER[call]
        handed = calls[place + 1:behind]
        place = behind
        if call == BEGIN:
            if may_begin(handed[0], handed[1]):
                shop = Workshop(handed[0], handed[1])
                answer = [0]
            else:
                answer = [OUT_OF_RANGE]
        elif shop is None:
            answer = [NO_WORKSHOP]
        else:
            answer = answer_in(shop, call, handed[0])
        told.append(len(answer))
        told.extend(answer)
    return told
