"""One picking: its panel, box, turns, jury and alternates, and how these change."""

from jurypick.words import PICKING_JURY, PICKING_ALTERNATES, SWORN, TOO_FEW, OVER
from jurypick.words import WAITS, SITS, EXCUSED, STRUCK, ALTERNATE, LET_GO, NOBODY


# The methods that change something ask nothing: whether a call is refused is
# settled ahead of them.
class Picking:
    def __init__(self):
        self.phase = OVER
        self.fates = []
        self.box = []
        self.jury = []
        self.alternates = []
        self.alternate_seats = 0
        self.alternate_strikes = 0
        self.pass_costs = 0
        self.row = []
        self.turn_place = 0
        self.left = [0, 0]
        self.passes = 0
        self.struck = NOBODY
        self.struck_seat = NOBODY
        self.least = 0

    def has(self, who):
        return 0 <= who and who < len(self.fates)

    def strikes_over(self):
        # Without a seat there is nobody to strike, whatever strikes are left.
        return self.passes == 2 or self.left == [0, 0] or len(self.box) == 0

    def waiting(self):
        return [who for who, fate in enumerate(self.fates) if fate == WAITS]

    def may_object(self):
        return self.struck != NOBODY

    def striker(self):
        return self.fates[self.struck] - STRUCK

    def turn(self):
        if self.phase > PICKING_ALTERNATES or self.strikes_over():
            return 0
        return self.row[self.turn_place]

    def has_turn(self, side):
        return not self.strikes_over() and self.row[self.turn_place] == side

    def standing(self):
        return [self.phase, self.turn(), self.left[0], self.left[1]]

    def begin(self, panel, seats, strikes, row):
        self.fates = [WAITS] * panel
        self.jury = []
        self.alternates = []
        self.row = row
        self.struck = NOBODY
        # It stays 0 until the oath, and so when the panel doesn't suffice ahead of that.
        self.least = 0
        self.open_box(PICKING_JURY, seats, strikes)
        self.end_what_is_over()

    def set_rules(self, alternate_seats, alternate_strikes, pass_costs):
        self.alternate_seats = alternate_seats
        self.alternate_strikes = alternate_strikes
        self.pass_costs = pass_costs

    def open_box(self, phase, seats, strikes):
        self.phase = phase
        self.box = [NOBODY] * seats
        self.left = strikes
        self.passes = 0
        self.turn_place = 0
        self.skip_sides_without_strikes()
        self.fill_box()

    def fill_box(self):
        while NOBODY in self.box:
            if WAITS not in self.fates:
                self.phase = TOO_FEW
                self.struck = NOBODY
                return
            who = self.fates.index(WAITS)
            self.box[self.box.index(NOBODY)] = who
            self.fates[who] = SITS

    def skip_sides_without_strikes(self):
        while self.left != [0, 0] and self.left[self.row[self.turn_place]] == 0:
            self.step_turn()

    def step_turn(self):
        self.turn_place = (self.turn_place + 1) % len(self.row)

    def go_on(self):
        self.step_turn()
        self.skip_sides_without_strikes()

    def end_what_is_over(self):
        # The jury's end is asked first: the alternates' may come at once with it.
        if self.phase == PICKING_JURY and self.strikes_over():
            self.pick_jury()
        if self.phase == PICKING_ALTERNATES and self.strikes_over():
            self.swear_all()

    def pick_jury(self):
        self.jury = self.box
        strikes = [self.alternate_strikes, self.alternate_strikes]
        self.open_box(PICKING_ALTERNATES, self.alternate_seats, strikes)

    def swear_all(self):
        self.phase = SWORN
        self.alternates = self.box
        self.box = []
        for who in self.alternates:
            self.fates[who] = ALTERNATE
        self.least = len(self.jury)

    def leave_box(self, who, fate):
        seat = self.box.index(who)
        self.fates[who] = fate
        self.box[seat] = NOBODY
        self.fill_box()
        return seat

    def excuse(self, who):
        self.struck = NOBODY
        seat = self.leave_box(who, EXCUSED)
        self.end_what_is_over()
        return seat

    def strike(self, side, who):
        self.left[side] -= 1
        self.passes = 0
        self.go_on()
        # Told ahead of the filling, which takes it back if the panel doesn't suffice.
        self.struck = who
        seat = self.leave_box(who, STRUCK + side)
        self.struck_seat = seat
        # Unlike elsewhere no phase ends here: even the last strike may be objected to.
        return seat

    def pass_turn(self, side):
        self.left[side] -= self.pass_costs
        self.passes += 1
        self.struck = NOBODY
        self.go_on()
        self.end_what_is_over()

    def answer_objection(self, upheld):
        if upheld == 1:
            self.fates[self.box[self.struck_seat]] = WAITS
            self.box[self.struck_seat] = self.struck
            self.fates[self.struck] = SITS
        self.struck = NOBODY
        self.end_what_is_over()

    def let_alternate(self, who):
        self.fates[who] = LET_GO
        self.alternates.remove(who)

    def replace_juror(self, who):
        self.fates[who] = LET_GO
        first = self.alternates.pop(0)
        self.jury[self.jury.index(who)] = first
        self.fates[first] = SITS

    def lose_juror(self, who):
        self.fates[who] = LET_GO
        self.jury.remove(who)
        if len(self.jury) < self.least:
            self.end()

    def agree(self, least):
        self.least = least

    def end(self):
        self.phase = OVER
