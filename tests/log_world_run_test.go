package tests

import (
	"fmt"
	"math/rand"
	"slices"
	"testing"

	"loop.example/wharflog/impl"
)

// drawSmall is a call of few clients about few objects, so that calls meet.
func drawSmall(dice *rand.Rand) impl.BookCall {
	w := impl.BookWrite{Op: oneOf(dice, 1, 1, 2, 2, 2, 3, 4, 5), Kind: "k", Name: oneOf(dice, "x", "x", "y")}
	if w.Op > 1 {
		w.Seen = oneOf(dice, 0, 0, 1, 2, 3)
	}
	if w.Op < 3 {
		w.Text = oneOf(dice, "", "1", "2")
	}
	if w.Op > 3 || w.Op == 1 && dice.Intn(3) == 0 {
		w.Hold = oneOf(dice, "g", "h")
	}
	return one(oneOf(dice, "ann", "bob", "cy", "dan", "eve", "fay"), 1+dice.Intn(3), w)
}

// drawSmalls are twins and more, so many calls together, no two with one form, in any order.
func drawSmalls(dice *rand.Rand, many int) []impl.BookCall {
	list := twins("tom")
	for len(list) < many {
		if c := drawSmall(dice); !slices.Contains(formsOf(list...), rawCall(c)) {
			list = append(list, c)
		}
	}
	dice.Shuffle(many, func(i, j int) { list[i], list[j] = list[j], list[i] })
	return list
}

// drawLog is a world that is ok, whether or not any events lead to it; its recorders took calls that were asked, and others.
func drawLog(dice *rand.Rand) impl.LogWorld {
	w := impl.LogWorld{Rec: drawWorld(dice), Now: oneOf(dice, 0, 1, 5, 30, 1000)}
	many := oneOf(dice, 0, 1, 3, 4, 5, 6, 11, 12)
	calls := drawSmalls(dice, many+2)
	for _, c := range calls[:many] {
		a := waits(c, dice.Intn(w.Now+1))
		if a.From < w.Now && dice.Intn(3) == 0 {
			a.To, a.Said = a.From+1+dice.Intn(w.Now-a.From), impl.BookSaid{Code: oneOf(dice, 0, 0, 0, 3, 4, 7, 8), Version: dice.Intn(4), Again: dice.Intn(8) == 0}
		}
		w.Asked = append(w.Asked, a)
	}
	for i := range w.Rec.Recorders {
		plant(dice, calls, w.Rec.Recorders[i].Disk.Slots)
		plant(dice, calls, w.Rec.Recorders[i].Safe.Slots)
	}
	if dice.Intn(3) > 0 {
		w.Rec.Fixed = manyFixed(dice.Intn(10))
	}
	for i := range w.Rec.Fixed {
		w.Rec.Fixed[i].Text = oneOf(dice, w.Rec.Fixed[i].Text, rawCall(oneOf(dice, calls...)))
	}
	if last := len(w.Rec.Fixed) - 1; last > 1 && dice.Intn(3) == 0 {
		w.Rec.Fixed = slices.Delete(w.Rec.Fixed, last-1, last)
	}
	return w
}

// plant has the forms of calls for some of the texts of slots.
func plant(dice *rand.Rand, calls []impl.BookCall, list []impl.RecSlot) {
	for i := range list {
		if list[i].Ballot > 0 && dice.Intn(2) == 0 {
			list[i].Text = rawCall(oneOf(dice, calls...))
		}
	}
}

// answersThere are the hearings of which an answer would come.
func answersThere(w impl.LogWorld) []impl.LogEvent {
	var list []impl.LogEvent
	for at, r := range w.Rec.Recorders {
		for place, a := range w.Asked {
			if r.Up && a.To == 0 && slices.Contains(plainRecBook(r), rawCall(a.Call)) {
				list = append(list, hearingAt(at, place))
			}
		}
	}
	return list
}

// drawLogEvent is mostly about asking and hearing, and about recorders and calls that are there.
func drawLogEvent(dice *rand.Rand, w impl.LogWorld) impl.LogEvent {
	e := impl.LogEvent{Kind: oneOf(dice, 11, 11, 12, 12, 12, 12), A: dice.Intn(len(w.Rec.Recorders)), B: dice.Intn(len(w.Asked) + 1), Call: drawSmall(dice)}
	if len(w.Asked) > 0 && dice.Intn(2) == 0 {
		e.Call = plainOf(oneOf(dice, w.Asked...).Call)
	}
	if answers := answersThere(w); e.Kind == impl.LogHear && len(answers) > 0 && dice.Intn(2) == 0 {
		answer := oneOf(dice, answers...)
		e.A, e.B = answer.A, answer.B
	}
	switch dice.Intn(12) {
	case 0:
		e.A = oneOf(dice, -1, len(w.Rec.Recorders), 99)
	case 1:
		e.B = oneOf(dice, -1, len(w.Asked), 99)
	case 2:
		spoilCall(dice, &e.Call)
	case 3:
		e.Kind = dice.Intn(16) - 1
	case 4, 5:
		moved := drawEvent(dice, w.Rec)
		e.Kind, e.A = moved.Kind, moved.A
	}
	return e
}

// Promise 28 of LogDo and LogCalm, of any world that is ok; and each function of chapters 22 and 23 against the plain one.
func TestPromise28Worlds(t *testing.T) {
	dice := rand.New(rand.NewSource(2822))
	seen := map[string]int{}
	for run := range 450 {
		w := drawLog(dice)
		wantLog(t, "drawn", w)
		for step := range 4 {
			e := drawLogEvent(dice, w)
			what := fmt.Sprintf("run %d, step %d: %+v", run, step, e)
			got, want := impl.LogDo(w, e), plainLogDo(w, e)
			if !same(got, want) {
				t.Fatalf("%s:\n%+v and not\n%+v, of\n%+v", what, got, want, w)
			}
			wantLog(t, what, got)
			if step == 0 {
				listsKept(t, what, logGiven{w, e}, logDoOf)
				wantDrawnHistory(t, what, got, seen)
			}
			countLogEvent(seen, w, e, got)
			w = got
		}
		if rounds := dice.Intn(3); run%9 == 0 && !same(impl.LogCalm(w, rounds), plainLogCalm(w, rounds)) {
			t.Fatalf("run %d: %d rounds of\n%+v", run, rounds, w)
		}
	}
	wantSeen(t, seen, 10, "moved", "asked", "asked again", "no room", "no form", "nobody there", "not up", "heard", "heard a code", "heard Again", "heard already", "not known", "other kinds",
		"fixed up to a gap", "told though nobody heard", "right", "not right")
}

// wantDrawnHistory holds what is fixed, was heard and is right against the plain one, as long as orders are few.
func wantDrawnHistory(t *testing.T, what string, w impl.LogWorld, seen map[string]int) {
	t.Helper()
	fixed, history := impl.LogFixed(w), impl.LogHistory(w)
	if !slices.Equal(fixed, plainLogFixed(w)) || !same(history, plainHistory(w)) {
		t.Errorf("%s: %q and\n%+v, of\n%+v", what, fixed, history, w)
	}
	historyKept(t, what, w)
	seen["fixed up to a gap"] += boolInt(len(fixed) > 0 && len(fixed) < len(w.Rec.Fixed))
	seen["told though nobody heard"] += boolInt(slices.ContainsFunc(history, func(h impl.BookHeard) bool { return h.To == w.Now+1 }))
	if len(history) <= 6 {
		right := impl.LogRight(w)
		if right != plainRight(w) {
			t.Errorf("%s: it is right: %v, of\n%+v", what, right, history)
		}
		seen["right"] += boolInt(right && len(history) > 0)
		seen["not right"] += boolInt(!right)
	}
}

func countLogEvent(seen map[string]int, w impl.LogWorld, e impl.LogEvent, got impl.LogWorld) {
	count := func(what string, is bool) { seen[what] += boolInt(is) }
	there := e.A >= 0 && e.A < len(w.Rec.Recorders)
	form := plainLogForm(e.Call)
	before := slices.ContainsFunc(w.Asked, func(a impl.LogAsked) bool { return plainLogForm(a.Call) == form })
	switch {
	case e.Kind >= 1 && e.Kind <= 6:
		count("moved", !same(w.Rec, got.Rec))
	case e.Kind != 11 && e.Kind != 12:
		seen["other kinds"]++
	case !there:
		seen["nobody there"]++
	case e.Kind == 11:
		count("no form", form == "")
		count("asked", len(got.Asked) > len(w.Asked))
		count("asked again", before && !same(w.Rec, got.Rec))
		count("no room", form != "" && !before && len(w.Asked) == 12)
	case e.B >= 0 && e.B < len(w.Asked):
		was, is := w.Asked[e.B], got.Asked[e.B]
		count("heard already", was.To != 0)
		count("not up", was.To == 0 && !w.Rec.Recorders[e.A].Up)
		count("not known", is.To == 0 && w.Rec.Recorders[e.A].Up)
		count("heard", was.To == 0 && is.To != 0)
		count("heard a code", was.To == 0 && is.Said.Code != 0)
		count("heard Again", was.To == 0 && is.Said.Again)
	}
}

// A chronicle is what becomes of a new world in which callers ask and hear; its saga draws what happens to the recorders.
type chronicle struct {
	*saga
	log   impl.LogWorld
	calls []impl.BookCall
	seen  map[string]int
}

// newChronicle has a world of n, and more calls than there is room for.
func newChronicle(t *testing.T, dice *rand.Rand, n int, seen map[string]int) *chronicle {
	return &chronicle{newSaga(t, dice, n, 1), impl.LogNew(n), drawSmalls(dice, oneOf(dice, 4, 8, 12, 15)), seen}
}

func (c *chronicle) next() impl.LogEvent {
	n := len(c.log.Rec.Recorders)
	c.w = c.log.Rec
	switch c.dice.Intn(14) {
	case 0:
		return askingAt(c.dice.Intn(n), oneOf(c.dice, c.calls...))
	case 1:
		return hearingAt(c.dice.Intn(n), c.dice.Intn(len(c.log.Asked)+1))
	case 2:
		if answers := answersThere(c.log); len(answers) > 0 && c.dice.Intn(2) == 0 {
			return oneOf(c.dice, answers...)
		}
	}
	e := c.event()
	if e.Kind == impl.RecEvWish {
		return askingAt(e.A, oneOf(c.dice, c.calls...))
	}
	return impl.LogEvent{Kind: e.Kind, A: e.A, B: c.dice.Intn(3), Call: oneOf(c.dice, c.calls...)}
}

// goOn lets so many events happen, and now and then a round.
func (c *chronicle) goOn(events int) {
	c.t.Helper()
	for step := range events {
		e := c.next()
		got := impl.LogDo(c.log, e)
		if step%9 == 0 && !same(got, plainLogDo(c.log, e)) {
			c.t.Fatalf("%+v: not what the plain one tells", e)
		}
		countLogEvent(c.seen, c.log, e, got)
		countSaga(c.seen, c.log.Rec, got.Rec, event(e.Kind, e.A))
		c.become(fmt.Sprintf("%+v", e), got, 1)
		switch c.dice.Intn(24) {
		case 0:
			rounds := 1 + c.dice.Intn(3)
			c.become("rounds", impl.LogCalm(c.log, rounds), rounds)
		case 1:
			c.roundWithout(c.cut)
		}
	}
}

// roundWithout lets all tick and brings all that is in flight, but what comes from one recorder or should go there.
func (c *chronicle) roundWithout(number int) {
	c.t.Helper()
	c.become("a tick", impl.LogDo(c.log, impl.LogEvent{Kind: impl.RecEvTick}), 1)
	for range len(c.log.Rec.Flight) {
		kind := impl.RecEvBring
		if m := c.log.Rec.Flight[0]; m.From == number || m.To == number {
			kind = impl.RecEvLose
		}
		c.become("a message", impl.LogDo(c.log, impl.LogEvent{Kind: kind}), 1)
	}
}

// become looks at what the world is, behind so many events: promises 25, 26 and 28, and that nothing is taken back.
func (c *chronicle) become(what string, w impl.LogWorld, events int) {
	c.t.Helper()
	wantLog(c.t, what, w)
	fixed, before := impl.LogFixed(w), impl.LogFixed(c.log)
	if w.Now != c.log.Now+events || !begins(fixed, before) {
		c.t.Fatalf("%s: Now is %d, and %q is fixed; it was %d, and %q", what, w.Now, fixed, c.log.Now, before)
	}
	for _, r := range w.Rec.Recorders {
		if !begins(fixed, impl.RecBook(r)) {
			c.t.Fatalf("%s: %d knows %q, and %q is fixed", what, r.Number, impl.RecBook(r), fixed)
		}
	}
	for i, a := range c.log.Asked {
		if b := w.Asked[i]; !same(a.Call, b.Call) || a.From != b.From || a.To != 0 && (a.To != b.To || a.Said != b.Said) {
			c.t.Fatalf("%s: %+v was asked, and now it is %+v", what, a, b)
		}
	}
	if !impl.LogRight(w) {
		c.t.Fatalf("%s: no history has %+v, with %q fixed", what, impl.LogHistory(w), fixed)
	}
	c.log = w
	if w.Now%16 == 0 || c.dice.Intn(16) == 0 {
		c.wantOneHistory(what, fixed)
	}
}

// begins says whether a list has another one as its beginning.
func begins(list, beginning []string) bool {
	return len(beginning) <= len(list) && slices.Equal(list[:len(beginning)], beginning)
}

// wantOneHistory is promise 26 by another way: the calls in the order of the places that they are fixed for.
func (c *chronicle) wantOneHistory(what string, fixed []string) {
	c.t.Helper()
	history := impl.LogHistory(c.log)
	place := func(i int) int { return slices.Index(fixed, rawCall(history[i].Call)) }
	var order []int
	unheard := 0
	for i, h := range history {
		if place(i) < 0 {
			c.t.Fatalf("%s: %+v is not fixed", what, h)
		}
		order = append(order, i)
		unheard += boolInt(h.To > c.log.Now)
	}
	slices.SortFunc(order, func(i, j int) int { return place(i) - place(j) })
	if faults := orderFaults(impl.Book{}, history, order); len(faults) > 0 {
		c.t.Fatalf("%s: %q: %+v in the order %v", what, faults, history, order)
	}
	c.seen["fixed and not heard"] += boolInt(unheard > 0)
	c.seen["neither"] += boolInt(len(history) < len(c.log.Asked))
	c.seen["ten in one history"] += boolInt(len(history) >= 10)
}

// Promises 25, 26 and 28 after every event of drawn runs.
func TestPromises25And26(t *testing.T) {
	seen := map[string]int{}
	for run := range 125 {
		dice := rand.New(rand.NewSource(int64(2500 + run)))
		c := newChronicle(t, dice, 1+run%5, seen)
		quiet := oneOf(dice, 0, 0, 7, 9, 12)
		c.become("at first", impl.LogCalm(c.log, quiet), quiet)
		c.goOn(oneOf(dice, 100, 150, 300))
		if run%10 == 0 {
			historyKept(t, "at the end", c.log)
		}
	}
	wantSeen(t, seen, 10, "moved", "asked", "asked again", "no room", "not up", "heard", "heard a code", "heard Again", "heard already", "not known", "other kinds",
		"fixed and not heard", "neither", "ten in one history", "one down", "two down", "most down", "lost by a fall", "doubled", "lost")
}

// The one that leads is cut off, and another one leads beside it; callers ask both and those who follow, and hear from any.
func TestPromise26TwoLead(t *testing.T) {
	seen := map[string]int{}
	for seed := range 20 {
		dice := rand.New(rand.NewSource(int64(2600 + seed)))
		n := oneOf(dice, 3, 4, 5)
		c := newChronicle(t, dice, n, seen)
		c.become("rounds", impl.LogCalm(c.log, 11), 11)
		for range 26 {
			c.become("asked", impl.LogDo(c.log, askingAt(dice.Intn(n), oneOf(dice, c.calls...))), 1)
			c.roundWithout(1)
			for at, r := range c.log.Rec.Recorders {
				seen["beside the first"] += boolInt(at > 0 && r.Lead && c.log.Rec.Recorders[0].Lead)
				c.become("heard", impl.LogDo(c.log, hearingAt(at, dice.Intn(len(c.log.Asked)))), 1)
			}
		}
		c.become("together again", impl.LogCalm(c.log, 30), 30)
		for place := range c.log.Asked {
			c.become("heard", impl.LogDo(c.log, hearingAt(dice.Intn(n), place)), 1)
			seen["heard at last"] += boolInt(c.log.Asked[place].To != 0)
		}
	}
	wantSeen(t, seen, 100, "beside the first", "heard at last", "fixed and not heard", "neither")
}

// asksAll comes to what promise 27 speaks of: all recorders risen, and all calls asked again, at any of them. It tells whether
// there is little enough with everybody.
func (c *chronicle) asksAll() bool {
	c.t.Helper()
	for i, r := range c.log.Rec.Recorders {
		if !r.Up {
			c.become("risen", impl.LogDo(c.log, impl.LogEvent{Kind: impl.RecEvRise, A: i}), 1)
		}
	}
	for _, a := range c.log.Asked {
		c.become("asked again", impl.LogDo(c.log, askingAt(c.dice.Intn(len(c.log.Rec.Recorders)), a.Call)), 1)
	}
	return !slices.ContainsFunc(c.log.Rec.Recorders, func(r impl.Recorder) bool {
		return len(r.Disk.Slots) > 20 || len(r.Safe.Slots) > 20 || len(r.Wishes) > 20
	})
}

// Promise 27; and then each caller hears from any, and all that was heard is right.
func TestPromise27Answers(t *testing.T) {
	seen := map[string]int{}
	for run := range 150 {
		dice := rand.New(rand.NewSource(int64(2700 + run)))
		n := 1 + run%5
		c := newChronicle(t, dice, n, seen)
		c.goOn(oneOf(dice, 20, 60, 120))
		if !c.asksAll() {
			seen["too much"]++
			continue
		}
		seen[fmt.Sprint("of ", n)]++
		c.become("200 rounds", impl.LogCalm(c.log, 200), 200)
		for _, r := range c.log.Rec.Recorders {
			for _, a := range c.log.Asked {
				if s, has := impl.LogSaid(impl.RecBook(r), rawCall(a.Call)); !has || a.To != 0 && s != a.Said {
					t.Fatalf("run %d: %d of %d knows %q, and not %q, which was said %+v", run, r.Number, n, impl.RecBook(r), rawCall(a.Call), a.Said)
				}
			}
		}
		for place := range c.log.Asked {
			c.become("heard", impl.LogDo(c.log, hearingAt(dice.Intn(n), place)), 1)
			if c.log.Asked[place].To == 0 {
				t.Fatalf("run %d: %+v is not heard", run, c.log.Asked[place])
			}
		}
	}
	wantSeen(t, seen, 25, "of 1", "of 2", "of 3", "of 4", "of 5")
}

// As many calls as there may be, all under way at once in a world of five, of which two fall while they are.
func TestPromise27TwelveAtOnce(t *testing.T) {
	for seed := range 10 {
		dice := rand.New(rand.NewSource(int64(seed)))
		c := newChronicle(t, dice, 5, map[string]int{})
		c.calls = drawSmalls(dice, 12)
		for i, one := range c.calls {
			c.become("asked", impl.LogDo(c.log, askingAt(i%5, one)), 1)
		}
		c.become("rounds", impl.LogCalm(c.log, 9+seed), 9+seed)
		for _, at := range []int{seed % 5, (seed + 1 + seed/5) % 5} {
			c.become("fallen", impl.LogDo(c.log, impl.LogEvent{Kind: impl.RecEvFall, A: at}), 1)
		}
		c.become("rounds", impl.LogCalm(c.log, seed), seed)
		if !c.asksAll() {
			t.Fatal("too much")
		}
		c.become("200 rounds", impl.LogCalm(c.log, 200), 200)
		for place := range 12 {
			c.become("heard", impl.LogDo(c.log, hearingAt(place%5, place)), 1)
			if c.log.Asked[place].To != c.log.Now {
				t.Errorf("%d: %+v is not heard", seed, c.log.Asked[place])
			}
		}
	}
}
