package tests

import (
	"fmt"
	"slices"
	"strings"
	"testing"

	"loop.example/wharflog/impl"
)

type change = func(r *impl.Recorder)

// A recTaking is a recorder (changed first), a message to it, and what is changed by it; a From or To of 0 stands for 1 and for the
// recorder itself.
type recTaking struct {
	what  string
	from  func() impl.Recorder
	first change
	m     impl.RecMessage
	then  []change
}

type takeGiven struct {
	R impl.Recorder
	M impl.RecMessage
}

func takeOf(g takeGiven) impl.Recorder {
	return impl.RecTake(g.R, g.M)
}

func wantRecTakings(t *testing.T, cases []recTaking) {
	t.Helper()
	for _, c := range cases {
		r := c.from()
		if c.first != nil {
			c.first(&r)
		}
		if c.m.From == 0 {
			c.m.From = 1
		}
		if c.m.To == 0 {
			c.m.To = r.Number
		}
		want := plainOf(r)
		for _, then := range c.then {
			then(&want)
		}
		wantRecTaking(t, c.what, r, c.m, want)
		wantFullHeld(t, c.what, r, c.m, want)
		wantNotTaken(t, c.what, r, c.m)
	}
}

func wantRecTaking(t *testing.T, what string, r impl.Recorder, m impl.RecMessage, want impl.Recorder) {
	t.Helper()
	if broken := brokenSentences(r); len(broken) > 0 || !soundMessage(m, r.Of) {
		t.Errorf("%s: the case is not what it says: it breaks %q", what, broken)
	}
	if plain := plainRecTake(r, m); !same(plain, want) {
		t.Errorf("%s: the plain one tells\n%+v and not\n%+v", what, plain, want)
	}
	got := impl.RecTake(r, m)
	if !same(got, want) {
		t.Errorf("%s:\n%+v and not\n%+v", what, got, want)
	}
	wantHeldAnew(t, what, r, got)
	listsKept(t, what, takeGiven{r, m}, takeOf)
}

// wantHeldAnew is promise 15 of one step.
func wantHeldAnew(t *testing.T, what string, r, got impl.Recorder) {
	t.Helper()
	if broken := brokenSentences(got); len(broken) > 0 || !impl.RecValid(got) {
		t.Errorf("%s: what comes out breaks %q: %+v", what, broken, got)
	}
	if len(got.Held) < len(r.Held) || !same(got.Held[:len(r.Held)], r.Held) {
		t.Fatalf("%s: what was held is not there any more: %+v", what, got.Held)
	}
	for _, m := range got.Held[len(r.Held):] {
		if !impl.RecMessageOk(m, r.Of) || !soundMessage(m, r.Of) || m.From != r.Number {
			t.Errorf("%s: held anew %+v", what, m)
		}
	}
}

// wantFullHeld takes the message with no room in Held, and with room for one: all else is done.
func wantFullHeld(t *testing.T, what string, r impl.Recorder, m impl.RecMessage, want impl.Recorder) {
	t.Helper()
	anew := want.Held[len(r.Held):]
	for _, room := range []int{0, 1} {
		r, want := plainOf(r), plainOf(want)
		r.Held = manyMessages(400-room, r.Number, 1)
		want.Held = slices.Concat(r.Held, anew[:min(room, len(anew))])
		if got := impl.RecTake(r, m); !same(got, want) || !same(plainRecTake(r, m), want) {
			t.Errorf("%s, with room for %d:\n%+v and not\n%+v", what, room, got, want)
		}
	}
}

// wantNotTaken: to another one, from nobody, or while it is not up, nothing is changed.
func wantNotTaken(t *testing.T, what string, r impl.Recorder, m impl.RecMessage) {
	t.Helper()
	for to := -1; to <= 6; to++ {
		other := m
		if other.To = to; to == r.Number {
			other.To, other.From = to, r.Of+1
		}
		if got := impl.RecTake(r, other); !same(got, r) {
			t.Errorf("%s: taken, to %d from %d: %+v", what, other.To, other.From, got)
		}
	}
	down := plainQuiet(r)
	down.Up, down.Held, down.Wishes, down.Heard = false, nil, nil, 0
	if got := impl.RecTake(down, m); !same(got, down) {
		t.Errorf("%s: taken by one that is not up: %+v", what, got)
	}
	listsKept(t, what, takeGiven{down, m}, takeOf)
}

func does(changes ...change) []change {
	return changes
}

func holds(list ...impl.RecMessage) change {
	return func(r *impl.Recorder) {
		for _, m := range list {
			m.From = r.Number
			r.Held = append(r.Held, m)
		}
	}
}

// heldBack is a refusal.
func heldBack(to, ballot int) change {
	return holds(impl.RecMessage{Kind: 9, To: to, Ballot: ballot})
}

func follows(promise int) change {
	return func(r *impl.Recorder) { r.Disk.Promise, r.Heard = promise, 0 }
}

func becomesQuiet(r *impl.Recorder) {
	r.Lead, r.Trying, r.Ballot, r.Yes, r.Best, r.Acks = false, false, 0, nil, nil, nil
}

func hasSlots(list ...impl.RecSlot) change {
	return func(r *impl.Recorder) { r.Disk.Slots = list }
}

func hasKnown(known int) change {
	return func(r *impl.Recorder) { r.Disk.Known = known }
}

func hasDisk(promise, known int, list ...impl.RecSlot) change {
	return func(r *impl.Recorder) { r.Disk = disk(promise, known, list...) }
}

func hasPromise(promise int) change {
	return func(r *impl.Recorder) { r.Disk.Promise = promise }
}

// noisy is a message of whose other fields nothing is to be seen.
func noisy(m impl.RecMessage) impl.RecMessage {
	if m.Index == 0 {
		m.Index = 7
	}
	m.Known, m.Text, m.Slots = 9, "noise", slots(slot(8, "noise"))
	return m
}

func TestTakePrepare(t *testing.T) {
	prepare := func(ballot int) impl.RecMessage { return impl.RecMessage{Kind: 1, Ballot: ballot} }
	promised := func(to, ballot int, list ...impl.RecSlot) change {
		return holds(impl.RecMessage{Kind: 2, To: to, Ballot: ballot, Slots: list})
	}
	all := idle().Disk.Slots
	self := impl.RecMessage{Kind: 1, From: 2}
	own, low := self, self
	own.Ballot, low.Ballot = 6, 5
	later := func(r *impl.Recorder) { r.Disk.Promise = 9 }
	wantRecTakings(t, []recTaking{
		{"ballot 0", idle, nil, prepare(0), does(heldBack(1, 5))},
		{"ballot 0, nothing promised", idle, hasDisk(0, 0), prepare(0), does(heldBack(1, 0))},
		{"ballot 1, nothing promised", idle, hasDisk(0, 0), prepare(1), does(follows(1), promised(1, 1))},
		{"one below", idle, nil, prepare(4), does(heldBack(1, 5))},
		{"at the promise", idle, nil, prepare(5), does(heldBack(1, 5))},
		{"one above", idle, nil, prepare(6), does(follows(6), promised(1, 6, all...))},
		{"far above", idle, nil, prepare(1000000), does(follows(1000000), promised(1, 1000000, all...))},
		{"at the limit of promises", idle, hasPromise(1000000), prepare(1000000), does(heldBack(1, 1000000))},
		{"from the third", idle, nil, impl.RecMessage{Kind: 1, From: 3, Ballot: 6}, does(follows(6), promised(3, 6, all...))},
		{"below, from the third", idle, nil, impl.RecMessage{Kind: 1, From: 3, Ballot: 1}, does(heldBack(3, 5))},
		{"from itself", idle, nil, own, does(follows(6), promised(2, 6, all...))},
		{"from itself, at the promise", idle, nil, low, does(heldBack(2, 5))},
		{"all else counts for nothing", idle, nil, noisy(prepare(6)), does(follows(6), promised(1, 6, all...))},
		{"60 slots", idle, hasDisk(5, 60, manySlots(60, 5)...), prepare(6), does(follows(6), promised(1, 6, manySlots(60, 5)...))},
		{"Heard is 0 already", idle, func(r *impl.Recorder) { r.Heard = 0 }, prepare(6), does(follows(6), promised(1, 6, all...))},
		{"Heard at its limit", idle, func(r *impl.Recorder) { r.Heard = 1000000 }, prepare(6), does(follows(6), promised(1, 6, all...))},

		{"its own ballot, while it leads", leading, nil, prepare(5), does(heldBack(1, 5))},
		{"one above its own, while it leads", leading, nil, prepare(6), does(follows(6), becomesQuiet, promised(1, 6, all...))},
		{"above its own, at the promise, while it leads", leading, later, prepare(9), does(heldBack(1, 9))},
		{"its own ballot, while it tries", trying, nil, prepare(5), does(heldBack(1, 5))},
		{"one above its own, while it tries", trying, nil, prepare(6), does(follows(6), becomesQuiet, promised(1, 6, all...))},
		{"above its own, below the promise, while it tries", trying, later, prepare(6), does(heldBack(1, 9))},
		{"above the promise, while it tries", trying, later, prepare(10), does(follows(10), becomesQuiet, promised(1, 10, all...))},
		{"from itself, while it leads", leading, nil, own, does(follows(6), becomesQuiet, promised(2, 6, all...))},
	})
}

// hoping is a recorder that tries under ballot 5, with those who promised.
func hoping(number, of int, yes ...int) func() impl.Recorder {
	return func() impl.Recorder {
		return impl.Recorder{Number: number, Of: of, Up: true, Disk: disk(6, 1, slot(2, "a"), slot(3, "b"), slot(0, ""), slot(6, "d")),
			Trying: true, Ballot: 5, Yes: yes, Best: slots(slot(1, "x"), slot(3, "b"), slot(0, "")), Heard: 2, Wishes: []string{"w"}}
	}
}

func TestTakePromised(t *testing.T) {
	promised := func(from int, list ...impl.RecSlot) impl.RecMessage {
		return impl.RecMessage{Kind: 2, From: from, Ballot: 5, Slots: list}
	}
	has := func(yes []int, best ...impl.RecSlot) change {
		return func(r *impl.Recorder) { r.Yes, r.Best = yes, best }
	}
	leads := func(r *impl.Recorder) { r.Lead, r.Trying, r.Yes, r.Best = true, false, nil, nil }
	under := func(ballot int) impl.RecMessage { return impl.RecMessage{Kind: 2, From: 3, Ballot: ballot} }
	bests := func(list ...impl.RecSlot) change { return func(r *impl.Recorder) { r.Best = list } }
	best := hoping(1, 5)().Best
	usual := hasSlots(slot(2, "a"), slot(5, "b"), slot(5, ""), slot(6, "d"))
	wantRecTakings(t, []recTaking{
		{"quiet", idle, nil, under(5), nil},
		{"quiet, ballot 0", idle, nil, under(0), nil},
		{"leads", leading, nil, under(5), nil},
		{"ballot 0", hoping(1, 3, 2), nil, under(0), nil},
		{"one below", hoping(1, 3, 2), nil, under(4), nil},
		{"one above, which is promised", hoping(1, 3, 2), nil, under(6), nil},
		{"under its ballot", hoping(1, 3, 2), nil, under(5), does(leads, usual)},

		{"of 5, the first", hoping(1, 5), nil, promised(4), does(has([]int{4}, best...))},
		{"of 5, the second, ahead", hoping(1, 5, 4), nil, promised(1), does(has([]int{1, 4}, best...))},
		{"of 5, the second, behind", hoping(1, 5, 4), nil, promised(5), does(has([]int{4, 5}, best...))},
		{"of 5, the third, between", hoping(1, 5, 1, 4), nil, promised(3), does(leads, usual)},
		{"of 5, one of the two again", hoping(1, 5, 1, 4), nil, promised(4), does(has([]int{1, 4}, best...))},
		{"of 5, one again, with more", hoping(1, 5, 1, 4), nil, promised(1, slot(9, "p"), slot(3, "q"), slot(1, ""), slot(0, "")),
			does(has([]int{1, 4}, slot(9, "p"), slot(3, "b"), slot(1, ""), slot(0, "")))},
		{"of 4, exactly half", hoping(1, 4, 3), nil, promised(1), does(has([]int{1, 3}, best...))},
		{"of 4, half already, again", hoping(1, 4, 1, 3), nil, promised(1), does(has([]int{1, 3}, best...))},
		{"of 4, one more", hoping(1, 4, 1, 3), nil, promised(2), does(leads, usual)},
		{"of 3, the first", hoping(3, 3), nil, promised(3), does(has([]int{3}, best...))},
		{"of 3, the second", hoping(3, 3, 3), nil, promised(1), does(leads, usual)},
		{"of 2, exactly half", hoping(2, 2), nil, promised(1), does(has([]int{1}, best...))},
		{"of 2, both", hoping(2, 2, 1), nil, promised(2), does(leads, usual)},
		{"of 1, itself", hoping(1, 1), nil, promised(1), does(leads, usual)},
		{"more than half already, one of them again", hoping(1, 5, 1, 2, 3), nil, promised(3), does(leads, usual)},
		{"all already", hoping(1, 3, 1, 2, 3), nil, promised(2), does(leads, usual)},

		{"Best is empty", hoping(1, 3, 2), bests(), promised(1), does(leads)},
		{"Best is of what is known", hoping(1, 3, 2), bests(slot(9, "p")), promised(1), does(leads)},
		{"Best comes with this promise", hoping(1, 3, 2), bests(), promised(1, slot(9, "p"), slot(9, "q")),
			does(leads, hasSlots(slot(2, "a"), slot(5, "q"), slot(0, ""), slot(6, "d")))},
		{"Best is merged with this promise", hoping(1, 3, 2), bests(slot(9, "p"), slot(2, "q"), slot(4, "s")), promised(1, slot(1, ""), slot(3, "t"), slot(4, "u"), slot(0, "")),
			does(leads, hasSlots(slot(2, "a"), slot(5, "t"), slot(5, "s"), slot(5, "")))},
		{"Best is as long as Slots", hoping(1, 3, 2), bests(best[0], best[1], best[2], slot(1, "e")), promised(1),
			does(leads, hasSlots(slot(2, "a"), slot(5, "b"), slot(5, ""), slot(5, "e")))},
		{"Best is longer by one", hoping(1, 3, 2), nil, promised(1, slot(0, ""), slot(0, ""), slot(1, "c"), slot(0, ""), slot(1, "e")),
			does(leads, hasSlots(slot(2, "a"), slot(5, "b"), slot(5, "c"), slot(5, ""), slot(5, "e")))},
		{"Best is 60 slots", hoping(1, 3, 2), nil, promised(1, manySlots(60, 3)...), does(leads, func(r *impl.Recorder) {
			r.Disk.Slots = manySlots(60, 5)
			r.Disk.Slots[0], r.Disk.Slots[1].Text = slot(2, "a"), "b"
		})},
		{"no Slots", hoping(1, 3, 2), hasDisk(5, 0), promised(1), does(leads, hasSlots(slot(5, "x"), slot(5, "b"), slot(5, "")))},
		{"nothing known", hoping(1, 3, 2), hasKnown(0), promised(1), does(leads, hasSlots(slot(5, "x"), slot(5, "b"), slot(5, ""), slot(6, "d")))},
		{"all known", hoping(1, 3, 2), hasDisk(5, 3, manySlots(3, 2)...), promised(1), does(leads)},
		{"all known but what Best has more", hoping(1, 3, 2), hasDisk(5, 2, manySlots(2, 2)...), promised(1), does(leads, hasSlots(slot(2, "s0"), slot(2, "s1"), slot(5, "")))},
		{"at the limit of ballots", hoping(1, 3, 2), func(r *impl.Recorder) { r.Disk.Promise, r.Ballot = 1000000, 1000000 },
			impl.RecMessage{Kind: 2, Ballot: 1000000}, does(leads, hasSlots(slot(2, "a"), slot(1000000, "b"), slot(1000000, ""), slot(6, "d")))},
		{"all else counts for nothing", hoping(1, 3, 2), nil, impl.RecMessage{Kind: 2, Ballot: 5, Index: 4, Known: 4, Text: "noise"}, does(leads, usual)},
	})
}

func TestTakeAccept(t *testing.T) {
	accept := func(ballot, index int) impl.RecMessage {
		return impl.RecMessage{Kind: 3, Ballot: ballot, Index: index, Text: "c"}
	}
	took := func(to, ballot, index int) change {
		return holds(impl.RecMessage{Kind: 4, To: to, Ballot: ballot, Index: index})
	}
	from := func(from, ballot, index int) impl.RecMessage {
		m := accept(ballot, index)
		m.From = from
		return m
	}
	a, b, none, d := slot(3, "a"), slot(5, "b"), slot(0, ""), slot(4, "")
	far := func(ballot int) []impl.RecSlot {
		return slices.Concat(slots(a, b, none, d), make([]impl.RecSlot, 55), slots(slot(ballot, "c")))
	}
	later := func(r *impl.Recorder) { r.Disk.Promise = 9 }
	texts := func(m impl.RecMessage, text string) impl.RecMessage {
		m.Text = text
		return m
	}
	wantRecTakings(t, []recTaking{
		{"one below", idle, nil, accept(4, 3), does(heldBack(1, 5))},
		{"one below, Index 0", idle, nil, accept(4, 0), does(heldBack(1, 5))},
		{"one below, from itself", idle, nil, from(2, 4, 3), does(heldBack(2, 5))},
		{"one below, from the third", idle, nil, from(3, 4, 3), does(heldBack(3, 5))},
		{"ballot 0", idle, nil, accept(0, 3), does(heldBack(1, 5))},
		{"ballot 0, nothing promised", idle, hasDisk(0, 0), accept(0, 1), nil},
		{"ballot 1, nothing promised", idle, hasDisk(0, 0), accept(1, 1), does(follows(1), hasSlots(slot(1, "c")), took(1, 1, 1))},
		{"at the promise", idle, nil, accept(5, 3), does(follows(5), hasSlots(a, b, slot(5, "c"), d), took(1, 5, 3))},
		{"one above", idle, nil, accept(6, 3), does(follows(6), hasSlots(a, b, slot(6, "c"), d), took(1, 6, 3))},
		{"at the limit of ballots", idle, nil, accept(1000000, 3), does(follows(1000000), hasSlots(a, b, slot(1000000, "c"), d), took(1, 1000000, 3))},
		{"from itself", idle, nil, from(2, 6, 3), nil},
		{"from itself, while it leads", leading, nil, from(2, 5, 3), nil},
		{"from the third", idle, nil, from(3, 6, 3), does(follows(6), hasSlots(a, b, slot(6, "c"), d), took(3, 6, 3))},

		{"Index 0", idle, nil, accept(6, 0), nil},
		{"Index 1, which is known", idle, nil, accept(6, 1), does(follows(6), took(1, 6, 1))},
		{"Index at Known", idle, nil, accept(6, 2), does(follows(6), took(1, 6, 2))},
		{"Index on a slot that is taken", idle, nil, accept(6, 4), does(follows(6), hasSlots(a, b, none, slot(6, "c")), took(1, 6, 4))},
		{"Index behind Slots", idle, nil, accept(6, 5), does(follows(6), hasSlots(a, b, none, d, slot(6, "c")), took(1, 6, 5))},
		{"Index further on", idle, nil, accept(6, 7), does(follows(6), hasSlots(a, b, none, d, none, none, slot(6, "c")), took(1, 6, 7))},
		{"Index at its limit", idle, nil, accept(6, 60), does(follows(6), hasSlots(far(6)...), took(1, 6, 60))},
		{"Index at its limit, no Slots", idle, hasDisk(0, 0), accept(1, 60), does(follows(1), hasSlots(append(make([]impl.RecSlot, 59), slot(1, "c"))...), took(1, 1, 60))},
		{"Index at its limit, 60 Slots", idle, hasDisk(5, 59, manySlots(60, 4)...), accept(5, 60), does(follows(5), hasSlots(append(manySlots(59, 4), slot(5, "c"))...), took(1, 5, 60))},
		{"Index at its limit, all known", idle, hasDisk(5, 60, manySlots(60, 4)...), accept(6, 60), does(follows(6), took(1, 6, 60))},
		{"nothing known", idle, hasKnown(0), accept(6, 1), does(follows(6), hasSlots(slot(6, "c"), b, none, d), took(1, 6, 1))},
		{"no Text", idle, nil, texts(accept(6, 3), ""), does(follows(6), hasSlots(a, b, slot(6, ""), d), took(1, 6, 3))},
		{"Text of 100 bytes", idle, nil, texts(accept(6, 3), long(100)), does(follows(6), hasSlots(a, b, slot(6, long(100)), d), took(1, 6, 3))},
		{"all else counts for nothing", idle, nil, texts(noisy(accept(6, 3)), "c"), does(follows(6), hasSlots(a, b, slot(6, "c"), d), took(1, 6, 3))},

		{"its own ballot, while it leads", leading, nil, accept(5, 3), does(follows(5), hasSlots(a, b, slot(5, "c"), d), took(1, 5, 3))},
		{"another one, while it leads", leading, nil, accept(6, 3), does(follows(6), becomesQuiet, hasSlots(a, b, slot(6, "c"), d), took(1, 6, 3))},
		{"its own ballot, while it tries", trying, nil, accept(5, 3), does(follows(5), hasSlots(a, b, slot(5, "c"), d), took(1, 5, 3))},
		{"another one, while it tries", trying, nil, accept(6, 3), does(follows(6), becomesQuiet, hasSlots(a, b, slot(6, "c"), d), took(1, 6, 3))},
		{"its own ballot, below the promise", leading, later, accept(5, 3), does(heldBack(1, 9))},
		{"at the promise, above its own", leading, later, accept(9, 3), does(follows(9), becomesQuiet, hasSlots(a, b, slot(9, "c"), d), took(1, 9, 3))},
		{"at the promise, above its own, which it tries", trying, later, accept(9, 1), does(follows(9), becomesQuiet, took(1, 9, 1))},
		{"another one, Index 0, while it leads", leading, nil, accept(6, 0), nil},
	})
}

// heading is a recorder that leads under ballot 5, with acks and one place that is known.
func heading(of int, acks ...impl.RecAck) func() impl.Recorder {
	return func() impl.Recorder {
		return impl.Recorder{Number: 1, Of: of, Up: true, Disk: disk(6, 1, slot(2, "a"), slot(5, "b"), slot(5, "c"), slot(4, "d"), slot(5, "e")),
			Lead: true, Ballot: 5, Acks: acks, Heard: 2, Held: []impl.RecMessage{message(5, 1, 1)}}
	}
}

func ack(index int, from ...int) impl.RecAck {
	return impl.RecAck{Index: index, From: from}
}

func TestTakeAccepted(t *testing.T) {
	accepted := func(from, index int) impl.RecMessage {
		return impl.RecMessage{Kind: 4, From: from, Ballot: 5, Index: index}
	}
	under := func(ballot int) impl.RecMessage { return impl.RecMessage{Kind: 4, From: 3, Ballot: ballot, Index: 2} }
	has := func(acks ...impl.RecAck) change { return func(r *impl.Recorder) { r.Acks = acks } }
	wantRecTakings(t, []recTaking{
		{"quiet", idle, nil, under(5), nil},
		{"quiet, ballot 0", idle, nil, under(0), nil},
		{"tries", trying, nil, under(5), nil},
		{"ballot 0", heading(3), nil, under(0), nil},
		{"one below", heading(3), nil, under(4), nil},
		{"one above, which is promised", heading(3), nil, under(6), nil},
		{"under its ballot", heading(3), nil, under(5), does(has(ack(2, 3)))},
		{"Index 0", heading(3), nil, accepted(2, 0), nil},
		{"Index 1, which is known", heading(3), nil, accepted(2, 1), does(has(ack(1, 2)))},
		{"Index at its limit, no slot there", heading(3), nil, accepted(2, 60), does(has(ack(60, 2)))},
		{"from itself", heading(3), nil, accepted(1, 2), does(has(ack(2, 1)))},
		{"all else counts for nothing", heading(3), nil, noisy(accepted(2, 2)), does(has(ack(2, 2)))},

		{"one who took it already", heading(3, ack(2, 3)), nil, accepted(3, 2), does(has(ack(2, 3)))},
		{"of 3, most", heading(3, ack(2, 3)), nil, accepted(1, 2), does(has(ack(2, 1, 3)), hasKnown(2))},
		{"of 3, all", heading(3, ack(2, 1, 3)), hasSlots(slot(5, "a"), slot(4, "b")), accepted(2, 2), does(has(ack(2, 1, 2, 3)))},
		{"of 1", heading(1), nil, accepted(1, 2), does(has(ack(2, 1)), hasKnown(2))},
		{"of 2, exactly half", heading(2), nil, accepted(2, 2), does(has(ack(2, 2)))},
		{"of 2, both", heading(2, ack(2, 1)), nil, accepted(2, 2), does(has(ack(2, 1, 2)), hasKnown(2))},
		{"of 4, exactly half", heading(4, ack(2, 4)), nil, accepted(2, 2), does(has(ack(2, 2, 4)))},
		{"of 4, one more", heading(4, ack(2, 2, 4)), nil, accepted(3, 2), does(has(ack(2, 2, 3, 4)), hasKnown(2))},
		{"of 5, two", heading(5, ack(2, 1)), nil, accepted(5, 2), does(has(ack(2, 1, 5)))},
		{"of 5, three", heading(5, ack(2, 1, 5)), nil, accepted(2, 2), does(has(ack(2, 1, 2, 5)), hasKnown(2))},
		{"of 5, the second again", heading(5, ack(2, 1, 5)), nil, accepted(5, 2), does(has(ack(2, 1, 5)))},

		{"ahead of all", heading(5, ack(3, 1), ack(9, 2)), nil, accepted(4, 1), does(has(ack(1, 4), ack(3, 1), ack(9, 2)))},
		{"between", heading(5, ack(3, 1), ack(9, 2)), nil, accepted(4, 4), does(has(ack(3, 1), ack(4, 4), ack(9, 2)))},
		{"behind all", heading(5, ack(3, 1), ack(9, 2)), nil, accepted(4, 60), does(has(ack(3, 1), ack(9, 2), ack(60, 4)))},
		{"an ack of nobody", heading(5, ack(3), ack(9, 2)), nil, accepted(4, 3), does(has(ack(3, 4), ack(9, 2)))},
		{"the last makes the next known", heading(3, ack(2, 1), ack(3, 2)), nil, accepted(3, 2), does(has(ack(2, 1, 3), ack(3, 2)), hasKnown(2))},
		{"and the one behind it", heading(3, ack(2, 1), ack(3, 1, 3)), nil, accepted(3, 2), does(has(ack(2, 1, 3), ack(3, 1, 3)), hasKnown(3))},
		{"not over another ballot", heading(3, ack(2, 1), ack(3, 1, 3), ack(4, 1, 2, 3), ack(5, 1, 2, 3)), nil, accepted(3, 2),
			does(has(ack(2, 1, 3), ack(3, 1, 3), ack(4, 1, 2, 3), ack(5, 1, 2, 3)), hasKnown(3))},
		{"not over one that few took", heading(3, ack(2, 1), ack(3, 1), ack(4, 1, 2)), hasDisk(5, 1, manySlots(5, 5)...), accepted(3, 2),
			does(has(ack(2, 1, 3), ack(3, 1), ack(4, 1, 2)), hasKnown(2))},
		{"not over one without ack", heading(3, ack(2, 1), ack(4, 1, 2)), hasDisk(5, 1, manySlots(5, 5)...), accepted(3, 2),
			does(has(ack(2, 1, 3), ack(4, 1, 2)), hasKnown(2))},
		{"the one ahead is not known", heading(3, ack(3, 1)), nil, accepted(3, 3), does(has(ack(3, 1, 3)))},
		{"one that was ready before", heading(3, ack(2, 1, 3)), nil, accepted(3, 9), does(has(ack(2, 1, 3), ack(9, 3)), hasKnown(2))},
		{"one that was ready before, and the next one", heading(3, ack(2, 1, 3), ack(3, 1)), nil, accepted(3, 3), does(has(ack(2, 1, 3), ack(3, 1, 3)), hasKnown(3))},
		{"one that is known", heading(3, ack(1, 1)), nil, accepted(3, 1), does(has(ack(1, 1, 3)))},

		{"no slot there", heading(3, ack(2, 1)), hasSlots(slot(5, "a")), accepted(3, 2), does(has(ack(2, 1, 3)))},
		{"no slots at all", heading(3, ack(1, 1)), hasDisk(5, 0), accepted(3, 1), does(has(ack(1, 1, 3)))},
		{"an empty slot", heading(3, ack(2, 1)), hasSlots(slot(5, "a"), slot(0, "")), accepted(3, 2), does(has(ack(2, 1, 3)))},
		{"a slot of a smaller ballot", heading(3, ack(2, 1)), hasSlots(slot(5, "a"), slot(4, "b")), accepted(3, 2), does(has(ack(2, 1, 3)))},
		{"a slot of a greater ballot", heading(3, ack(2, 1)), hasSlots(slot(5, "a"), slot(6, "b")), accepted(3, 2), does(has(ack(2, 1, 3)))},
		{"a slot without Text", heading(3, ack(2, 1)), hasSlots(slot(5, "a"), slot(5, "")), accepted(3, 2), does(has(ack(2, 1, 3)), hasKnown(2))},
		{"the 60th", heading(3, ack(60, 1)), hasDisk(5, 59, manySlots(60, 5)...), accepted(3, 60), does(has(ack(60, 1, 3)), hasKnown(60))},
		{"all known", heading(3, ack(60, 1)), hasDisk(5, 60, manySlots(60, 5)...), accepted(3, 60), does(has(ack(60, 1, 3)))},
		{"nothing known", heading(3, ack(1, 1)), hasDisk(5, 0, manySlots(1, 5)...), accepted(3, 1), does(has(ack(1, 1, 3)), hasKnown(1))},
	})
}

func TestTakeBeat(t *testing.T) {
	beat := func(ballot, known int) impl.RecMessage { return impl.RecMessage{Kind: 5, Ballot: ballot, Known: known} }
	from := func(from, ballot, known int) impl.RecMessage {
		m := beat(ballot, known)
		m.From = from
		return m
	}
	wishes := func(to int, list ...string) change {
		return func(r *impl.Recorder) {
			for _, w := range list {
				holds(impl.RecMessage{Kind: 8, To: to, Text: w})(r)
			}
		}
	}
	needs := func(to, ballot, index int) change {
		return holds(impl.RecMessage{Kind: 7, To: to, Ballot: ballot, Index: index})
	}
	usual := wishes(1, "w", "v")
	noWishes := func(r *impl.Recorder) { r.Wishes = nil }
	bare := func(d change) change { return func(r *impl.Recorder) { noWishes(r); d(r) } }
	later := func(r *impl.Recorder) { r.Disk.Promise = 9 }
	a, b, none := slot(3, "a"), slot(5, "b"), slot(0, "")
	run := func(ballots ...int) change {
		list := slots(a)
		for i, ballot := range ballots {
			list = append(list, slot(ballot, strings.Repeat("r", boolInt(ballot > 0)*(i+1))))
		}
		return bare(hasDisk(5, 1, list...))
	}
	wantRecTakings(t, []recTaking{
		{"one below", idle, nil, beat(4, 9), does(heldBack(1, 5))},
		{"one below, from itself", idle, nil, from(2, 4, 9), does(heldBack(2, 5))},
		{"one below, from the third", idle, nil, from(3, 4, 9), does(heldBack(3, 5))},
		{"ballot 0", idle, nil, beat(0, 0), does(heldBack(1, 5))},
		{"ballot 0, nothing promised", idle, hasDisk(0, 0), beat(0, 3), nil},
		{"ballot 1, nothing promised", idle, hasDisk(0, 0), beat(1, 0), does(follows(1), usual)},
		{"at the promise", idle, nil, beat(5, 0), does(follows(5), usual)},
		{"one above", idle, nil, beat(6, 2), does(follows(6), usual)},
		{"at the limit of ballots", idle, nil, beat(1000000, 0), does(follows(1000000), usual)},
		{"from itself", idle, nil, from(2, 6, 9), nil},
		{"from itself, while it leads", leading, nil, from(2, 5, 9), nil},
		{"from the third", idle, nil, from(3, 6, 3), does(follows(6), needs(3, 6, 3), wishes(3, "w", "v"))},
		{"all else counts for nothing", idle, nil, impl.RecMessage{Kind: 5, Ballot: 6, Index: 4, Known: 2, Text: "noise", Slots: slots(slot(8, "noise"))}, does(follows(6), usual)},

		{"no wishes", idle, noWishes, beat(5, 2), does(follows(5))},
		{"no wishes, and it needs something", idle, noWishes, beat(5, 3), does(follows(5), needs(1, 5, 3))},
		{"20 wishes", idle, func(r *impl.Recorder) { r.Wishes = manyWishes(20) }, beat(5, 3), does(follows(5), needs(1, 5, 3), wishes(1, manyWishes(20)...))},
		{"a wish that is known", idle, func(r *impl.Recorder) { r.Wishes = []string{"a"} }, beat(5, 1), does(follows(5), wishes(1, "a"))},
		{"a wish that comes to be known", idle, func(r *impl.Recorder) { r.Disk, r.Wishes = disk(5, 1, a, b), []string{"b"} }, beat(5, 2), does(follows(5), hasKnown(2), wishes(1, "b"))},

		{"Known below its own", idle, run(5, 5, 5), beat(5, 0), does(follows(5))},
		{"Known as its own", idle, run(5, 5, 5), beat(5, 1), does(follows(5))},
		{"Known one more", idle, run(5, 5, 5), beat(5, 2), does(follows(5), hasKnown(2))},
		{"Known two more", idle, run(5, 5, 5), beat(5, 3), does(follows(5), hasKnown(3))},
		{"Known as many as Slots", idle, run(5, 5, 5), beat(5, 4), does(follows(5), hasKnown(4))},
		{"Known one more than Slots", idle, run(5, 5, 5), beat(5, 5), does(follows(5), hasKnown(4), needs(1, 5, 5))},
		{"Known at its limit", idle, run(5, 5, 5), beat(5, 60), does(follows(5), hasKnown(4), needs(1, 5, 5))},
		{"the next of a smaller ballot", idle, run(4, 5, 5), beat(5, 4), does(follows(5), needs(1, 5, 2))},
		{"the second of a smaller ballot", idle, run(5, 4, 5), beat(5, 4), does(follows(5), hasKnown(2), needs(1, 5, 3))},
		{"the last of a smaller ballot", idle, run(5, 5, 4), beat(5, 4), does(follows(5), hasKnown(3), needs(1, 5, 4))},
		{"the last of a smaller ballot is not asked for", idle, run(5, 5, 4), beat(5, 3), does(follows(5), hasKnown(3))},
		{"an empty slot", idle, run(5, 0, 5), beat(5, 4), does(follows(5), hasKnown(2), needs(1, 5, 3))},
		{"all of the ballot that was promised, none of this one", idle, run(5, 5, 5), beat(6, 4), does(follows(6), needs(1, 6, 2))},
		{"nothing known, no Slots", idle, bare(hasDisk(5, 0)), beat(5, 1), does(follows(5), needs(1, 5, 1))},
		{"nothing known, an empty slot", idle, bare(hasDisk(5, 0, none, b)), beat(5, 2), does(follows(5), needs(1, 5, 1))},
		{"nothing known, two slots", idle, bare(hasDisk(5, 0, b, b)), beat(5, 2), does(follows(5), hasKnown(2))},
		{"60 slots", idle, bare(hasDisk(5, 0, manySlots(60, 5)...)), beat(5, 60), does(follows(5), hasKnown(60))},
		{"60 slots, 59 known", idle, bare(hasDisk(5, 59, manySlots(60, 5)...)), beat(5, 60), does(follows(5), hasKnown(60))},
		{"59 slots, and it needs the last", idle, bare(hasDisk(5, 0, manySlots(59, 5)...)), beat(5, 60), does(follows(5), hasKnown(59), needs(1, 5, 60))},

		{"its own ballot, while it leads", leading, nil, beat(5, 3), does(follows(5), needs(1, 5, 3), usual)},
		{"another one, while it leads", leading, nil, beat(6, 2), does(follows(6), becomesQuiet, usual)},
		{"its own ballot, while it tries", trying, nil, beat(5, 2), does(follows(5), usual)},
		{"another one, while it tries", trying, nil, beat(6, 2), does(follows(6), becomesQuiet, usual)},
		{"its own ballot, below the promise", trying, later, beat(5, 2), does(heldBack(1, 9))},
		{"at the promise, above its own", leading, later, beat(9, 2), does(follows(9), becomesQuiet, usual)},
	})
}

func TestTakeChosen(t *testing.T) {
	chosen := func(ballot, index int) impl.RecMessage {
		return impl.RecMessage{Kind: 6, Ballot: ballot, Index: index, Text: "c"}
	}
	texts := func(m impl.RecMessage, text string) impl.RecMessage {
		m.Text = text
		return m
	}
	a, b, d := slot(3, "a"), slot(5, "b"), slot(4, "")
	self := chosen(5, 3)
	self.From = 2
	next := func(ballot int, text string) []change {
		return does(hasKnown(3), hasSlots(a, b, slot(ballot, text), d))
	}
	wantRecTakings(t, []recTaking{
		{"ballot 0", idle, nil, chosen(0, 3), nil},
		{"ballot 1", idle, nil, chosen(1, 3), next(1, "c")},
		{"one below the promise", idle, nil, chosen(4, 3), next(4, "c")},
		{"at the promise", idle, nil, chosen(5, 3), next(5, "c")},
		{"one above", idle, nil, chosen(6, 3), nil},
		{"ballot 0, nothing promised", idle, hasDisk(0, 0), chosen(0, 1), nil},
		{"ballot 1, nothing promised", idle, hasDisk(0, 0), chosen(1, 1), nil},
		{"at the limit of ballots", idle, hasPromise(1000000), chosen(1000000, 3), next(1000000, "c")},
		{"Index 0", idle, nil, chosen(5, 0), nil},
		{"Index 0, nothing known", idle, hasDisk(5, 0), chosen(5, 0), nil},
		{"Index 1, which is known", idle, nil, chosen(5, 1), nil},
		{"Index at Known", idle, nil, chosen(5, 2), nil},
		{"Index at Known + 2", idle, nil, chosen(5, 4), nil},
		{"Index at its limit", idle, nil, chosen(5, 60), nil},
		{"Index 1, nothing known", idle, hasDisk(5, 0), chosen(5, 1), does(hasKnown(1), hasSlots(slot(5, "c")))},
		{"one more than Slots", idle, hasDisk(5, 2, a, b), chosen(5, 3), does(hasKnown(3), hasSlots(a, b, slot(5, "c")))},
		{"on a slot of a greater ballot", idle, hasDisk(5, 1, a, b), chosen(3, 2), does(hasKnown(2), hasSlots(a, slot(3, "c")))},
		{"the one behind it is taken too", idle, hasDisk(5, 0, b, b), chosen(5, 1), does(hasKnown(1), hasSlots(slot(5, "c"), b))},
		{"the 60th", idle, hasDisk(5, 59, manySlots(59, 4)...), chosen(5, 60), does(hasKnown(60), hasSlots(append(manySlots(59, 4), slot(5, "c"))...))},
		{"the 60th, known already", idle, hasDisk(5, 60, manySlots(60, 4)...), chosen(5, 60), nil},
		{"no Text", idle, nil, texts(chosen(5, 3), ""), next(5, "")},
		{"Text of 100 bytes", idle, nil, texts(chosen(5, 3), long(100)), next(5, long(100))},
		{"a text that it wishes for", idle, nil, texts(chosen(5, 3), "w"), next(5, "w")},
		{"from itself", idle, nil, self, next(5, "c")},
		{"while it leads", leading, nil, chosen(4, 3), next(4, "c")},
		{"while it tries", trying, nil, chosen(5, 3), next(5, "c")},
		{"all else counts for nothing", idle, nil, texts(noisy(chosen(5, 3)), "c"), next(5, "c")},
	})
}

func TestTakeNeed(t *testing.T) {
	need := func(index int) impl.RecMessage { return impl.RecMessage{Kind: 7, Index: index} }
	leads := func(known, of int) change { return hasDisk(6, known, manySlots(of, 4)...) }
	tells := func(to int, indexes ...int) []change {
		return does(func(r *impl.Recorder) {
			for _, index := range indexes {
				holds(impl.RecMessage{Kind: 6, To: to, Ballot: 5, Index: index, Text: fmt.Sprint("s", index-1)})(r)
			}
		})
	}
	self, third := need(1), need(2)
	self.From, third.From = 1, 3
	other := func(ballot int) impl.RecMessage {
		m := noisy(need(7))
		m.Ballot = ballot
		return m
	}
	wantRecTakings(t, []recTaking{
		{"quiet", idle, leads(9, 9), need(1), nil},
		{"tries", trying, leads(9, 9), need(1), nil},
		{"Index 0", heading(3), leads(9, 9), need(0), nil},
		{"Index 1", heading(3), leads(9, 9), need(1), tells(1, 1, 2, 3, 4, 5)},
		{"all five", heading(3), leads(9, 9), need(5), tells(1, 5, 6, 7, 8, 9)},
		{"four of them", heading(3), leads(9, 9), need(6), tells(1, 6, 7, 8, 9)},
		{"one of them", heading(3), leads(9, 9), need(9), tells(1, 9)},
		{"Known + 1", heading(3), leads(9, 9), need(10), nil},
		{"slots above Known", heading(3), leads(3, 9), need(2), tells(1, 2, 3)},
		{"a slot above Known", heading(3), leads(3, 9), need(4), nil},
		{"nothing known", heading(3), leads(0, 9), need(1), nil},
		{"Index at its limit", heading(3), leads(60, 60), need(60), tells(1, 60)},
		{"Index near its limit", heading(3), leads(60, 60), need(57), tells(1, 57, 58, 59, 60)},
		{"Index at its limit, which is not known", heading(3), leads(59, 60), need(60), nil},
		{"one slot", heading(3), leads(1, 1), need(1), tells(1, 1)},
		{"from itself", heading(3), leads(1, 1), self, tells(1, 1)},
		{"from the third", heading(3), leads(3, 3), third, tells(3, 2, 3)},
		{"under its ballot", heading(3), leads(9, 9), other(5), tells(1, 7, 8, 9)},
		{"under another ballot", heading(3), leads(9, 9), other(9), tells(1, 7, 8, 9)},
		{"a slot without Text", heading(3), hasDisk(6, 1, slot(4, "")), need(1), does(holds(impl.RecMessage{Kind: 6, To: 1, Ballot: 5, Index: 1}))},
	})
}

func TestTakeRefuse(t *testing.T) {
	refuse := func(ballot int) impl.RecMessage { return impl.RecMessage{Kind: 9, Ballot: ballot} }
	self := refuse(6)
	self.From = 2
	later := func(r *impl.Recorder) { r.Disk.Promise = 9 }
	wantRecTakings(t, []recTaking{
		{"quiet, above the promise", idle, nil, refuse(9), nil},
		{"quiet, below the promise", idle, nil, refuse(3), nil},
		{"quiet, ballot 0", idle, nil, refuse(0), nil},
		{"leads, ballot 0", leading, nil, refuse(0), nil},
		{"leads, one below", leading, nil, refuse(4), nil},
		{"leads, its own", leading, nil, refuse(5), nil},
		{"leads, one above", leading, nil, refuse(6), does(becomesQuiet, hasPromise(6))},
		{"leads, at the limit", leading, nil, refuse(1000000), does(becomesQuiet, hasPromise(1000000))},
		{"tries, one below", trying, nil, refuse(4), nil},
		{"tries, its own", trying, nil, refuse(5), nil},
		{"tries, one above", trying, nil, refuse(6), does(becomesQuiet, hasPromise(6))},
		{"above its own, below the promise", leading, later, refuse(6), does(becomesQuiet)},
		{"above its own, at the promise", trying, later, refuse(9), does(becomesQuiet)},
		{"above both", trying, later, refuse(10), does(becomesQuiet, hasPromise(10))},
		{"from itself", leading, nil, self, does(becomesQuiet, hasPromise(6))},
		{"all else counts for nothing", leading, nil, noisy(refuse(6)), does(becomesQuiet, hasPromise(6))},
	})
}

// Each kind of message, as it would change something, and each way in which it is not ok.
func TestTakeOfMessagesThatAreNotOk(t *testing.T) {
	ten := func(r *impl.Recorder) { r.Disk = disk(5, 2, manySlots(10, 5)...) }
	givens := []recTaking{
		{"prepare", idle, nil, impl.RecMessage{Kind: 1, Ballot: 7}, nil},
		{"a refused prepare", idle, nil, impl.RecMessage{Kind: 1, Ballot: 2}, nil},
		{"promised", trying, nil, impl.RecMessage{Kind: 2, Ballot: 5}, nil},
		{"accept", idle, nil, impl.RecMessage{Kind: 3, Ballot: 7, Index: 3}, nil},
		{"accepted", leading, nil, impl.RecMessage{Kind: 4, Ballot: 5, Index: 4}, nil},
		{"beat", idle, ten, impl.RecMessage{Kind: 5, Ballot: 5, Known: 9}, nil},
		{"chosen", idle, nil, impl.RecMessage{Kind: 6, Ballot: 5, Index: 3}, nil},
		{"need", leading, nil, impl.RecMessage{Kind: 7, Index: 1}, nil},
		{"wished", idle, nil, impl.RecMessage{Kind: 8, Text: "z"}, nil},
		{"refuse", leading, nil, impl.RecMessage{Kind: 9, Ballot: 9}, nil},
	}
	for what, spoil := range map[string]func(m *impl.RecMessage){
		"Kind 0":              func(m *impl.RecMessage) { m.Kind = 0 },
		"Kind below 0":        func(m *impl.RecMessage) { m.Kind = -1 },
		"Kind 10":             func(m *impl.RecMessage) { m.Kind = 10 },
		"From 0":              func(m *impl.RecMessage) { m.From = 0 },
		"From behind the end": func(m *impl.RecMessage) { m.From = 4 },
		"To 0":                func(m *impl.RecMessage) { m.To = 0 },
		"To another":          func(m *impl.RecMessage) { m.To = 3 },
		"To behind the end":   func(m *impl.RecMessage) { m.To = 4 },
		"Ballot below 0":      func(m *impl.RecMessage) { m.Ballot = -1 },
		"Ballot one above":    func(m *impl.RecMessage) { m.Ballot = 1000001 },
		"Index below 0":       func(m *impl.RecMessage) { m.Index = -1 },
		"Index one above":     func(m *impl.RecMessage) { m.Index = 61 },
		"Known below 0":       func(m *impl.RecMessage) { m.Known = -1 },
		"Known one above":     func(m *impl.RecMessage) { m.Known = 61 },
		"Text too long":       func(m *impl.RecMessage) { m.Text = long(101) },
		"61 Slots":            func(m *impl.RecMessage) { m.Slots = manySlots(61, 1) },
		"a slot not ok":       func(m *impl.RecMessage) { m.Slots = slots(slot(0, "x")) },
	} {
		for _, c := range givens {
			r := c.from()
			if c.first != nil {
				c.first(&r)
			}
			m := c.m
			m.From, m.To = 1, 2
			if same(impl.RecTake(r, m), r) {
				t.Errorf("%s: nothing is changed by it", c.what)
			}
			spoil(&m)
			if got := impl.RecTake(r, m); !same(got, r) {
				t.Errorf("%s, %s: %+v", c.what, what, got)
			}
		}
	}
}
