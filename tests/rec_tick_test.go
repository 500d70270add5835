package tests

import (
	"fmt"
	"math"
	"slices"
	"testing"

	"loop.example/wharflog/impl"
)

// A recTicking is a recorder (changed first), what its tick changes beside what every tick does, and what is sent behind what was held.
type recTicking struct {
	what  string
	from  func() impl.Recorder
	first change
	then  []change
	sent  []impl.RecMessage
}

type tickTold struct {
	R    impl.Recorder
	Sent []impl.RecMessage
}

func tickOf(r impl.Recorder) tickTold {
	after, sent := impl.RecTick(r)
	return tickTold{after, sent}
}

// wantRecTickings ticks each with what it holds, with nothing and with as much as there is room for, and whatever was safe before.
func wantRecTickings(t *testing.T, cases []recTicking) {
	t.Helper()
	for _, c := range cases {
		r := c.from()
		if c.first != nil {
			c.first(&r)
		}
		want := everyTick(r)
		for _, then := range c.then {
			then(&want)
		}
		for _, held := range [][]impl.RecMessage{r.Held, nil, manyMessages(400, r.Number, r.Of)} {
			for _, safe := range []impl.RecDisk{r.Safe, {}, disk(1000000, 60, manySlots(60, 5)...), disk(5, 1, slot(4, "w"))} {
				given := plainOf(r)
				given.Held, given.Safe = held, safe
				wantRecTick(t, c.what, given, want, slices.Concat(held, c.sent))
			}
		}
	}
}

func everyTick(r impl.Recorder) impl.Recorder {
	want := plainOf(r)
	want.Safe, want.Held, want.Heard = plainOf(r.Disk), nil, min(r.Heard+1, 1000000)
	return want
}

func wantRecTick(t *testing.T, what string, r, want impl.Recorder, sent []impl.RecMessage) {
	t.Helper()
	if broken := brokenSentences(r); len(broken) > 0 {
		t.Errorf("%s: the case breaks %q", what, broken)
	}
	if plain, told := plainRecTick(r); !same(plain, want) || !same(told, sent) {
		t.Errorf("%s: the plain one tells\n%+v\n%+v and not\n%+v\n%+v", what, plain, told, want, sent)
	}
	got := tickOf(r)
	if !same(got.R, want) || !same(got.Sent, sent) {
		t.Errorf("%s:\n%+v\n%+v and not\n%+v\n%+v", what, got.R, got.Sent, want, sent)
	}
	wantSentOk(t, what, r, got)
	listsKept(t, what, r, tickOf)
}

// wantSentOk is promise 15 of one tick.
func wantSentOk(t *testing.T, what string, r impl.Recorder, got tickTold) {
	t.Helper()
	if broken := brokenSentences(got.R); len(broken) > 0 || !impl.RecValid(got.R) {
		t.Errorf("%s: what comes out breaks %q: %+v", what, broken, got.R)
	}
	for _, m := range got.Sent {
		if !impl.RecMessageOk(m, r.Of) || !soundMessage(m, r.Of) || m.From != r.Number {
			t.Errorf("%s: sent %+v", what, m)
		}
	}
}

func joined(changes ...change) change {
	return func(r *impl.Recorder) {
		for _, c := range changes {
			c(r)
		}
	}
}

func hasWishes(list ...string) change {
	return func(r *impl.Recorder) { r.Wishes = list }
}

func hasHeard(heard int) change {
	return func(r *impl.Recorder) { r.Heard = heard }
}

func hasAcks(list ...impl.RecAck) change {
	return func(r *impl.Recorder) { r.Acks = list }
}

func hasYes(yes []int, best ...impl.RecSlot) change {
	return func(r *impl.Recorder) { r.Yes, r.Best = yes, best }
}

// leadsNow: it tried, and it leads with these slots.
func leadsNow(list ...impl.RecSlot) change {
	return func(r *impl.Recorder) { r.Lead, r.Trying, r.Yes, r.Best, r.Disk.Slots = true, false, nil, nil, list }
}

// triesNow: it tries under a ballot, and holds what asks these for it.
func triesNow(ballot int, others ...int) change {
	return func(r *impl.Recorder) {
		becomesQuiet(r)
		r.Heard, r.Disk.Promise, r.Ballot, r.Trying = 0, ballot, ballot, true
		for _, to := range others {
			r.Held = append(r.Held, impl.RecMessage{Kind: 1, From: r.Number, To: to, Ballot: ballot})
		}
	}
}

func newOne(number, of int) func() impl.Recorder {
	return func() impl.Recorder { return impl.RecNew(number, of) }
}

func to(numbers ...int) []int {
	return numbers
}

// sending is each message to each of the others.
func sending(from int, others []int, list ...impl.RecMessage) []impl.RecMessage {
	var sent []impl.RecMessage
	for _, m := range list {
		for _, to := range others {
			m.From, m.To = from, to
			sent = append(sent, m)
		}
	}
	return sent
}

func beatOf(ballot, known int) impl.RecMessage {
	return impl.RecMessage{Kind: 5, Ballot: ballot, Known: known}
}

func acceptOf(ballot, index int, text string) impl.RecMessage {
	return impl.RecMessage{Kind: 3, Ballot: ballot, Index: index, Text: text}
}

func TestTickSafeHeldAndWishes(t *testing.T) {
	known := hasDisk(5, 2, slot(3, "a"), slot(5, "b"), slot(5, "c"))
	wishes := func(list ...string) change { return joined(known, hasWishes(list...)) }
	wantRecTickings(t, []recTicking{
		{"ordinary", idle, nil, nil, nil},
		{"new", newOne(1, 3), nil, nil, nil},
		{"the only one, new", newOne(1, 1), nil, nil, nil},
		{"60 slots, all known", idle, hasDisk(1000000, 60, manySlots(60, 7)...), nil, nil},
		{"60 slots, none taken", idle, hasDisk(0, 0, make([]impl.RecSlot, 60)...), nil, nil},
		{"no slots", idle, hasDisk(7, 0), nil, nil},

		{"a wish that is nowhere", idle, wishes("z"), nil, nil},
		{"the first known one", idle, wishes("a"), does(hasWishes()), nil},
		{"the last known one", idle, wishes("b"), does(hasWishes()), nil},
		{"one above Known stays", idle, wishes("c"), nil, nil},
		{"known ones among others", idle, wishes("v", "b", "c", "a", "w"), does(hasWishes("v", "c", "w")), nil},
		{"the known one in front", idle, wishes("a", "w"), does(hasWishes("w")), nil},
		{"the known one behind", idle, wishes("w", "a"), does(hasWishes("w")), nil},
		{"the beginning of a known one", idle, joined(hasDisk(5, 1, slot(1, "ab")), hasWishes("a", "abc")), nil, nil},
		{"nothing known", idle, joined(wishes("a", "b"), hasKnown(0)), nil, nil},
		{"a known slot without text", idle, joined(hasDisk(5, 1, slot(1, "")), hasWishes("a")), nil, nil},
		{"20 wishes, none known", idle, joined(known, hasWishes(manyWishes(20)...)), nil, nil},
		{"the last of 60 known", idle, joined(hasDisk(5, 60, manySlots(60, 4)...), hasWishes("w", "s59", "s0")), does(hasWishes("w")), nil},
		{"the last of 60 not known", idle, joined(hasDisk(5, 59, manySlots(60, 4)...), hasWishes("w", "s59", "s0")), does(hasWishes("w", "s59")), nil},
		{"a text that is known twice", idle, joined(hasDisk(5, 2, slot(1, "a"), slot(1, "a")), hasWishes("a", "w")), does(hasWishes("w")), nil},

		{"Heard 0", idle, hasHeard(0), nil, nil},
		{"a leader's Heard", heading(1), hasHeard(500), does(hasAcks(ack(2, 1), ack(3, 1), ack(5, 1)), hasKnown(3)), nil},
		{"a leader's Heard, one below its limit", heading(1), hasHeard(999999), does(hasAcks(ack(2, 1), ack(3, 1), ack(5, 1)), hasKnown(3)), nil},
		{"a leader's Heard, at its limit", heading(1), hasHeard(1000000), does(hasAcks(ack(2, 1), ack(3, 1), ack(5, 1)), hasKnown(3), hasHeard(1000000)), nil},
	})
}

// asking tries under ballot 5, which is its disk's promise.
func asking(number, of int, yes ...int) func() impl.Recorder {
	return func() impl.Recorder {
		return impl.Recorder{Number: number, Of: of, Up: true, Safe: disk(4, 1, slot(2, "a")), Disk: disk(5, 1, slot(2, "a"), slot(3, "b"), slot(0, ""), slot(4, "d")),
			Trying: true, Ballot: 5, Yes: yes, Best: slots(slot(1, "x"), slot(4, "y"), slot(0, "")), Heard: 2, Held: []impl.RecMessage{message(1, number, of)}}
	}
}

func TestTickOfOneThatTries(t *testing.T) {
	merged := slots(slot(2, "a"), slot(4, "y"), slot(0, ""), slot(4, "d"))
	leads := leadsNow(slot(2, "a"), slot(5, "y"), slot(5, ""), slot(5, "d"))
	told := []impl.RecMessage{beatOf(5, 1), acceptOf(5, 2, "y"), acceptOf(5, 3, ""), acceptOf(5, 4, "d")}
	withW := append(slices.Clone(told), acceptOf(5, 5, "w"))
	own := hasDisk(5, 1, slot(5, "a"), slot(5, "b"), slot(4, "c"))
	wantRecTickings(t, []recTicking{
		{"of 1: it leads", asking(1, 1), nil, does(leads), nil},
		{"of 1, already there", asking(1, 1, 1), nil, does(leads), nil},
		{"of 2, alone", asking(1, 2), nil, does(hasYes([]int{1}, merged...)), nil},
		{"of 2, the second alone", asking(2, 2), nil, does(hasYes([]int{2}, merged...)), nil},
		{"of 2, with the other", asking(1, 2, 2), nil, does(leads), sending(1, to(2), told...)},
		{"of 3, alone", asking(2, 3), nil, does(hasYes([]int{2}, merged...)), nil},
		{"of 3, already there", asking(2, 3, 2), nil, does(hasYes([]int{2}, merged...)), nil},
		{"of 3, with the first", asking(2, 3, 1), nil, does(leads), sending(2, to(1, 3), told...)},
		{"of 3, with the last", asking(2, 3, 3), nil, does(leads), sending(2, to(1, 3), told...)},
		{"of 3, with both", asking(1, 3, 2, 3), nil, does(leads), sending(1, to(2, 3), told...)},
		{"of 3, with both and itself", asking(3, 3, 1, 2, 3), nil, does(leads), sending(3, to(1, 2), told...)},
		{"of 4, half", asking(4, 4, 1), nil, does(hasYes([]int{1, 4}, merged...)), nil},
		{"of 4, half and one", asking(4, 4, 1, 3), nil, does(leads), sending(4, to(1, 2, 3), told...)},
		{"of 5, two", asking(3, 5, 5), nil, does(hasYes([]int{3, 5}, merged...)), nil},
		{"of 5, three", asking(3, 5, 1, 5), nil, does(leads), sending(3, to(1, 2, 4, 5), told...)},
		{"of 5, three already, without itself", asking(3, 5, 1, 4, 5), nil, does(leads), sending(3, to(1, 2, 4, 5), told...)},

		{"the promise is above", asking(1, 1), hasPromise(6), nil, nil},
		{"the promise is above, with the other", asking(1, 2, 2), hasPromise(6), nil, nil},
		{"the promise is far above", asking(1, 3, 2), hasPromise(1000000), nil, nil},
		{"ballot 1", asking(1, 1), func(r *impl.Recorder) { r.Disk, r.Ballot = disk(1, 0, slot(1, "a")), 1 },
			does(leadsNow(slot(1, "x"), slot(1, "y"), slot(1, "")), hasAcks(ack(1, 1)), hasKnown(1)), nil},
		{"ballot at its limit", asking(1, 2, 2), func(r *impl.Recorder) { r.Disk, r.Ballot, r.Best = disk(1000000, 0), 1000000, nil },
			does(leadsNow()), sending(1, to(2), beatOf(1000000, 0))},

		{"nothing on its disk", asking(1, 2), hasDisk(5, 0), does(hasYes([]int{1}, slot(1, "x"), slot(4, "y"), slot(0, ""))), nil},
		{"no Best", asking(1, 2), func(r *impl.Recorder) { r.Best = nil }, does(hasYes([]int{1}, slot(2, "a"), slot(3, "b"), slot(0, ""), slot(4, "d"))), nil},
		{"equal ballots: Best's", asking(1, 2), joined(hasDisk(5, 0, slot(1, "z")), hasYes(nil, slot(1, "x"))), does(hasYes([]int{1}, slot(1, "x"))), nil},
		{"60 of Best", asking(1, 2, 2), hasYes([]int{2}, manySlots(60, 3)...),
			does(leadsNow(append(slots(slot(2, "a"), slot(5, "s1"), slot(5, "s2"), slot(5, "d")), manyUnder5(4, 60)...)...)),
			sending(1, to(2), slices.Concat([]impl.RecMessage{beatOf(5, 1), acceptOf(5, 2, "s1"), acceptOf(5, 3, "s2"), acceptOf(5, 4, "d")}, manyAccepts(4, 60))...)},

		{"a wish is brought in by the same tick", asking(2, 3, 1), hasWishes("w"), does(leads, func(r *impl.Recorder) { r.Disk.Slots = append(r.Disk.Slots, slot(5, "w")) }), sending(2, to(1, 3), withW...)},
		{"a wish that Best has", asking(2, 3, 1), hasWishes("y"), does(leads), sending(2, to(1, 3), told...)},
		{"a wish that Best had for a known place", asking(2, 3, 1), hasWishes("x"), does(leads, func(r *impl.Recorder) { r.Disk.Slots = append(r.Disk.Slots, slot(5, "x")) }),
			sending(2, to(1, 3), append(slices.Clone(told), acceptOf(5, 5, "x"))...)},
		{"a wish that the disk had, and Best has not", asking(2, 3, 1), hasWishes("b"), does(leads, func(r *impl.Recorder) { r.Disk.Slots = append(r.Disk.Slots, slot(5, "b")) }),
			sending(2, to(1, 3), append(slices.Clone(told), acceptOf(5, 5, "b"))...)},
		{"a wish of one that does not lead yet", asking(2, 3), hasWishes("w"), does(hasYes([]int{2}, merged...)), nil},

		{"slots of its own ballot are taken by the same tick", asking(2, 3, 1), joined(own, hasYes([]int{1})), does(leadsNow(slot(5, "a"), slot(5, "b"), slot(5, "c")), hasAcks(ack(1, 2), ack(2, 2))),
			sending(2, to(1, 3), beatOf(5, 1), acceptOf(5, 2, "b"), acceptOf(5, 3, "c"))},
		{"and known, of 1", asking(1, 1), joined(own, hasYes(nil)), does(leadsNow(slot(5, "a"), slot(5, "b"), slot(5, "c")), hasAcks(ack(1, 1), ack(2, 1)), hasKnown(2)), nil},

		{"leads, though it heard nothing for long", asking(2, 3, 1), hasHeard(10), does(leads), sending(2, to(1, 3), told...)},
		{"leads, Heard at its limit", asking(2, 3, 1), hasHeard(1000000), does(leads, hasHeard(1000000)), sending(2, to(1, 3), told...)},
		{"does not lead, and heard nothing for long", asking(2, 3), hasHeard(10), does(triesNow(8, 1, 3)), nil},
		{"does not lead, and waits once more", asking(2, 3), hasHeard(9), does(hasYes([]int{2}, merged...)), nil},
		{"the promise is above, and it heard nothing for long", asking(2, 3, 1), joined(hasPromise(6), hasHeard(10)), does(triesNow(8, 1, 3)), nil},
	})
}

// manyUnder5 are the slots of manySlots from one place on, under ballot 5, and manyAccepts what a leader tells of them.
func manyUnder5(from, end int) []impl.RecSlot {
	return manySlots(end, 5)[from:]
}

func manyAccepts(from, end int) []impl.RecMessage {
	var list []impl.RecMessage
	for i := from; i < end; i++ {
		list = append(list, acceptOf(5, i+1, fmt.Sprint("s", i)))
	}
	return list
}

func TestTickOfALeaderTaking(t *testing.T) {
	rest := []impl.RecMessage{acceptOf(5, 4, "d"), acceptOf(5, 5, "e")}
	told := func(known int) []impl.RecMessage {
		list := []impl.RecMessage{beatOf(5, known)}
		if known < 2 {
			list = append(list, acceptOf(5, 2, "b"))
		}
		if known < 3 {
			list = append(list, acceptOf(5, 3, "c"))
		}
		return append(list, rest...)
	}
	early := hasDisk(6, 3, slot(5, "a"), slot(5, "b"), slot(2, "c"), slot(6, "d"), slot(5, "e"))
	wantRecTickings(t, []recTicking{
		{"of 3, alone", heading(3), nil, does(hasAcks(ack(2, 1), ack(3, 1), ack(5, 1))), sending(1, to(2, 3), told(1)...)},
		{"taken already", heading(3, ack(2, 1), ack(3, 1), ack(5, 1)), nil, nil, sending(1, to(2, 3), told(1)...)},
		{"the next with another one", heading(3, ack(2, 3)), nil, does(hasAcks(ack(2, 1, 3), ack(3, 1), ack(5, 1)), hasKnown(2)), sending(1, to(2, 3), told(2)...)},
		{"the one behind it with another one", heading(3, ack(3, 3)), nil, does(hasAcks(ack(2, 1), ack(3, 1, 3), ack(5, 1))), sending(1, to(2, 3), told(1)...)},
		{"two with others", heading(3, ack(2, 3), ack(3, 2)), nil, does(hasAcks(ack(2, 1, 3), ack(3, 1, 2), ack(5, 1)), hasKnown(3)), sending(1, to(2, 3), told(3)...)},
		{"the second by most already", heading(3, ack(2, 3), ack(3, 2, 3)), nil, does(hasAcks(ack(2, 1, 3), ack(3, 1, 2, 3), ack(5, 1)), hasKnown(3)), sending(1, to(2, 3), told(3)...)},
		{"the next by the others already", heading(3, ack(2, 2, 3)), nil, does(hasAcks(ack(2, 1, 2, 3), ack(3, 1), ack(5, 1)), hasKnown(2)), sending(1, to(2, 3), told(2)...)},
		{"all, but one has another ballot", heading(3, ack(2, 3), ack(3, 2), ack(4, 2, 3), ack(5, 2)), nil, does(hasAcks(ack(2, 1, 3), ack(3, 1, 2), ack(4, 2, 3), ack(5, 1, 2)), hasKnown(3)), sending(1, to(2, 3), told(3)...)},
		{"of 1", heading(1), nil, does(hasAcks(ack(2, 1), ack(3, 1), ack(5, 1)), hasKnown(3)), nil},
		{"of 2, alone", heading(2), nil, does(hasAcks(ack(2, 1), ack(3, 1), ack(5, 1))), sending(1, to(2), told(1)...)},
		{"of 2, with the other", heading(2, ack(2, 2)), nil, does(hasAcks(ack(2, 1, 2), ack(3, 1), ack(5, 1)), hasKnown(2)), sending(1, to(2), told(2)...)},
		{"of 4, half", heading(4, ack(2, 4)), nil, does(hasAcks(ack(2, 1, 4), ack(3, 1), ack(5, 1))), sending(1, to(2, 3, 4), told(1)...)},
		{"of 4, half and one", heading(4, ack(2, 3, 4)), nil, does(hasAcks(ack(2, 1, 3, 4), ack(3, 1), ack(5, 1)), hasKnown(2)), sending(1, to(2, 3, 4), told(2)...)},
		{"of 5, two", heading(5, ack(2, 4)), nil, does(hasAcks(ack(2, 1, 4), ack(3, 1), ack(5, 1))), sending(1, to(2, 3, 4, 5), told(1)...)},
		{"of 5, three", heading(5, ack(2, 2, 4)), nil, does(hasAcks(ack(2, 1, 2, 4), ack(3, 1), ack(5, 1)), hasKnown(2)), sending(1, to(2, 3, 4, 5), told(2)...)},
		{"acks where nothing is", heading(3, ack(9, 2), ack(60, 2, 3)), nil, does(hasAcks(ack(2, 1), ack(3, 1), ack(5, 1), ack(9, 2), ack(60, 2, 3))), sending(1, to(2, 3), told(1)...)},

		{"known places too", heading(3), early, does(hasAcks(ack(1, 1), ack(2, 1), ack(5, 1))), sending(1, to(2, 3), told(3)...)},
		{"known places of which others told", heading(3, ack(1, 3), ack(3, 2), ack(4, 2, 3)), early, does(hasAcks(ack(1, 1, 3), ack(2, 1), ack(3, 2), ack(4, 2, 3), ack(5, 1))), sending(1, to(2, 3), told(3)...)},
		{"none of its ballot", heading(3), hasDisk(6, 1, slot(4, "a"), slot(6, "b"), slot(0, "")), nil, sending(1, to(2, 3), beatOf(5, 1), acceptOf(5, 2, "b"), acceptOf(5, 3, ""))},
		{"no slots", heading(3), hasDisk(6, 0), nil, sending(1, to(2, 3), beatOf(5, 0))},
		{"a slot of its ballot without text", heading(3, ack(1, 2)), hasDisk(6, 0, slot(5, "")), does(hasAcks(ack(1, 1, 2)), hasKnown(1)), sending(1, to(2, 3), beatOf(5, 1))},
		{"the first of all", heading(3, ack(1, 2)), hasDisk(6, 0, slot(5, "a"), slot(5, "b")), does(hasAcks(ack(1, 1, 2), ack(2, 1)), hasKnown(1)), sending(1, to(2, 3), beatOf(5, 1), acceptOf(5, 2, "b"))},
		{"the 60th", heading(3, ack(60, 2)), hasDisk(6, 59, append(manySlots(59, 4), slot(5, "s59"))...), does(hasAcks(ack(60, 1, 2)), hasKnown(60)), sending(1, to(2, 3), beatOf(5, 60))},
		{"60, of 1", heading(1), hasDisk(6, 0, manySlots(60, 5)...), does(everyAck(1), hasKnown(60)), nil},
		{"60, of 3", heading(3), hasDisk(6, 0, manySlots(60, 5)...), does(everyAck(1)), sending(1, to(2, 3), append([]impl.RecMessage{beatOf(5, 0)}, manyAccepts(0, 60)...)...)},
		{"the greatest ballot", heading(2, ack(1, 2)), func(r *impl.Recorder) { r.Disk, r.Ballot = disk(1000000, 0, slot(1000000, "a"), slot(5, "b")), 1000000 },
			does(hasAcks(ack(1, 1, 2)), hasKnown(1)), sending(1, to(2), beatOf(1000000, 1), acceptOf(1000000, 2, "b"))},
	})
}

// everyAck: one number took all 60 places.
func everyAck(number int) change {
	return func(r *impl.Recorder) {
		r.Acks = nil
		for i := 1; i <= 60; i++ {
			r.Acks = append(r.Acks, ack(i, number))
		}
	}
}

func TestTickOfALeaderBringingIn(t *testing.T) {
	put := func(texts ...string) change {
		return func(r *impl.Recorder) {
			for _, text := range texts {
				r.Disk.Slots = append(slices.Clone(r.Disk.Slots), slot(5, text))
			}
		}
	}
	// Of other ballots, so that it takes none of them, and all known, so that the accepts are those of wishes.
	full := func(n int) change { return hasDisk(6, n, manySlots(n, 4)...) }
	wishes := func(n int, list ...string) change { return joined(full(n), hasWishes(list...)) }
	accepts := func(known int, texts ...string) []impl.RecMessage {
		list := []impl.RecMessage{beatOf(5, known)}
		for i, text := range texts {
			list = append(list, acceptOf(5, known+i+1, text))
		}
		return sending(1, to(2, 3), list...)
	}
	some := hasDisk(6, 1, slot(4, "a"), slot(2, "b"), slot(5, "c"), slot(0, ""))
	someTold := func(texts ...string) []impl.RecMessage {
		list := []impl.RecMessage{beatOf(5, 1), acceptOf(5, 2, "b"), acceptOf(5, 3, "c"), acceptOf(5, 4, "")}
		for i, text := range texts {
			list = append(list, acceptOf(5, 5+i, text))
		}
		return sending(1, to(2, 3), list...)
	}
	took := hasAcks(ack(3, 1))
	wantRecTickings(t, []recTicking{
		{"none", heading(3), wishes(2), nil, accepts(2)},
		{"one", heading(3), wishes(2, "w"), does(put("w")), accepts(2, "w")},
		{"two, in order", heading(3), wishes(2, "w", "v"), does(put("w", "v")), accepts(2, "w", "v")},
		{"the first slot of all", heading(3), wishes(0, "w"), does(put("w")), accepts(0, "w")},
		{"20", heading(3), wishes(2, manyWishes(20)...), does(put(manyWishes(20)...)), accepts(2, manyWishes(20)...)},
		{"100 bytes", heading(3), wishes(2, long(100)), does(put(long(100))), accepts(2, long(100))},
		{"58 slots, one wish", heading(3), wishes(58, "w"), does(put("w")), accepts(58, "w")},
		{"58 slots, two wishes", heading(3), wishes(58, "w", "v"), does(put("w", "v")), accepts(58, "w", "v")},
		{"58 slots, three wishes", heading(3), wishes(58, "w", "v", "u"), does(put("w", "v")), accepts(58, "w", "v")},
		{"59 slots, one wish", heading(3), wishes(59, "w"), does(put("w")), accepts(59, "w")},
		{"59 slots, two wishes", heading(3), wishes(59, "w", "v"), does(put("w")), accepts(59, "w")},
		{"59 slots, 20 wishes", heading(3), wishes(59, manyWishes(20)...), does(put("w0")), accepts(59, "w0")},
		{"60 slots, one wish", heading(3), wishes(60, "w"), nil, accepts(60)},
		{"40 slots, 20 wishes", heading(3), wishes(40, manyWishes(20)...), does(put(manyWishes(20)...)), accepts(40, manyWishes(20)...)},
		{"41 slots, 20 wishes", heading(3), wishes(41, manyWishes(20)...), does(put(manyWishes(19)...)), accepts(41, manyWishes(19)...)},
		{"a known one makes room for none", heading(3), wishes(59, "s3", "w"), does(hasWishes("w"), put("w")), accepts(59, "w")},

		{"known already", heading(3), joined(some, hasWishes("a", "w")), does(took, hasWishes("w"), put("w")), someTold("w")},
		{"in a slot above Known, of another ballot", heading(3), joined(some, hasWishes("b", "w")), does(took, put("w")), someTold("w")},
		{"in a slot above Known, of its ballot", heading(3), joined(some, hasWishes("c", "w")), does(took, put("w")), someTold("w")},
		{"all in slots above Known", heading(3), joined(some, hasWishes("c", "b")), does(took), someTold()},
		{"the last slot of all is empty, and there is no room", heading(3), joined(hasDisk(6, 1, append(manySlots(1, 4), make([]impl.RecSlot, 59)...)...), hasWishes("w")), nil,
			sending(1, to(2, 3), append([]impl.RecMessage{beatOf(5, 1)}, emptyAccepts(2, 60)...)...)},
		{"it comes to be known by this tick, and stays", heading(3, ack(2, 2)), joined(hasDisk(6, 1, slot(4, "a"), slot(5, "w")), hasWishes("w")), does(hasAcks(ack(2, 1, 2)), hasKnown(2)), accepts(2)},
		{"of 1", heading(1), joined(some, hasWishes("b", "w")), does(took, put("w")), nil},
		{"by one that is not first", leading, nil, does(hasAcks(ack(2, 2), ack(3, 1, 2), ack(4), ack(9, 3)), put("w", "v")),
			sending(2, to(1, 3), beatOf(5, 2), acceptOf(5, 3, ""), acceptOf(5, 4, ""), acceptOf(5, 5, "w"), acceptOf(5, 6, "v"))},
		{"the third of 5", leading, joined(func(r *impl.Recorder) { r.Number, r.Of, r.Held = 3, 5, nil }, full(2)), does(put("w", "v")),
			sending(3, to(1, 2, 4, 5), beatOf(5, 2), acceptOf(5, 3, "w"), acceptOf(5, 4, "v"))},
		{"the last of 5", leading, joined(func(r *impl.Recorder) { r.Number, r.Of, r.Held = 5, 5, nil }, full(2)), does(put("w", "v")),
			sending(5, to(1, 2, 3, 4), beatOf(5, 2), acceptOf(5, 3, "w"), acceptOf(5, 4, "v"))},
	})
}

func emptyAccepts(from, last int) []impl.RecMessage {
	var list []impl.RecMessage
	for index := from; index <= last; index++ {
		list = append(list, acceptOf(5, index, ""))
	}
	return list
}

// othersOf are the numbers of all others, in order.
func othersOf(number, of int) []int {
	return slices.DeleteFunc([]int{1, 2, 3, 4, 5}[:of], func(n int) bool { return n == number })
}

func TestTicksUntilItTries(t *testing.T) {
	patience := []int{0, 7, 10, 13, 16, 19}
	for of := 1; of <= 5; of++ {
		for number := 1; number <= of; number++ {
			for _, heard := range []int{0, 1, patience[number] - 2, patience[number] - 1, patience[number], patience[number] + 1, 999999, 1000000} {
				what := fmt.Sprintf("number %d of %d, which heard nothing for %d", number, of, heard)
				quiet := recTicking{what, newOne(number, of), hasHeard(heard), nil, nil}
				tries := recTicking{what + " and tries", newOne(number, of), joined(hasHeard(heard), func(r *impl.Recorder) {
					r.Disk.Promise, r.Ballot, r.Trying, r.Yes = 7, 3, true, []int{number}
				}), nil, nil}
				if heard+1 > patience[number] {
					others := othersOf(number, of)
					quiet.then = does(triesNow(number, others...))
					tries.then = does(triesNow(plainNextBallot(7, number, of), others...))
				}
				wantRecTickings(t, []recTicking{quiet, tries})
			}
		}
	}
}

func TestTickThatTries(t *testing.T) {
	late := func(first ...change) change { return joined(append(first, hasHeard(10))...) }
	over := does(becomesQuiet, hasHeard(0))
	wantRecTickings(t, []recTicking{
		{"quiet", idle, late(), does(triesNow(8, 1, 3)), nil},
		{"trying, not promised by most", trying, late(hasYes(nil)), does(triesNow(8, 1, 3)), nil},
		{"nothing promised", idle, late(hasDisk(0, 0)), does(triesNow(2, 1, 3)), nil},
		{"one below its ballot", idle, late(hasDisk(1, 0)), does(triesNow(2, 1, 3)), nil},
		{"at its ballot", idle, late(hasDisk(2, 0)), does(triesNow(5, 1, 3)), nil},
		{"one above its ballot", idle, late(hasDisk(3, 0)), does(triesNow(5, 1, 3)), nil},
		{"the last ballot of its own", idle, late(hasPromise(999997)), does(triesNow(999998, 1, 3)), nil},
		{"no ballot any more", idle, late(hasPromise(999998)), over, nil},
		{"no ballot any more, one below the limit", idle, late(hasPromise(999999)), over, nil},
		{"no ballot any more, at the limit", idle, late(hasPromise(1000000)), over, nil},
		{"no ballot any more, while it tries", trying, late(hasPromise(1000000)), over, nil},
		{"the greatest ballot", newOne(1, 3), joined(hasPromise(999999), hasHeard(7)), does(triesNow(1000000, 2, 3)), nil},
		{"the greatest ballot is promised", newOne(1, 3), joined(hasPromise(1000000), hasHeard(7)), over, nil},
		{"the greatest ballot, of 1", newOne(1, 1), joined(hasPromise(999999), hasHeard(7)), does(triesNow(1000000)), nil},
		{"the greatest ballot, the last of 5", newOne(5, 5), joined(hasPromise(999995), hasHeard(19)), does(triesNow(1000000, 1, 2, 3, 4)), nil},
		{"wishes stay", idle, late(hasWishes("a", "w", "z")), does(hasWishes("w", "z"), triesNow(8, 1, 3)), nil},
		{"a leader never tries", leading, joined(hasHeard(1000000), hasWishes()), does(hasHeard(1000000), hasAcks(ack(2, 2), ack(3, 1, 2), ack(4), ack(9, 3))),
			sending(2, to(1, 3), beatOf(5, 2), acceptOf(5, 3, ""), acceptOf(5, 4, ""))},
	})
}

func TestTickOfOneThatIsNotUp(t *testing.T) {
	for what, r := range map[string]impl.Recorder{
		"fallen": fallen(), "nothing on its disks": {Number: 1, Of: 1},
		"full disks": {Number: 5, Of: 5, Safe: disk(1000000, 60, manySlots(60, 9)...), Disk: disk(9, 0, manySlots(60, 8)...)},
	} {
		wantRecTick(t, what, r, r, nil)
	}
}

// What asks for a ballot is sent by the tick behind the one that wrote it, its own promise with it; a fall in between leaves nothing of it.
func TestToldWhenItIsSafe(t *testing.T) {
	r := impl.RecNew(1, 3)
	r.Heard = 7
	first := tickOf(r)
	if len(first.Sent) != 0 || len(first.R.Held) != 2 || first.R.Safe.Promise != 0 || first.R.Disk.Promise != 1 || len(first.R.Yes) != 0 {
		t.Fatalf("the first tick: %+v", first)
	}
	second := tickOf(first.R)
	if !same(second.Sent, first.R.Held) || len(second.R.Held) != 0 || second.R.Safe.Promise != 1 || !same(second.R.Yes, []int{1}) {
		t.Errorf("the second tick: %+v", second)
	}
	if third := tickOf(second.R); len(third.Sent) != 0 {
		t.Errorf("the third tick: %+v", third)
	}
	risen := impl.RecRise(impl.RecFall(first.R))
	if after := tickOf(risen); len(after.Sent) != 0 || after.R.Disk.Promise != 0 || after.R.Trying {
		t.Errorf("behind a fall: %+v", after)
	}
}

// What was promised and taken is told by the tick that makes it safe, and not at all if it falls ahead of it.
func TestAnswersWhenTheyAreSafe(t *testing.T) {
	r := impl.RecNew(2, 3)
	r = impl.RecTake(r, impl.RecMessage{Kind: impl.RecPrepare, From: 1, To: 2, Ballot: 4})
	r = impl.RecTake(r, impl.RecMessage{Kind: impl.RecAccept, From: 1, To: 2, Ballot: 4, Index: 2, Text: "t"})
	want := []impl.RecMessage{{Kind: 2, From: 2, To: 1, Ballot: 4}, {Kind: 4, From: 2, To: 1, Ballot: 4, Index: 2}}
	told := tickOf(r)
	if !same(told.Sent, want) || !same(told.R.Safe, disk(4, 0, slot(0, ""), slot(4, "t"))) {
		t.Errorf("%+v", told)
	}
	if again := tickOf(told.R); len(again.Sent) != 0 {
		t.Errorf("told twice: %+v", again.Sent)
	}
	if kept := impl.RecFall(told.R); !same(kept.Disk, told.R.Safe) {
		t.Errorf("told, and forgotten: %+v", kept)
	}
	if lost := tickOf(impl.RecRise(impl.RecFall(r))); len(lost.Sent) != 0 || !same(lost.R.Disk, disk(0, 0)) {
		t.Errorf("not safe, and told: %+v", lost)
	}
}

// A leader's own slot counts from the tick on that makes it safe; its wish is gone by the tick behind the one that knows it.
func TestALeadersOwnSlot(t *testing.T) {
	r := impl.RecNew(1, 1)
	r.Heard = 7
	r = impl.RecWish(r, "w")
	for i, want := range []struct {
		slots, known, wishes int
		trying, leads        bool
	}{
		{0, 0, 1, true, false},
		{1, 0, 1, false, true},
		{1, 1, 1, false, true},
		{1, 1, 0, false, true},
	} {
		told := tickOf(r)
		r = told.R
		if len(r.Disk.Slots) != want.slots || r.Disk.Known != want.known || len(r.Wishes) != want.wishes || r.Trying != want.trying || r.Lead != want.leads || len(told.Sent) != 0 {
			t.Errorf("tick %d: %+v", i, told)
		}
	}
	if got := impl.RecBook(r); !same(got, []string{"w"}) {
		t.Errorf("the book is %q", got)
	}
}

// Promise 14, for every ballot that may be asked for.
func TestPromise14NextBallot(t *testing.T) {
	for of := 1; of <= 5; of++ {
		owner := make([]int, 1000001)
		for number := 1; number <= of; number++ {
			want := 0
			for above := 1000000; above >= 0; above-- {
				got := impl.RecNextBallot(above, number, of)
				if got != want {
					t.Fatalf("number %d of %d, above %d: %d and not %d", number, of, above, got, want)
				}
				if got != 0 && (got <= above || owner[got] != 0 && owner[got] != number) {
					t.Fatalf("number %d of %d, above %d: %d, which is %d's", number, of, above, got, owner[got])
				}
				owner[got] = number
				owner[0] = 0
				if above%of == number%of {
					want = above
				}
			}
		}
		for ballot := 1; ballot <= 1000000; ballot++ {
			if owner[ballot] == 0 {
				t.Fatalf("of %d: %d is nobody's", of, ballot)
			}
		}
	}
}

func TestNextBallots(t *testing.T) {
	for _, c := range []struct{ above, number, of, want int }{
		{0, 1, 1, 1}, {1, 1, 1, 2}, {999999, 1, 1, 1000000}, {1000000, 1, 1, 0},
		{0, 1, 2, 1}, {0, 2, 2, 2}, {1, 1, 2, 3}, {1, 2, 2, 2}, {2, 2, 2, 4}, {999999, 1, 2, 0}, {999999, 2, 2, 1000000}, {999998, 1, 2, 999999},
		{0, 1, 3, 1}, {0, 2, 3, 2}, {0, 3, 3, 3}, {3, 3, 3, 6}, {2, 3, 3, 3}, {4, 3, 3, 6}, {1, 1, 3, 4}, {3, 1, 3, 4}, {4, 1, 3, 7}, {5, 1, 3, 7},
		{999997, 2, 3, 999998}, {999998, 2, 3, 0}, {999998, 3, 3, 999999}, {999999, 3, 3, 0}, {999999, 1, 3, 1000000}, {999999, 2, 3, 0}, {1000000, 1, 3, 0},
		{0, 4, 4, 4}, {4, 4, 4, 8}, {999999, 4, 4, 1000000}, {999996, 4, 4, 1000000}, {999995, 4, 4, 999996}, {999996, 1, 4, 999997}, {999997, 1, 4, 0},
		{0, 5, 5, 5}, {4, 5, 5, 5}, {5, 5, 5, 10}, {6, 5, 5, 10}, {999999, 5, 5, 1000000}, {1000000, 5, 5, 0}, {999995, 4, 5, 999999}, {999999, 4, 5, 0},
		{-1, 1, 3, 0}, {1000001, 1, 3, 0}, {math.MinInt, 1, 3, 0}, {math.MaxInt, 1, 3, 0}, {-3, 3, 3, 0},
		{0, 0, 3, 0}, {0, 4, 3, 0}, {0, -1, 3, 0}, {0, 6, 5, 0}, {0, 2, 1, 0}, {0, math.MaxInt, 3, 0}, {0, math.MinInt, 3, 0},
		{0, 1, 0, 0}, {0, 0, 0, 0}, {0, 1, 6, 0}, {0, 6, 6, 0}, {0, 1, -1, 0}, {0, -1, -1, 0}, {0, 1, math.MaxInt, 0}, {0, 1, math.MinInt, 0},
	} {
		if got := impl.RecNextBallot(c.above, c.number, c.of); got != c.want {
			t.Errorf("above %d, number %d of %d: %d and not %d", c.above, c.number, c.of, got, c.want)
		}
		if got := plainNextBallot(c.above, c.number, c.of); got != c.want {
			t.Errorf("above %d, number %d of %d: the plain one tells %d and not %d", c.above, c.number, c.of, got, c.want)
		}
	}
	for _, above := range []int{-1, 0, 5, 1000000, 1000001} {
		for of := -1; of <= 7; of++ {
			for number := -1; number <= of+1; number++ {
				if got, want := impl.RecNextBallot(above, number, of), plainNextBallot(above, number, of); got != want {
					t.Errorf("above %d, number %d of %d: %d and not %d", above, number, of, got, want)
				}
			}
		}
	}
}
