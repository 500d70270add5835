package tests

import (
	"fmt"
	"math/rand"
	"testing"

	"loop.example/wharflog/impl"
)

// oneOf draws from a list.
func oneOf[T any](dice *rand.Rand, list ...T) T {
	return list[dice.Intn(len(list))]
}

// drawDisk is a disk that is ok, of few texts and ballots, so that they meet.
func drawDisk(dice *rand.Rand) impl.RecDisk {
	d := disk(oneOf(dice, 0, 1, 3, 4, 5, 5, 6, 6, 999999, 1000000), 0)
	n := oneOf(dice, 0, 0, 1, 2, 3, 4, 6, 8, 58, 59, 60, 60)
	known := n * dice.Intn(5) / 4
	even := dice.Intn(2) == 0
	for i := range n {
		ballot := min(oneOf(dice, 0, 1, 2, 4, 5, 5, 5, 6, d.Promise), d.Promise)
		if even && i >= known {
			ballot = d.Promise
		}
		if i < known {
			ballot = max(ballot, min(1, d.Promise))
		}
		if i == d.Known && i < known && ballot > 0 {
			d.Known++
		}
		d.Slots = append(d.Slots, slot(ballot, ""))
		if ballot > 0 {
			d.Slots[i].Text = drawText(dice)
		}
	}
	return d
}

func drawText(dice *rand.Rand) string {
	return oneOf(dice, "", "a", "b", "c", "d", "w1", "w7", long(100))
}

// drawRecorder is a valid recorder.
func drawRecorder(dice *rand.Rand) impl.Recorder {
	of := 1 + dice.Intn(5)
	return drawNumbered(dice, 1+dice.Intn(of), of)
}

func drawNumbered(dice *rand.Rand, number, of int) impl.Recorder {
	r := impl.RecNew(number, of)
	r.Safe, r.Disk = drawDisk(dice), drawDisk(dice)
	if r.Up = dice.Intn(12) > 0; !r.Up {
		return r
	}
	for range oneOf(dice, 0, 0, 0, 1, 3, 398, 399, 400) {
		r.Held = append(r.Held, impl.RecMessage{Kind: 1 + dice.Intn(9), From: r.Number, To: 1 + dice.Intn(of), Ballot: dice.Intn(9), Text: drawText(dice)})
	}
	if len(r.Held) > 0 {
		r.Held[dice.Intn(len(r.Held))].Slots = drawDisk(dice).Slots
	}
	r.Wishes = manyWishes(oneOf(dice, 0, 0, 1, 2, 5, 19, 20))
	r.Heard = oneOf(dice, 0, 1, 7, 1000000)
	if role := dice.Intn(5); role > 0 && r.Disk.Promise > 0 {
		drawRole(dice, &r, role < 3)
	}
	return r
}

func drawRole(dice *rand.Rand, r *impl.Recorder, leads bool) {
	r.Ballot = max(1, min(oneOf(dice, 1, 4, 5, r.Disk.Promise, r.Disk.Promise, r.Disk.Promise), r.Disk.Promise))
	if r.Lead, r.Trying = leads, !leads; r.Trying {
		r.Yes, r.Best = drawNumbers(dice, r.Of), drawDisk(dice).Slots
		return
	}
	for index := 1; index <= 60; index++ {
		if dice.Intn(4) == 0 || index == r.Disk.Known+1 || dice.Intn(3) == 0 && index <= len(r.Disk.Slots) {
			r.Acks = append(r.Acks, impl.RecAck{Index: index, From: drawNumbers(dice, r.Of)})
		}
	}
}

func drawNumbers(dice *rand.Rand, of int) (list []int) {
	for n := 1; n <= of; n++ {
		if dice.Intn(2) == 0 {
			list = append(list, n)
		}
	}
	return list
}

// drawMessage is mostly to this recorder, and mostly about what stands at its edges.
func drawMessage(dice *rand.Rand, r impl.Recorder) impl.RecMessage {
	m := impl.RecMessage{Kind: 1 + dice.Intn(9), From: 1 + dice.Intn(max(1, r.Of)), To: r.Number}
	p, k := r.Disk.Promise, r.Disk.Known
	m.Ballot = oneOf(dice, 0, p-1, p, p, p+1, r.Ballot, r.Ballot, r.Ballot, r.Ballot+1)
	m.Index = oneOf(dice, 0, 1, k-3, k, k+1, k+1, k+1, k+2, len(r.Disk.Slots), len(r.Disk.Slots)+1, len(r.Disk.Slots)+3, 60, dice.Intn(61))
	m.Known = oneOf(dice, 0, k, k+1, k+2, len(r.Disk.Slots), len(r.Disk.Slots)+1, 60)
	m.Text, m.Slots = drawText(dice), drawDisk(dice).Slots
	if dice.Intn(10) > 0 {
		m.Ballot, m.Index, m.Known = min(max(m.Ballot, 0), 1000000), min(max(m.Index, 0), 60), min(m.Known, 60)
	}
	switch dice.Intn(40) {
	case 0:
		m.Kind = oneOf(dice, -1, 0, 10)
	case 1:
		m.From = oneOf(dice, -1, 0, r.Of+1)
	case 2:
		m.To = oneOf(dice, -1, 0, 1, r.Number+1, r.Of+1)
	case 3:
		m.Text = long(101)
	case 4:
		m.Slots = drawSlots(dice)
	}
	return m
}

// Promise 15 of RecTake and RecWish: a recorder takes one thing after the other.
func TestPromise15TakeAndWish(t *testing.T) {
	dice := rand.New(rand.NewSource(15))
	seen := map[string]int{}
	for run := range 4000 {
		r := drawRecorder(dice)
		if broken := brokenSentences(r); len(broken) > 0 {
			t.Fatalf("drawn, and it breaks %q: %+v", broken, r)
		}
		for step := range 5 {
			what := fmt.Sprintf("run %d, step %d", run, step)
			var want, got impl.Recorder
			if dice.Intn(8) == 0 {
				text := oneOf(dice, drawText(dice), "w19", "w20", long(101))
				want, got = plainRecWish(r, text), impl.RecWish(r, text)
				seen["a wish"] += boolInt(len(got.Wishes) > len(r.Wishes))
			} else {
				m := drawMessage(dice, r)
				want, got = plainRecTake(r, m), impl.RecTake(r, m)
				countTaken(seen, r, m, got)
				if step == 0 {
					listsKept(t, what, takeGiven{r, m}, takeOf)
				}
			}
			if !same(got, want) {
				t.Fatalf("%s:\n%+v and not\n%+v, of\n%+v", what, got, want, r)
			}
			wantHeldAnew(t, what, r, got)
			wantNothingBack(t, what, r, got)
			r = got
		}
	}
	wantSeen(t, seen, 40, "a wish", "not ok", "not up", "to another", "taken, and full", "leads now", "leads no more", "tries no more", "known goes on", "known by a beat",
		"kind 1 changes", "kind 2 changes", "kind 3 changes", "kind 4 changes", "kind 5 changes", "kind 6 changes", "kind 7 changes", "kind 8 changes", "kind 9 changes")
}

func wantSeen(t *testing.T, seen map[string]int, least int, things ...string) {
	t.Helper()
	for _, what := range things {
		if seen[what] < least {
			t.Errorf("%s: seen %d times", what, seen[what])
		}
	}
}

func countTaken(seen map[string]int, r impl.Recorder, m impl.RecMessage, got impl.Recorder) {
	seen["not ok"] += boolInt(!soundMessage(m, r.Of))
	seen["not up"] += boolInt(!r.Up)
	seen["to another"] += boolInt(m.To != r.Number)
	if !same(got, r) {
		seen[fmt.Sprintf("kind %d changes", m.Kind)]++
		seen["taken, and full"] += boolInt(len(r.Held) == 400)
		seen["leads now"] += boolInt(got.Lead && !r.Lead)
		seen["leads no more"] += boolInt(r.Lead && !got.Lead)
		seen["tries no more"] += boolInt(r.Trying && !got.Trying && !got.Lead)
		seen["known goes on"] += boolInt(got.Disk.Known > r.Disk.Known)
		seen["known by a beat"] += boolInt(m.Kind == 5 && got.Disk.Known > r.Disk.Known)
	}
}

// wantNothingBack: neither Promise nor Known goes back, what is known stays what it is, and Safe is not written.
func wantNothingBack(t *testing.T, what string, r, got impl.Recorder) {
	t.Helper()
	if got.Disk.Promise < r.Disk.Promise || got.Disk.Known < r.Disk.Known {
		t.Errorf("%s: the Disk goes back from %+v to %+v", what, r.Disk, got.Disk)
	}
	if !same(got.Disk.Slots[:r.Disk.Known], r.Disk.Slots[:r.Disk.Known]) || !same(got.Safe, r.Safe) {
		t.Errorf("%s: what was known, or safe, is another thing now", what)
	}
}

// Recorders and messages that may be anything: nothing of those that are not valid.
func TestTakeOfAnyRecorder(t *testing.T) {
	dice := rand.New(rand.NewSource(16))
	valid := 0
	roles := []func() impl.Recorder{idle, leading, trying, fallen}
	for range 12000 {
		r := oneOf(dice, roles...)()
		for range dice.Intn(3) {
			drawPart(dice, &r)
		}
		m, text := drawMessage(dice, r), drawText(dice)
		if got, want := impl.RecTake(r, m), plainRecTake(r, m); !same(got, want) {
			t.Fatalf("%+v of %+v:\n%+v and not\n%+v", m, r, got, want)
		}
		if got, want := impl.RecWish(r, text), plainRecWish(r, text); !same(got, want) {
			t.Fatalf("%q of %+v:\n%+v and not\n%+v", text, r, got, want)
		}
		if got, want := impl.RecBook(r), plainRecBook(r); !same(got, want) {
			t.Fatalf("the book of %+v: %q and not %q", r, got, want)
		}
		valid += boolInt(len(brokenSentences(r)) == 0)
	}
	if valid < 3000 || valid > 9000 {
		t.Errorf("%d were valid", valid)
	}
}

// Each way to spoil a recorder, for each kind of message and all else that a recorder does.
func TestNothingOfRecordersThatAreNotValid(t *testing.T) {
	for what, spoil := range map[string]change{
		"Number":     func(r *impl.Recorder) { r.Number = 4 },
		"Of":         func(r *impl.Recorder) { r.Of = 6 },
		"Safe":       func(r *impl.Recorder) { r.Safe.Promise = -1 },
		"Disk":       func(r *impl.Recorder) { r.Disk.Known = 9 },
		"Held":       func(r *impl.Recorder) { r.Held = manyMessages(401, 2, 1) },
		"held wrong": func(r *impl.Recorder) { r.Held = manyMessages(1, 1, 2) },
		"Wishes":     func(r *impl.Recorder) { r.Wishes = []string{"w", "w"} },
		"Heard":      func(r *impl.Recorder) { r.Heard = 1000001 },
		"Yes":        func(r *impl.Recorder) { r.Yes = []int{3, 1} },
		"Best":       func(r *impl.Recorder) { r.Best = manySlots(61, 1) },
		"Acks":       func(r *impl.Recorder) { r.Acks = []impl.RecAck{{Index: 0}} },
		"both":       func(r *impl.Recorder) { r.Lead, r.Trying = true, true },
		"Ballot":     func(r *impl.Recorder) { r.Ballot = 9 },
		"down":       func(r *impl.Recorder) { r.Up, r.Heard = false, 1 },
	} {
		for _, from := range []func() impl.Recorder{idle, leading, trying, fallen} {
			r := from()
			spoil(&r)
			if len(brokenSentences(r)) == 0 {
				t.Errorf("%s: it is valid", what)
			}
			for kind := 0; kind <= 10; kind++ {
				m := impl.RecMessage{Kind: kind, From: 1, To: r.Number, Ballot: 7, Index: 3, Known: 3, Text: "t"}
				if got := impl.RecTake(r, m); !same(got, impl.Recorder{}) {
					t.Errorf("%s: kind %d gives %+v", what, kind, got)
				}
			}
			if got := impl.RecWish(r, "t"); !same(got, impl.Recorder{}) {
				t.Errorf("%s: a wish gives %+v", what, got)
			}
			if got, sent := impl.RecTick(r); !same(got, impl.Recorder{}) || len(sent) != 0 {
				t.Errorf("%s: a tick gives %+v %+v", what, got, sent)
			}
			if got := impl.RecFall(r); !same(got, impl.Recorder{}) {
				t.Errorf("%s: a fall gives %+v", what, got)
			}
			if got := impl.RecRise(r); !same(got, impl.Recorder{}) {
				t.Errorf("%s: a rise gives %+v", what, got)
			}
		}
	}
}

// All that is held is brought, to and fro, until nobody holds anything: one that tries leads, and all know one book.
func TestTakingToAndFro(t *testing.T) {
	rs := []impl.Recorder{impl.RecNew(1, 3), impl.RecNew(2, 3), impl.RecNew(3, 3)}
	rs[0].Disk = disk(2, 1, slot(2, "a"), slot(2, "b"))
	rs[1].Disk = disk(1, 0, slot(1, "x"), slot(0, ""), slot(1, "c"))
	rs[2].Disk, rs[2].Trying, rs[2].Ballot, rs[2].Yes = disk(3, 0), true, 3, []int{3}
	rs[0] = impl.RecWish(rs[0], "wish")
	bring := func(list ...impl.RecMessage) {
		for len(list) > 0 {
			to := list[0].To - 1
			if rs[to] = impl.RecTake(rs[to], list[0]); !impl.RecValid(rs[to]) {
				t.Fatalf("%+v led to %+v", list[0], rs[to])
			}
			list = append(list[1:], rs[to].Held...)
			rs[to].Held = nil
		}
	}
	toOthers := func(m impl.RecMessage) {
		for _, to := range []int{1, 2} {
			m.From, m.To = 3, to
			bring(m)
		}
	}
	toOthers(impl.RecMessage{Kind: impl.RecPrepare, Ballot: 3})
	if want := slots(slot(3, "a"), slot(3, "b")); !rs[2].Lead || !same(rs[2].Disk.Slots, want) {
		t.Fatalf("it does not lead with what was taken: %+v", rs[2])
	}
	for i, s := range rs[2].Disk.Slots {
		bring(impl.RecMessage{Kind: impl.RecAccepted, From: 3, To: 3, Ballot: 3, Index: i + 1})
		toOthers(impl.RecMessage{Kind: impl.RecAccept, Ballot: 3, Index: i + 1, Text: s.Text})
	}
	toOthers(impl.RecMessage{Kind: impl.RecBeat, Ballot: 3, Known: rs[2].Disk.Known})
	for _, r := range rs {
		if got := impl.RecBook(r); !same(got, []string{"a", "b"}) {
			t.Errorf("number %d knows %q", r.Number, got)
		}
	}
	if !same(rs[2].Wishes, []string{"wish"}) {
		t.Errorf("the one that leads has the wishes %q", rs[2].Wishes)
	}
}

// One that took nothing asks for what it needs, five places at a time.
func TestNeedingToAndFro(t *testing.T) {
	leads := impl.Recorder{Number: 1, Of: 2, Up: true, Disk: disk(9, 12, manySlots(14, 4)...), Lead: true, Ballot: 9}
	behind := impl.RecNew(2, 2)
	for _, want := range []int{5, 10, 12, 12} {
		behind = impl.RecTake(behind, impl.RecMessage{Kind: impl.RecBeat, From: 1, To: 2, Ballot: 9, Known: 12})
		for _, m := range behind.Held {
			leads = impl.RecTake(leads, m)
		}
		for _, m := range leads.Held {
			behind = impl.RecTake(behind, m)
		}
		leads.Held, behind.Held = nil, nil
		if behind.Disk.Known != want {
			t.Fatalf("it knows %d and not %d", behind.Disk.Known, want)
		}
	}
	if !same(impl.RecBook(behind), impl.RecBook(leads)) {
		t.Errorf("%q and %q", impl.RecBook(behind), impl.RecBook(leads))
	}
}
