package tests

import (
	"fmt"
	"math"
	"math/rand"
	"reflect"
	"strings"
	"testing"

	"loop.example/wharflog/impl"
)

// idle is number 2 of 3, which is quiet and has something of all else.
func idle() impl.Recorder {
	return impl.Recorder{Number: 2, Of: 3, Up: true, Safe: disk(4, 1, slot(3, "a")), Disk: disk(5, 2, slot(3, "a"), slot(5, "b"), slot(0, ""), slot(4, "")),
		Held: []impl.RecMessage{message(1, 2, 3), {Kind: 2, From: 2, To: 1, Ballot: 5, Slots: slots(slot(3, "a"))}}, Wishes: []string{"w", "v"}, Heard: 3}
}

// leading has acks, and trying has who promised, and what.
func leading() impl.Recorder {
	r := idle()
	r.Lead, r.Ballot, r.Acks = true, 5, []impl.RecAck{{Index: 3, From: []int{1, 2}}, {Index: 4}, {Index: 9, From: []int{3}}}
	return r
}

func trying() impl.Recorder {
	r := idle()
	r.Trying, r.Ballot, r.Yes, r.Best = true, 5, []int{1, 3}, slots(slot(2, "a"), slot(0, ""), slot(7, "c"))
	return r
}

// fallen has its disks alone.
func fallen() impl.Recorder {
	return impl.Recorder{Number: 2, Of: 3, Safe: idle().Safe, Disk: idle().Disk}
}

func message(kind, from, to int) impl.RecMessage {
	return impl.RecMessage{Kind: kind, From: from, To: to}
}

func manyMessages(n, from, to int) []impl.RecMessage {
	var list []impl.RecMessage
	for i := range n {
		list = append(list, message(1+i%9, from, to))
	}
	return list
}

func manyWishes(n int) []string {
	var list []string
	for i := range n {
		list = append(list, fmt.Sprint("w", i))
	}
	return list
}

func TestNewRecorders(t *testing.T) {
	numbers := []int{math.MinInt, -1, 0, 1, 2, 3, 4, 5, 6, 7, math.MaxInt}
	for _, of := range numbers {
		for _, number := range numbers {
			want := impl.Recorder{}
			if of >= 1 && of <= 5 && number >= 1 && number <= of {
				want = impl.Recorder{Number: number, Of: of, Up: true}
			}
			got := impl.RecNew(number, of)
			if !same(got, want) {
				t.Errorf("%d of %d: %+v", number, of, got)
			}
			if impl.RecValid(got) != want.Up {
				t.Errorf("%d of %d is valid: %v", number, of, !want.Up)
			}
		}
	}
}

func TestMessagesThatAreOk(t *testing.T) {
	type change = func(m *impl.RecMessage)
	for _, c := range []struct {
		what   string
		of     int
		change change
		want   bool
	}{
		{"as it is", 3, func(m *impl.RecMessage) {}, true},
		{"nothing", 3, func(m *impl.RecMessage) { *m = impl.RecMessage{} }, false},
		{"Kind and numbers alone", 3, func(m *impl.RecMessage) { *m = message(1, 3, 3) }, true},
		{"From 0", 3, func(m *impl.RecMessage) { m.From = 0 }, false},
		{"From 1", 3, func(m *impl.RecMessage) { m.From = 1 }, true},
		{"From at the end", 3, func(m *impl.RecMessage) { m.From = 3 }, true},
		{"From one behind", 3, func(m *impl.RecMessage) { m.From = 4 }, false},
		{"From below", 3, func(m *impl.RecMessage) { m.From = -1 }, false},
		{"To 0", 3, func(m *impl.RecMessage) { m.To = 0 }, false},
		{"To 1", 3, func(m *impl.RecMessage) { m.To = 1 }, true},
		{"To at the end", 3, func(m *impl.RecMessage) { m.To = 3 }, true},
		{"To one behind", 3, func(m *impl.RecMessage) { m.To = 4 }, false},
		{"To below", 3, func(m *impl.RecMessage) { m.To = -1 }, false},
		{"to itself", 3, func(m *impl.RecMessage) { m.From, m.To = 2, 2 }, true},
		{"Ballot 0", 3, func(m *impl.RecMessage) { m.Ballot = 0 }, true},
		{"Ballot below 0", 3, func(m *impl.RecMessage) { m.Ballot = -1 }, false},
		{"Ballot at its limit", 3, func(m *impl.RecMessage) { m.Ballot = 1000000 }, true},
		{"Ballot one above", 3, func(m *impl.RecMessage) { m.Ballot = 1000001 }, false},
		{"Index 0", 3, func(m *impl.RecMessage) { m.Index = 0 }, true},
		{"Index below 0", 3, func(m *impl.RecMessage) { m.Index = -1 }, false},
		{"Index at its limit", 3, func(m *impl.RecMessage) { m.Index = 60 }, true},
		{"Index one above", 3, func(m *impl.RecMessage) { m.Index = 61 }, false},
		{"Known 0", 3, func(m *impl.RecMessage) { m.Known = 0 }, true},
		{"Known below 0", 3, func(m *impl.RecMessage) { m.Known = -1 }, false},
		{"Known at its limit", 3, func(m *impl.RecMessage) { m.Known = 60 }, true},
		{"Known one above", 3, func(m *impl.RecMessage) { m.Known = 61 }, false},
		{"no Text", 3, func(m *impl.RecMessage) { m.Text = "" }, true},
		{"Text of 100 bytes", 3, func(m *impl.RecMessage) { m.Text = long(100) }, true},
		{"Text of 101 bytes", 3, func(m *impl.RecMessage) { m.Text = long(101) }, false},
		{"Text of 102 bytes, runes of two", 3, func(m *impl.RecMessage) { m.Text = strings.Repeat("ü", 51) }, false},
		{"no Slots", 3, func(m *impl.RecMessage) { m.Slots = nil }, true},
		{"60 Slots", 3, func(m *impl.RecMessage) { m.Slots = manySlots(60, 1) }, true},
		{"61 Slots", 3, func(m *impl.RecMessage) { m.Slots = manySlots(61, 1) }, false},
		{"a slot's Ballot below 0", 3, func(m *impl.RecMessage) { m.Slots[1].Ballot = -1 }, false},
		{"a slot's Ballot at its limit", 3, func(m *impl.RecMessage) { m.Slots[1].Ballot = 1000000 }, true},
		{"a slot's Ballot one above", 3, func(m *impl.RecMessage) { m.Slots[1].Ballot = 1000001 }, false},
		{"a slot's Text of 100 bytes", 3, func(m *impl.RecMessage) { m.Slots[1].Text = long(100) }, true},
		{"a slot's Text of 101 bytes", 3, func(m *impl.RecMessage) { m.Slots[1].Text = long(101) }, false},
		{"a slot's Text with Ballot 0", 3, func(m *impl.RecMessage) { m.Slots[1] = slot(0, "x") }, false},
		{"an Of of 0", 0, func(m *impl.RecMessage) {}, false},
		{"an Of of 0, and nobody", 0, func(m *impl.RecMessage) { m.From, m.To = 0, 0 }, false},
		{"an Of below 0", -1, func(m *impl.RecMessage) { m.From, m.To = -1, -1 }, false},
		{"an Of far below 0", math.MinInt, func(m *impl.RecMessage) {}, false},
		{"of 1", 1, func(m *impl.RecMessage) { m.From, m.To = 1, 1 }, true},
		{"of 1, to another", 1, func(m *impl.RecMessage) { m.From, m.To = 1, 2 }, false},
		{"of 5", 5, func(m *impl.RecMessage) { m.From, m.To = 5, 5 }, true},
	} {
		m := impl.RecMessage{Kind: 4, From: 1, To: 2, Ballot: 7, Index: 3, Known: 2, Text: "t", Slots: slots(slot(1, "a"), slot(2, "b"))}
		c.change(&m)
		if soundMessage(m, c.of) != c.want {
			t.Errorf("%s: the case is not what it says", c.what)
		}
		if got := impl.RecMessageOk(m, c.of); got != c.want {
			t.Errorf("%s: %v", c.what, got)
		}
		listsKept(t, c.what, m, func(m impl.RecMessage) bool { return impl.RecMessageOk(m, c.of) })
	}
}

func TestKindsOfMessages(t *testing.T) {
	table := []int{impl.RecPrepare, impl.RecPromised, impl.RecAccept, impl.RecAccepted, impl.RecBeat, impl.RecChosen, impl.RecNeed, impl.RecWished, impl.RecRefuse}
	if !reflect.DeepEqual(table, []int{1, 2, 3, 4, 5, 6, 7, 8, 9}) {
		t.Errorf("the constants are %v", table)
	}
	for kind := -3; kind < 20; kind++ {
		if got := impl.RecMessageOk(message(kind, 1, 2), 2); got != (kind >= 1 && kind <= 9) {
			t.Errorf("Kind %d: %v", kind, got)
		}
	}
	for _, kind := range []int{math.MinInt, math.MaxInt} {
		if impl.RecMessageOk(message(kind, 1, 2), 2) {
			t.Errorf("Kind %d", kind)
		}
	}
}

// A spoiling changes a recorder of a role, and names the sentences that it is to break then.
type spoiling struct {
	what   string
	from   func() impl.Recorder
	change func(r *impl.Recorder)
	broken []string
}

func wantSpoilings(t *testing.T, cases []spoiling) {
	t.Helper()
	for _, c := range cases {
		r := c.from()
		c.change(&r)
		wantSentences(t, c.what, r, c.broken...)
		listsKept(t, c.what, r, impl.RecValid)
	}
}

func breaks(sentences ...string) []string {
	return sentences
}

func TestRolesAreValid(t *testing.T) {
	for what, r := range map[string]impl.Recorder{"new": impl.RecNew(1, 1), "quiet": idle(), "leads": leading(), "tries": trying(), "fallen": fallen()} {
		wantSentences(t, what, r)
		wantSentences(t, what+", empty lists", plainOf(r))
		listsKept(t, what, r, impl.RecValid)
	}
	wantSentences(t, "nothing", impl.Recorder{}, pNumber)
	wantSentences(t, "all lists empty and not nil", impl.Recorder{Number: 1, Of: 1, Held: []impl.RecMessage{}, Wishes: []string{}, Yes: []int{}, Best: slots(), Acks: []impl.RecAck{}})
}

func TestValidNumbers(t *testing.T) {
	numbers := []int{math.MinInt, -1, 0, 1, 2, 3, 4, 5, 6, math.MaxInt}
	for _, of := range numbers {
		for _, number := range numbers {
			r := impl.Recorder{Number: number, Of: of, Up: true}
			if of >= 1 && of <= 5 && number >= 1 && number <= of {
				wantSentences(t, fmt.Sprint(number, " of ", of), r)
			} else {
				wantSentences(t, fmt.Sprint(number, " of ", of), r, pNumber)
			}
		}
	}
}

func TestValidDisks(t *testing.T) {
	both := func(what string, change func(d *impl.RecDisk), broken ...string) []spoiling {
		return []spoiling{
			{what + ", Safe", idle, func(r *impl.Recorder) { change(&r.Safe) }, broken},
			{what + ", Disk", idle, func(r *impl.Recorder) { change(&r.Disk) }, broken},
			{what + ", Safe of one that fell", fallen, func(r *impl.Recorder) { change(&r.Safe) }, broken},
			{what + ", Disk of one that fell", fallen, func(r *impl.Recorder) { change(&r.Disk) }, broken},
		}
	}
	wantSpoilings(t, both("nothing", func(d *impl.RecDisk) { *d = impl.RecDisk{} }))
	wantSpoilings(t, both("Promise at its limit", func(d *impl.RecDisk) { d.Promise = 1000000 }))
	wantSpoilings(t, both("Promise one above", func(d *impl.RecDisk) { d.Promise = 1000001 }, pDisks))
	wantSpoilings(t, both("Promise below a slot's Ballot", func(d *impl.RecDisk) { d.Promise = 2 }, pDisks))
	wantSpoilings(t, both("60 slots", func(d *impl.RecDisk) { d.Slots = manySlots(60, 3) }))
	wantSpoilings(t, both("61 slots", func(d *impl.RecDisk) { d.Slots = manySlots(61, 3) }, pDisks))
	wantSpoilings(t, both("Known below 0", func(d *impl.RecDisk) { d.Known = -1 }, pDisks))
	wantSpoilings(t, both("Known behind Slots", func(d *impl.RecDisk) { d.Known = len(d.Slots) + 1 }, pDisks))
	wantSpoilings(t, both("a Text with Ballot 0", func(d *impl.RecDisk) { d.Slots[0], d.Known = slot(0, "x"), 0 }, pDisks))
	wantSpoilings(t, []spoiling{
		{"Safe ahead of Disk", idle, func(r *impl.Recorder) { r.Safe, r.Disk = r.Disk, r.Safe }, nil},
	})
}

func TestValidHeld(t *testing.T) {
	held := func(list ...impl.RecMessage) func(r *impl.Recorder) {
		return func(r *impl.Recorder) { r.Held = list }
	}
	wantSpoilings(t, []spoiling{
		{"none", idle, held(), nil},
		{"400", idle, held(manyMessages(400, 2, 1)...), nil},
		{"401", idle, held(manyMessages(401, 2, 1)...), breaks(pHeld)},
		{"to itself", idle, held(message(8, 2, 2)), nil},
		{"two that are the same", idle, held(message(8, 2, 3), message(8, 2, 3)), nil},
		{"From another", idle, held(message(8, 1, 2)), breaks(pHeld)},
		{"the last From another", idle, held(message(8, 2, 1), message(8, 2, 1), message(8, 3, 1)), breaks(pHeld)},
		{"not ok", idle, held(message(0, 2, 1)), breaks(pHeld)},
		{"the last not ok", idle, held(message(8, 2, 1), message(10, 2, 1)), breaks(pHeld)},
		{"to one that is not of them", idle, held(message(8, 2, 4)), breaks(pHeld)},
		{"to the last of them", idle, held(message(8, 2, 3)), nil},
		{"slots that are not ok", idle, held(impl.RecMessage{Kind: 2, From: 2, To: 1, Slots: slots(slot(0, "x"))}), breaks(pHeld)},
		{"a ballot above what was promised", idle, held(impl.RecMessage{Kind: 2, From: 2, To: 1, Ballot: 1000000}), nil},
		{"by one that leads", leading, held(manyMessages(401, 2, 1)...), breaks(pHeld)},
		{"by one that tries", trying, held(message(8, 1, 2)), breaks(pHeld)},
	})
}

func TestValidWishes(t *testing.T) {
	wishes := func(list ...string) func(r *impl.Recorder) {
		return func(r *impl.Recorder) { r.Wishes = list }
	}
	twenty := manyWishes(20)
	wantSpoilings(t, []spoiling{
		{"none", idle, wishes(), nil},
		{"20", idle, wishes(twenty...), nil},
		{"21", idle, wishes(manyWishes(21)...), breaks(pWishes)},
		{"not in order", idle, wishes("c", "a", "b"), nil},
		{"two the same", idle, wishes("a", "a"), breaks(pWishes)},
		{"two the same, far apart", idle, wishes("a", "b", "c", "a"), breaks(pWishes)},
		{"the last two the same", idle, wishes("a", "b", "b"), breaks(pWishes)},
		{"nearly the same", idle, wishes("a", "a ", "A", "aa"), nil},
		{"1 byte", idle, wishes("\x00"), nil},
		{"no byte", idle, wishes(""), breaks(pWishes)},
		{"no byte, the last", idle, wishes("a", "b", ""), breaks(pWishes)},
		{"100 bytes", idle, wishes(long(100)), nil},
		{"101 bytes", idle, wishes(long(101)), breaks(pWishes)},
		{"101 bytes, the last", idle, wishes("a", long(101)), breaks(pWishes)},
		{"102 bytes, runes of two", idle, wishes(strings.Repeat("ü", 51)), breaks(pWishes)},
		{"what is known", idle, wishes("a", "b"), nil},
		{"of one that leads", leading, wishes(manyWishes(21)...), breaks(pWishes)},
		{"of one that tries", trying, wishes("a", "a"), breaks(pWishes)},
	})
}

func TestValidHeard(t *testing.T) {
	for _, from := range []func() impl.Recorder{idle, leading, trying} {
		for heard, broken := range map[int][]string{0: nil, 1: nil, 1000000: nil, 1000001: {pHeard}, -1: {pHeard}, math.MinInt: {pHeard}, math.MaxInt: {pHeard}} {
			wantSpoilings(t, []spoiling{{fmt.Sprint("Heard ", heard), from, func(r *impl.Recorder) { r.Heard = heard }, broken}})
		}
	}
}

func TestValidYesAndBest(t *testing.T) {
	yes := func(list ...int) func(r *impl.Recorder) {
		return func(r *impl.Recorder) { r.Yes = list }
	}
	best := func(list ...impl.RecSlot) func(r *impl.Recorder) {
		return func(r *impl.Recorder) { r.Best = list }
	}
	wantSpoilings(t, []spoiling{
		{"nobody", trying, yes(), nil},
		{"all", trying, yes(1, 2, 3), nil},
		{"0", trying, yes(0, 1), breaks(pWho)},
		{"one above Of", trying, yes(3, 4), breaks(pWho)},
		{"below 0", trying, yes(-1), breaks(pWho)},
		{"two equal", trying, yes(1, 1), breaks(pWho)},
		{"two equal, at the end", trying, yes(1, 3, 3), breaks(pWho)},
		{"turned around", trying, yes(2, 1), breaks(pWho)},
		{"turned around at the end", trying, yes(1, 3, 2), breaks(pWho)},
		{"nothing was taken", trying, best(), nil},
		{"60 slots", trying, best(manySlots(60, 1000000)...), nil},
		{"61 slots", trying, best(manySlots(61, 1)...), breaks(pBest)},
		{"a ballot one above", trying, best(slot(1000001, "a")), breaks(pBest)},
		{"a ballot below 0", trying, best(slot(-1, "a")), breaks(pBest)},
		{"a Text of 100 bytes", trying, best(slot(1, long(100))), nil},
		{"a Text of 101 bytes", trying, best(slot(1, long(101))), breaks(pBest)},
		{"a Text with Ballot 0", trying, best(slot(1, "a"), slot(0, "b")), breaks(pBest)},
		{"slots that are not ok, of one that leads", leading, best(slot(0, "b")), breaks(pBest, pLeads)},
		{"Yes out of order, of one that leads", leading, yes(2, 1), breaks(pWho, pLeads)},
	})
}

func TestValidAcks(t *testing.T) {
	acks := func(list ...impl.RecAck) func(r *impl.Recorder) {
		return func(r *impl.Recorder) { r.Acks = list }
	}
	ack := func(index int, from ...int) impl.RecAck { return impl.RecAck{Index: index, From: from} }
	all := func() (list []impl.RecAck) {
		for i := range 60 {
			list = append(list, ack(i+1, 1, 2, 3))
		}
		return list
	}()
	wantSpoilings(t, []spoiling{
		{"none", leading, acks(), nil},
		{"of all places", leading, acks(all...), nil},
		{"Index 1 and 60", leading, acks(ack(1), ack(60)), nil},
		{"Index 0", leading, acks(ack(0, 1)), breaks(pAcks)},
		{"Index below 0", leading, acks(ack(-1, 1), ack(3)), breaks(pAcks)},
		{"Index 61", leading, acks(ack(60, 1), ack(61, 1)), breaks(pAcks)},
		{"two of one Index", leading, acks(ack(2, 1), ack(2, 1)), breaks(pAcks)},
		{"two of one Index at the end", leading, acks(ack(2, 1), ack(3, 1), ack(3, 2)), breaks(pAcks)},
		{"turned around", leading, acks(ack(3, 1), ack(2, 1)), breaks(pAcks)},
		{"turned around at the end", leading, acks(ack(1, 1), ack(3, 1), ack(2, 1)), breaks(pAcks)},
		{"nobody", leading, acks(ack(1), ack(2)), nil},
		{"From 0", leading, acks(ack(1, 0)), breaks(pWho)},
		{"From one above Of", leading, acks(ack(1, 1), ack(2, 4)), breaks(pWho)},
		{"From below 0", leading, acks(ack(1, -1, 1)), breaks(pWho)},
		{"From two equal", leading, acks(ack(1, 2, 2)), breaks(pWho)},
		{"From turned around, the last", leading, acks(ack(1, 1, 2), ack(2, 1, 3, 2)), breaks(pWho)},
		{"both at once", leading, acks(ack(61, 4)), breaks(pWho, pAcks)},
	})
}

func TestValidRoles(t *testing.T) {
	ballot := func(n int) func(r *impl.Recorder) { return func(r *impl.Recorder) { r.Ballot = n } }
	wantSpoilings(t, []spoiling{
		{"leads under 1", leading, ballot(1), nil},
		{"leads under 0", leading, ballot(0), breaks(pBallot)},
		{"leads below 0", leading, ballot(-1), breaks(pBallot)},
		{"leads under the Promise", leading, ballot(5), nil},
		{"leads one above", leading, ballot(6), breaks(pBallot)},
		{"leads above what is Safe alone", leading, func(r *impl.Recorder) { r.Safe.Promise = 9; r.Ballot = 9 }, breaks(pBallot)},
		{"leads at the limit", leading, func(r *impl.Recorder) { r.Disk.Promise = 1000000; r.Ballot = 1000000 }, nil},
		{"leads with Yes", leading, func(r *impl.Recorder) { r.Yes = []int{1} }, breaks(pLeads)},
		{"leads with Best", leading, func(r *impl.Recorder) { r.Best = slots(slot(1, "a")) }, breaks(pLeads)},
		{"leads with an empty slot in Best", leading, func(r *impl.Recorder) { r.Best = slots(slot(0, "")) }, breaks(pLeads)},
		{"leads without acks", leading, func(r *impl.Recorder) { r.Acks = nil }, nil},

		{"tries under 1", trying, ballot(1), nil},
		{"tries under 0", trying, ballot(0), breaks(pBallot)},
		{"tries under the Promise", trying, ballot(5), nil},
		{"tries one above", trying, ballot(6), breaks(pBallot)},
		{"tries with an ack", trying, func(r *impl.Recorder) { r.Acks = []impl.RecAck{{Index: 1}} }, breaks(pTries)},
		{"tries without Yes", trying, func(r *impl.Recorder) { r.Yes = nil }, nil},
		{"tries without Best", trying, func(r *impl.Recorder) { r.Best = nil }, nil},
		{"tries with all, and does not lead yet", trying, func(r *impl.Recorder) { r.Yes = []int{1, 2, 3} }, nil},

		{"leads and tries, with nothing more", idle, func(r *impl.Recorder) { r.Lead, r.Trying, r.Ballot = true, true, 5 }, breaks(pBoth)},
		{"leads and tries under 0", idle, func(r *impl.Recorder) { r.Lead, r.Trying = true, true }, breaks(pBoth)},
		{"leads, and tries too", leading, func(r *impl.Recorder) { r.Trying = true }, breaks(pBoth, pTries)},
		{"tries, and leads too", trying, func(r *impl.Recorder) { r.Lead = true }, breaks(pBoth, pLeads)},

		{"quiet with a Ballot", idle, ballot(1), breaks(pQuiet)},
		{"quiet with a Ballot below 0", idle, ballot(-1), breaks(pQuiet)},
		{"quiet with Yes", idle, func(r *impl.Recorder) { r.Yes = []int{2} }, breaks(pQuiet)},
		{"quiet with Best", idle, func(r *impl.Recorder) { r.Best = slots(slot(0, "")) }, breaks(pQuiet)},
		{"quiet with an ack", idle, func(r *impl.Recorder) { r.Acks = []impl.RecAck{{Index: 1}} }, breaks(pQuiet)},
		{"does not lead any more", leading, func(r *impl.Recorder) { r.Lead = false }, breaks(pQuiet)},
		{"does not try any more", trying, func(r *impl.Recorder) { r.Trying = false }, breaks(pQuiet)},
	})
}

func TestValidWhileNotUp(t *testing.T) {
	wantSpoilings(t, []spoiling{
		{"as it is", fallen, func(r *impl.Recorder) {}, nil},
		{"nothing on its disks", fallen, func(r *impl.Recorder) { r.Safe, r.Disk = impl.RecDisk{}, impl.RecDisk{} }, nil},
		{"Safe is not the Disk", fallen, func(r *impl.Recorder) { r.Safe = disk(1, 0) }, nil},
		{"holds a message", fallen, func(r *impl.Recorder) { r.Held = manyMessages(1, 2, 1) }, breaks(pDown)},
		{"has a wish", fallen, func(r *impl.Recorder) { r.Wishes = []string{"a"} }, breaks(pDown)},
		{"Heard", fallen, func(r *impl.Recorder) { r.Heard = 1 }, breaks(pDown)},
		{"leads", fallen, func(r *impl.Recorder) { r.Lead, r.Ballot = true, 5 }, breaks(pDown)},
		{"tries", fallen, func(r *impl.Recorder) { r.Trying, r.Ballot = true, 5 }, breaks(pDown)},
		{"has a Ballot", fallen, func(r *impl.Recorder) { r.Ballot = 5 }, breaks(pQuiet)},
		{"has Yes", fallen, func(r *impl.Recorder) { r.Yes = []int{1} }, breaks(pQuiet)},
		{"has Best", fallen, func(r *impl.Recorder) { r.Best = slots(slot(1, "a")) }, breaks(pQuiet)},
		{"has an ack", fallen, func(r *impl.Recorder) { r.Acks = []impl.RecAck{{Index: 1}} }, breaks(pQuiet)},
		{"fell and kept all", idle, func(r *impl.Recorder) { r.Up = false }, breaks(pDown)},
	})
}

// drawPart changes one part of a recorder to something at an edge.
func drawPart(dice *rand.Rand, r *impl.Recorder) {
	number := func() int { return []int{-1, 0, 1, 2, 3, 4, 5, 6, 60, 61, 1000000, 1000001}[dice.Intn(12)] }
	few := func() (list []int) {
		for range dice.Intn(4) {
			list = append(list, dice.Intn(5))
		}
		return list
	}
	switch dice.Intn(16) {
	case 0:
		r.Number = number()
	case 1:
		r.Of = number()
	case 2:
		r.Up = !r.Up
	case 3:
		r.Safe.Promise = number()
	case 4:
		r.Disk.Promise = number()
	case 5:
		r.Disk.Known = number()
	case 6:
		r.Disk.Slots = drawSlots(dice)
	case 7:
		r.Held = manyMessages(dice.Intn(402), 1+dice.Intn(3), 1+dice.Intn(4))
	case 8:
		r.Wishes = manyWishes(dice.Intn(22))
	case 9:
		r.Lead = !r.Lead
	case 10:
		r.Trying = !r.Trying
	case 11:
		r.Ballot = number()
	case 12:
		r.Yes = few()
	case 13:
		r.Best = drawSlots(dice)
	case 14:
		r.Acks = []impl.RecAck{{Index: number(), From: few()}, {Index: number(), From: few()}}
	case 15:
		r.Heard = number()
	}
}

func TestDrawnRecorders(t *testing.T) {
	dice := rand.New(rand.NewSource(7))
	valid := 0
	roles := []func() impl.Recorder{idle, leading, trying, fallen}
	for range 30000 {
		r := roles[dice.Intn(len(roles))]()
		for range dice.Intn(4) {
			drawPart(dice, &r)
		}
		broken := brokenSentences(r)
		if got := impl.RecValid(r); got != (len(broken) == 0) {
			t.Fatalf("valid is %v; %+v breaks %q", got, r, broken)
		}
		valid += boolInt(len(broken) == 0)
	}
	if valid < 8000 || valid > 22000 {
		t.Errorf("%d were valid", valid)
	}
}
