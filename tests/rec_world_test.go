package tests

import (
	"fmt"
	"math"
	"reflect"
	"slices"
	"strings"
	"testing"

	"loop.example/wharflog/impl"
)

// numbered is a recorder of another number and Of.
func numbered(r impl.Recorder, number, of int) impl.Recorder {
	r = plainOf(r)
	r.Number, r.Of = number, of
	for i := range r.Held {
		r.Held[i].From = number
	}
	return r
}

// busy is a world of three: one that leads, one that is quiet and one that tries, with something in flight and something fixed.
func busy() impl.RecWorld {
	return impl.RecWorld{
		Recorders: []impl.Recorder{numbered(leading(), 1, 3), idle(), numbered(trying(), 3, 3)},
		Flight: []impl.RecMessage{
			{Kind: impl.RecPrepare, From: 1, To: 2, Ballot: 9},
			{Kind: impl.RecPromised, From: 2, To: 3, Ballot: 5, Slots: slots(slot(2, "a"), slot(5, "p"))},
			{Kind: impl.RecWished, From: 3, To: 1, Text: "wish"},
		},
		Fixed: []impl.RecFix{{Index: 1, Text: "a"}, {Index: 4, Text: "d"}},
	}
}

type worldGiven struct {
	W impl.RecWorld
	E impl.RecEvent
}

func doOf(g worldGiven) impl.RecWorld {
	return impl.RecDo(g.W, g.E)
}

func event(kind, a int) impl.RecEvent {
	return impl.RecEvent{Kind: kind, A: a}
}

// wantDo looks at one event: what comes of it, that this is an ok world, and that all memory is kept.
func wantDo(t *testing.T, what string, w impl.RecWorld, e impl.RecEvent, want impl.RecWorld) {
	t.Helper()
	if broken := brokenWorld(w); len(broken) > 0 {
		t.Errorf("%s: the case breaks %q", what, broken)
	}
	if plain := plainRecDo(w, e); !same(plain, want) {
		t.Errorf("%s: the plain one tells\n%+v and not\n%+v", what, plain, want)
	}
	got := impl.RecDo(w, e)
	if !same(got, want) {
		t.Errorf("%s:\n%+v and not\n%+v", what, got, want)
	}
	wantWorld(t, what, got)
	listsKept(t, what, worldGiven{w, e}, doOf)
}

// wantWorld looks whether a world breaks just these sentences, and whether RecWorldOk says so.
func wantWorld(t *testing.T, what string, w impl.RecWorld, sentences ...string) {
	t.Helper()
	if broken := brokenWorld(w); !reflect.DeepEqual(broken, sentences) {
		t.Errorf("%s: it breaks %q, and not %q", what, broken, sentences)
	}
	if got := impl.RecWorldOk(w); got != (len(sentences) == 0) {
		t.Errorf("%s: ok is %v; it breaks %q", what, got, sentences)
	}
}

func TestNewWorlds(t *testing.T) {
	for _, n := range []int{math.MinInt, -5, -1, 0, 1, 2, 3, 4, 5, 6, 7, math.MaxInt} {
		want := impl.RecWorld{}
		if n >= 1 && n <= 5 {
			for number := 1; number <= n; number++ {
				want.Recorders = append(want.Recorders, impl.RecNew(number, n))
			}
		}
		got := impl.RecNewWorld(n)
		if !same(got, want) || !same(plainNewWorld(n), want) {
			t.Errorf("%d: %+v", n, got)
		}
		if impl.RecWorldOk(got) != (n >= 1 && n <= 5) {
			t.Errorf("%d: ok is %v", n, impl.RecWorldOk(got))
		}
		if !apart(append(listSpans(got), listSpans(impl.RecNewWorld(n))...)) {
			t.Errorf("%d: two worlds share memory", n)
		}
	}
}

// A worldCase is busy, changed, and the sentences that it breaks then.
type worldCase struct {
	what   string
	change func(w *impl.RecWorld)
	breaks []string
}

func manyFixed(n int) []impl.RecFix {
	var list []impl.RecFix
	for i := range n {
		list = append(list, impl.RecFix{Index: i + 1, Text: fmt.Sprint("f", i)})
	}
	return list
}

func worldsOfManyRecorders() []worldCase {
	return []worldCase{
		{"as it is", func(w *impl.RecWorld) {}, nil},
		{"nothing", func(w *impl.RecWorld) { *w = impl.RecWorld{} }, breaks(wMany)},
		{"one", func(w *impl.RecWorld) { w.Recorders, w.Flight = impl.RecNewWorld(1).Recorders, nil }, nil},
		{"five", func(w *impl.RecWorld) { w.Recorders = impl.RecNewWorld(5).Recorders }, nil},
		{"six", func(w *impl.RecWorld) { w.Recorders = append(impl.RecNewWorld(5).Recorders, impl.RecNew(5, 5)) }, breaks(wMany, wNumbers, wOf)},
		{"six, each of six", func(w *impl.RecWorld) {
			w.Recorders = impl.RecNewWorld(5).Recorders
			w.Recorders = append(w.Recorders, w.Recorders[0])
			for i := range w.Recorders {
				w.Recorders[i].Number, w.Recorders[i].Of = i+1, 6
			}
		}, breaks(wMany, wValid)},
		{"the first not valid", func(w *impl.RecWorld) { w.Recorders[0].Ballot = 6 }, breaks(wValid)},
		{"the last not valid", func(w *impl.RecWorld) { w.Recorders[2].Heard = -1 }, breaks(wValid)},
		{"one down", func(w *impl.RecWorld) { w.Recorders[1] = fallen() }, nil},
		{"one down that wishes", func(w *impl.RecWorld) { w.Recorders[1] = fallen(); w.Recorders[1].Wishes = []string{"w"} }, breaks(wValid)},
		{"all down", func(w *impl.RecWorld) { *w = downAll(*w) }, nil},
		{"one is nothing", func(w *impl.RecWorld) { w.Recorders[1] = impl.Recorder{} }, breaks(wValid, wNumbers, wOf)},
		{"Numbers turned around", func(w *impl.RecWorld) {
			w.Recorders[0], w.Recorders[1] = numbered(w.Recorders[0], 2, 3), numbered(w.Recorders[1], 1, 3)
		}, breaks(wNumbers)},
		{"a Number twice", func(w *impl.RecWorld) { w.Recorders[1] = numbered(w.Recorders[1], 1, 3) }, breaks(wNumbers)},
		{"Numbers from 2", func(w *impl.RecWorld) { w.Recorders, w.Flight = []impl.Recorder{idle(), numbered(idle(), 3, 3)}, nil }, breaks(wNumbers, wOf)},
		{"Of one more", func(w *impl.RecWorld) { w.Recorders[1].Of = 4 }, breaks(wOf)},
		{"Of one less", func(w *impl.RecWorld) { w.Recorders[0] = impl.RecNew(1, 2) }, breaks(wOf)},
		{"all of one more", func(w *impl.RecWorld) { w.Recorders = impl.RecNewWorld(4).Recorders[:3] }, breaks(wOf)},
	}
}

func worldsOfManyMessages() []worldCase {
	behind := func(m impl.RecMessage) func(w *impl.RecWorld) {
		return func(w *impl.RecWorld) { w.Flight = append(w.Flight, m) }
	}
	return []worldCase{
		{"nothing in flight", func(w *impl.RecWorld) { w.Flight = nil }, nil},
		{"599 in flight", func(w *impl.RecWorld) { w.Flight = manyMessages(599, 1, 3) }, nil},
		{"600 in flight", func(w *impl.RecWorld) { w.Flight = manyMessages(600, 1, 3) }, nil},
		{"601 in flight", func(w *impl.RecWorld) { w.Flight = manyMessages(601, 1, 3) }, breaks(wFlight)},
		{"from itself, to itself", behind(message(9, 2, 2)), nil},
		{"from the last to the first", behind(message(1, 3, 1)), nil},
		{"Kind 0", behind(message(0, 1, 2)), breaks(wMessages)},
		{"Kind 10", behind(message(10, 1, 2)), breaks(wMessages)},
		{"to nobody", behind(message(1, 1, 0)), breaks(wMessages)},
		{"to one behind the last", behind(message(1, 1, 4)), breaks(wMessages)},
		{"from nobody", behind(message(1, 0, 1)), breaks(wMessages)},
		{"from one behind the last", behind(message(1, 4, 1)), breaks(wMessages)},
		{"60 slots", behind(impl.RecMessage{Kind: 2, From: 1, To: 2, Slots: manySlots(60, 1)}), nil},
		{"61 slots", behind(impl.RecMessage{Kind: 2, From: 1, To: 2, Slots: manySlots(61, 1)}), breaks(wMessages)},
		{"the first not ok", func(w *impl.RecWorld) { w.Flight[0].Ballot = 1000001 }, breaks(wMessages)},
		{"the only one not ok", func(w *impl.RecWorld) { w.Flight = []impl.RecMessage{{}} }, breaks(wMessages)},
	}
}

func worldsOfManyFixed() []worldCase {
	has := func(list ...impl.RecFix) func(w *impl.RecWorld) {
		return func(w *impl.RecWorld) { w.Fixed = list }
	}
	return []worldCase{
		{"nothing fixed", has(), nil},
		{"all places fixed", has(manyFixed(60)...), nil},
		{"the first place", has(impl.RecFix{Index: 1}), nil},
		{"the last place", has(impl.RecFix{Index: 60}), nil},
		{"Index 0", has(impl.RecFix{Index: 0, Text: "a"}), breaks(wIndex)},
		{"Index 0, and more", has(impl.RecFix{Index: 0}, impl.RecFix{Index: 1}), breaks(wIndex)},
		{"Index -1", has(impl.RecFix{Index: -1}), breaks(wIndex)},
		{"Index 61", has(impl.RecFix{Index: 61}), breaks(wIndex)},
		{"61 places", has(manyFixed(61)...), breaks(wIndex)},
		{"places with gaps", has(impl.RecFix{Index: 2}, impl.RecFix{Index: 3}, impl.RecFix{Index: 59}), nil},
		{"not ascending", has(impl.RecFix{Index: 2}, impl.RecFix{Index: 1}), breaks(wAscending)},
		{"not ascending at the end", has(impl.RecFix{Index: 1}, impl.RecFix{Index: 3}, impl.RecFix{Index: 2}), breaks(wAscending)},
		{"one Index twice", has(impl.RecFix{Index: 7, Text: "a"}, impl.RecFix{Index: 7, Text: "a"}), breaks(wAscending)},
		{"one Index twice, two texts", has(impl.RecFix{Index: 7, Text: "a"}, impl.RecFix{Index: 7, Text: "b"}), breaks(wAscending)},
		{"one text twice", has(impl.RecFix{Index: 7, Text: "a"}, impl.RecFix{Index: 8, Text: "a"}), nil},
		{"Text of 100 bytes", has(impl.RecFix{Index: 1, Text: long(100)}), nil},
		{"Text of 101 bytes", has(impl.RecFix{Index: 1, Text: long(101)}), breaks(wText)},
		{"Text of 102 bytes, runes of two", has(impl.RecFix{Index: 1}, impl.RecFix{Index: 2, Text: strings.Repeat("ü", 51)}), breaks(wText)},
	}
}

func worldCases() []worldCase {
	return slices.Concat(worldsOfManyRecorders(), worldsOfManyMessages(), worldsOfManyFixed())
}

func TestWorldsThatAreOk(t *testing.T) {
	for _, c := range worldCases() {
		w := busy()
		c.change(&w)
		wantWorld(t, c.what, w, c.breaks...)
		listsKept(t, c.what, w, impl.RecWorldOk)
	}
}

// Each way to spoil a world, for each function that is given one.
func TestNothingOfWorldsThatAreNotOk(t *testing.T) {
	for _, c := range worldCases() {
		w := busy()
		c.change(&w)
		if len(c.breaks) == 0 {
			continue
		}
		for kind := 0; kind <= 8; kind++ {
			if got := impl.RecDo(w, impl.RecEvent{Kind: kind, Text: "t"}); !same(got, impl.RecWorld{}) {
				t.Errorf("%s: kind %d gives %+v", c.what, kind, got)
			}
		}
		for _, rounds := range []int{-1, 0, 1, 2, 1000, 1001} {
			if got := impl.RecCalm(w, rounds); !same(got, impl.RecWorld{}) {
				t.Errorf("%s: %d rounds give %+v", c.what, rounds, got)
			}
		}
		for place := -1; place <= 61; place++ {
			if text, is := impl.RecMajor(w, place); is || text != "" {
				t.Errorf("%s: at %d most have %q", c.what, place, text)
			}
		}
		if impl.RecAgree(w) {
			t.Errorf("%s: they agree", c.what)
		}
	}
}

// downAll lets all recorders fall, without a note of it.
func downAll(w impl.RecWorld) impl.RecWorld {
	w = plainOf(w)
	for i, r := range w.Recorders {
		w.Recorders[i] = impl.Recorder{Number: r.Number, Of: r.Of, Safe: r.Safe, Disk: r.Disk}
	}
	return w
}

// ticked is a world whose recorders ticked, each for itself, with what they sent behind one another.
func ticked(w impl.RecWorld) (impl.RecWorld, []impl.RecMessage) {
	w = plainOf(w)
	var sent []impl.RecMessage
	for i, r := range w.Recorders {
		told := tickOf(r)
		w.Recorders[i] = told.R
		sent = append(sent, told.Sent...)
	}
	return w, sent
}

// A tick with so many in flight: what has room is in flight, in order of the recorders, and the rest is lost.
func TestTicksWithAFlight(t *testing.T) {
	for what, w := range map[string]impl.RecWorld{
		"busy": busy(), "new": impl.RecNewWorld(3), "all down": downAll(busy()), "one": impl.RecNewWorld(1), "crowded": crowdedWorld(),
	} {
		fixed := plainNote(busy()).Fixed
		for _, many := range []int{0, 1, 300, 590, 596, 597, 598, 599, 600} {
			w := plainOf(w)
			w.Flight, w.Fixed = manyMessages(many, 1, 1), fixed
			want, sent := ticked(w)
			want.Flight = slices.Concat(w.Flight, sent)
			if len(want.Flight) > 600 {
				want.Flight = want.Flight[:600]
			}
			want = plainNote(want)
			for _, a := range []int{0, -1, 7, math.MaxInt} {
				wantDo(t, fmt.Sprintf("%s, %d in flight", what, many), w, event(1, a), want)
			}
		}
	}
}

// crowdedWorld has recorders that hold as much as they may, so that they send more than may fly.
func crowdedWorld() impl.RecWorld {
	w := impl.RecNewWorld(4)
	for i := range w.Recorders {
		w.Recorders[i].Held = manyMessages([]int{300, 0, 299, 400}[i], i+1, 1+(i+1)%4)
	}
	return w
}

// Written out: what two recorders hold, with no room, with room for one, two and three, and for all.
func TestTickInOrder(t *testing.T) {
	first, second, third := message(1, 1, 2), impl.RecMessage{Kind: 2, From: 1, To: 3, Ballot: 5, Slots: slots(slot(1, "s"))}, message(8, 3, 1)
	for many, sent := range map[int][]impl.RecMessage{
		600: nil,
		599: {first},
		598: {first, second},
		597: {first, second, third},
		0:   {first, second, third},
	} {
		w := impl.RecNewWorld(3)
		w.Recorders[0].Held, w.Recorders[2].Held = []impl.RecMessage{first, second}, []impl.RecMessage{third}
		w.Flight = manyMessages(many, 2, 2)
		want := impl.RecNewWorld(3)
		for i := range want.Recorders {
			want.Recorders[i].Heard = 1
		}
		want.Flight = slices.Concat(w.Flight, sent)
		wantDo(t, fmt.Sprint(many, " in flight"), w, event(1, 0), want)
	}
}

func TestBring(t *testing.T) {
	w := busy()
	for at, m := range w.Flight {
		want := plainOf(w)
		want.Flight = slices.Delete(want.Flight, at, at+1)
		want.Recorders[m.To-1] = impl.RecTake(w.Recorders[m.To-1], m)
		if same(want.Recorders, w.Recorders) {
			t.Errorf("message %d changes nothing", at)
		}
		wantDo(t, fmt.Sprint("message ", at), w, event(2, at), plainNote(want))
		down := downAll(w)
		want = plainOf(down)
		want.Flight = slices.Delete(want.Flight, at, at+1)
		wantDo(t, fmt.Sprint("message ", at, ", to one that is down"), down, event(2, at), plainNote(want))
	}
	full := impl.RecNewWorld(2)
	full.Flight = manyMessages(600, 1, 2)
	full.Flight[599] = impl.RecMessage{Kind: impl.RecWished, From: 1, To: 2, Text: "w"}
	want := plainOf(full)
	want.Flight = want.Flight[:599]
	want.Recorders[1].Wishes = []string{"w"}
	wantDo(t, "the last of 600", full, event(2, 599), want)
}

// What is held by a message waits for the tick, whatever room the flight has.
func TestHeldIsNotInFlight(t *testing.T) {
	for _, many := range []int{0, 1, 598} {
		w := impl.RecNewWorld(2)
		w.Flight = append([]impl.RecMessage{{Kind: impl.RecPrepare, From: 1, To: 2, Ballot: 3}}, manyMessages(many, 2, 2)...)
		promised := impl.RecMessage{Kind: impl.RecPromised, From: 2, To: 1, Ballot: 3}
		want := plainOf(w)
		want.Flight = w.Flight[1:]
		want.Recorders[1].Disk.Promise, want.Recorders[1].Held = 3, []impl.RecMessage{promised}
		wantDo(t, "brought", w, event(2, 0), want)
		then := plainOf(want)
		then.Flight = append(then.Flight, promised)
		then.Recorders[0].Heard = 1
		then.Recorders[1] = impl.Recorder{Number: 2, Of: 2, Up: true, Safe: disk(3, 0), Disk: disk(3, 0), Heard: 1}
		wantDo(t, "ticked", want, event(1, 0), then)
	}
}

func TestDoubleAndLose(t *testing.T) {
	for _, many := range []int{3, 4, 598, 599, 600} {
		w := busy()
		w.Flight = append(w.Flight, manyMessages(many-3, 1, 3)...)
		for _, at := range []int{0, 1, 2, many - 1} {
			want := plainOf(w)
			if many < 600 {
				want.Flight = append(want.Flight, plainOf(want.Flight[at]))
			}
			wantDo(t, fmt.Sprintf("%d doubled of %d", at, many), w, event(3, at), want)
			want = plainOf(w)
			want.Flight = slices.Delete(want.Flight, at, at+1)
			wantDo(t, fmt.Sprintf("%d lost of %d", at, many), w, event(4, at), want)
		}
	}
	w := impl.RecNewWorld(1)
	w.Flight = []impl.RecMessage{message(1, 1, 1)}
	want := impl.RecNewWorld(1)
	wantDo(t, "the only one lost", w, event(4, 0), want)
	want.Flight = []impl.RecMessage{message(1, 1, 1), message(1, 1, 1)}
	wantDo(t, "the only one doubled", w, event(3, 0), want)
}

func TestFallRiseAndWish(t *testing.T) {
	for what, w := range map[string]impl.RecWorld{"busy": busy(), "down": downAll(busy()), "new": impl.RecNewWorld(5), "one": impl.RecNewWorld(1)} {
		for at, r := range w.Recorders {
			for _, e := range []impl.RecEvent{event(5, at), event(6, at), {Kind: 5, A: at, Text: "t"}, {Kind: 7, A: at, Text: "t"}, {Kind: 7, A: at, Text: "w"},
				event(7, at), {Kind: 7, A: at, Text: long(100)}, {Kind: 7, A: at, Text: long(101)}} {
				want := plainOf(w)
				want.Recorders[at] = map[int]impl.Recorder{5: impl.RecFall(r), 6: impl.RecRise(r), 7: impl.RecWish(r, e.Text)}[e.Kind]
				wantDo(t, fmt.Sprintf("%s: %+v", what, e), w, e, want)
			}
		}
	}
	w := impl.RecNewWorld(2)
	w.Recorders[1].Wishes = []string{"first"}
	want := plainOf(w)
	want.Recorders[1].Wishes = []string{"first", "second"}
	wantDo(t, "a second wish", w, impl.RecEvent{Kind: impl.RecEvWish, A: 1, Text: "second"}, want)
	want = impl.RecNewWorld(2)
	want.Recorders[1].Up = false
	wantDo(t, "a fall", w, event(impl.RecEvFall, 1), want)
	wantDo(t, "a rise", want, event(impl.RecEvRise, 1), impl.RecNewWorld(2))
}

// Nothing happens: another Kind, a message or a recorder that is not there.
func TestNothingHappens(t *testing.T) {
	places := []int{math.MinInt, -1, 0, 1, 2, 3, 4, 5, 599, 600, math.MaxInt}
	full := busy()
	full.Flight = manyMessages(600, 1, 3)
	for what, w := range map[string]impl.RecWorld{"busy": busy(), "full": full, "new": impl.RecNewWorld(5), "one": impl.RecNewWorld(1)} {
		for kind, there := range map[int]int{math.MinInt: 0, -1: 0, 0: 0, 8: 0, 9: 0, 11: 0, 12: 0, math.MaxInt: 0,
			2: len(w.Flight), 3: len(w.Flight), 4: len(w.Flight), 5: len(w.Recorders), 6: len(w.Recorders), 7: len(w.Recorders)} {
			for _, a := range places {
				if a < 0 || a >= there {
					wantDo(t, fmt.Sprintf("%s: kind %d of %d", what, kind, a), w, impl.RecEvent{Kind: kind, A: a, Text: "t"}, w)
				}
			}
		}
	}
}

func TestKindsOfEvents(t *testing.T) {
	kinds := []int{impl.RecEvTick, impl.RecEvBring, impl.RecEvDouble, impl.RecEvLose, impl.RecEvFall, impl.RecEvRise, impl.RecEvWish}
	if !slices.Equal(kinds, []int{1, 2, 3, 4, 5, 6, 7}) || impl.RecMaxFlight != 600 || impl.RecMaxCalm != 1000 {
		t.Error(kinds, impl.RecMaxFlight, impl.RecMaxCalm)
	}
}
