package tests

import (
	"fmt"
	"math"
	"reflect"
	"slices"
	"testing"

	"loop.example/wharflog/impl"
)

// The calls of court, in the order in which they were asked.
func courtCalls() []impl.BookCall {
	return []impl.BookCall{one("ann", 1, create("x", "v1", "")), one("bob", 1, seen(1, update("x", "v2"))), one("cy", 1, seen(1, update("x", "v3"))), one("dan", 4, end("x"))}
}

// formsOf are texts of recorders.
func formsOf(calls ...impl.BookCall) []string {
	var list []string
	for _, c := range calls {
		list = append(list, rawCall(c))
	}
	return list
}

// takenUnder are slots of one ballot.
func takenUnder(ballot int, texts ...string) []impl.RecSlot {
	var list []impl.RecSlot
	for _, text := range texts {
		list = append(list, slot(ballot, text))
	}
	return list
}

// court is a world of three: one that leads and knows ann's call and bob's, but not yet cy's, which it took; one that knows
// ann's alone, though it took bob's; and one that is down, and knows ann's. Ann has heard; bob, cy and dan have not.
func court() impl.LogWorld {
	c := courtCalls()
	forms := formsOf(c...)
	full, part := disk(4, 2, takenUnder(4, forms[:3]...)...), disk(4, 1, takenUnder(4, forms[:2]...)...)
	return impl.LogWorld{
		Rec: impl.RecWorld{
			Recorders: []impl.Recorder{
				{Number: 1, Of: 3, Up: true, Safe: plainOf(full), Disk: plainOf(full), Wishes: []string{"wish", forms[2]}, Lead: true, Ballot: 4, Acks: []impl.RecAck{{Index: 3, From: []int{1}}}, Heard: 2},
				{Number: 2, Of: 3, Up: true, Safe: disk(4, 0), Disk: part, Held: []impl.RecMessage{{Kind: impl.RecAccepted, From: 2, To: 1, Ballot: 4, Index: 2}}, Wishes: []string{forms[1]}},
				{Number: 3, Of: 3, Safe: plainOf(part), Disk: plainOf(part)},
			},
			Flight: []impl.RecMessage{{Kind: impl.RecAccepted, From: 2, To: 1, Ballot: 4, Index: 1}, {Kind: impl.RecBeat, From: 1, To: 2, Ballot: 4, Known: 2}, {Kind: impl.RecPromised, From: 3, To: 1, Ballot: 4, Slots: takenUnder(2, "p")}},
			Fixed:  []impl.RecFix{fix(1, forms[0]), fix(2, forms[1])},
		},
		Now:   9,
		Asked: []impl.LogAsked{{Call: c[0], From: 2, To: 7, Said: said(0, 1)}, {Call: c[1], From: 3}, {Call: c[2], From: 3}, {Call: c[3], From: 9}},
	}
}

type logGiven struct {
	W impl.LogWorld
	E impl.LogEvent
}

func logDoOf(g logGiven) impl.LogWorld {
	return impl.LogDo(g.W, g.E)
}

func askingAt(at int, c impl.BookCall) impl.LogEvent {
	return impl.LogEvent{Kind: impl.LogAsk, A: at, Call: c}
}

func hearingAt(at, place int) impl.LogEvent {
	return impl.LogEvent{Kind: impl.LogHear, A: at, B: place}
}

// wantLog looks whether a world breaks just these sentences, and whether LogOk says so.
func wantLog(t *testing.T, what string, w impl.LogWorld, sentences ...string) {
	t.Helper()
	if broken := brokenLog(w); !reflect.DeepEqual(broken, sentences) {
		t.Errorf("%s: it breaks %q, and not %q", what, broken, sentences)
	}
	if got := impl.LogOk(w); got != (len(sentences) == 0) {
		t.Errorf("%s: ok is %v; it breaks %q", what, got, sentences)
	}
}

// wantLogDo looks at one event: what comes of it, that this is an ok world, and that all memory is kept.
func wantLogDo(t *testing.T, what string, w impl.LogWorld, e impl.LogEvent, want impl.LogWorld) {
	t.Helper()
	if broken := brokenLog(w); len(broken) > 0 {
		t.Errorf("%s: the case breaks %q", what, broken)
	}
	if plain := plainLogDo(w, e); !same(plain, want) {
		t.Errorf("%s: the plain one tells\n%+v and not\n%+v", what, plain, want)
	}
	got := impl.LogDo(w, e)
	if !same(got, want) {
		t.Errorf("%s:\n%+v and not\n%+v", what, got, want)
	}
	wantLog(t, what, got)
	listsKept(t, what, logGiven{w, e}, logDoOf)
}

// later is a world in which one more event has happened, and nothing has come of it.
func later(w impl.LogWorld) impl.LogWorld {
	w = plainOf(w)
	w.Now++
	return w
}

// wantNothingMore is about an event by which Now is one more, and that is all.
func wantNothingMore(t *testing.T, what string, w impl.LogWorld, e impl.LogEvent) {
	t.Helper()
	wantLogDo(t, what, w, e, later(w))
}

func TestKindsAndLimitsOfLogs(t *testing.T) {
	if impl.LogAsk != 11 || impl.LogHear != 12 || impl.LogMaxAsked != 12 || impl.LogMaxCalm != 1000 {
		t.Error(impl.LogAsk, impl.LogHear, impl.LogMaxAsked, impl.LogMaxCalm)
	}
}

func TestNewLogs(t *testing.T) {
	for _, n := range []int{math.MinInt, -5, -1, 0, 1, 2, 3, 4, 5, 6, 7, math.MaxInt} {
		got := impl.LogNew(n)
		if want := (impl.LogWorld{Rec: plainNewWorld(n)}); !same(got, want) || !same(got.Rec, impl.RecNewWorld(n)) {
			t.Errorf("%d: %+v", n, got)
		}
		if impl.LogOk(got) != (n >= 1 && n <= 5) {
			t.Errorf("%d: ok is %v", n, impl.LogOk(got))
		}
		if !apart(append(listSpans(got), listSpans(impl.LogNew(n))...)) {
			t.Errorf("%d: two worlds share memory", n)
		}
	}
}

// A logCase is court, changed, and the sentences that it breaks then.
type logCase struct {
	what   string
	change func(w *impl.LogWorld)
	breaks []string
}

// manyAsked are so many calls that were asked at 0.
func manyAsked(n int) []impl.LogAsked {
	var list []impl.LogAsked
	for i := range n {
		list = append(list, impl.LogAsked{Call: one(fmt.Sprintf("c%02d", i), 1, create(fmt.Sprint("x", i), "", ""))})
	}
	return list
}

func logsOfManyAsked() []logCase {
	has := func(list ...impl.LogAsked) func(w *impl.LogWorld) {
		return func(w *impl.LogWorld) { w.Asked = list }
	}
	return []logCase{
		{"as it is", func(w *impl.LogWorld) {}, nil},
		{"nothing", func(w *impl.LogWorld) { *w = impl.LogWorld{} }, breaks(lRec)},
		{"no recorders", func(w *impl.LogWorld) { w.Rec.Recorders = nil }, breaks(lRec)},
		{"nobody asked", has(), nil},
		{"Now 0", func(w *impl.LogWorld) { w.Now, w.Asked = 0, nil }, nil},
		{"Now 0, and all that there may be then", func(w *impl.LogWorld) { w.Now, w.Asked = 0, manyAsked(2) }, nil},
		{"Now -1", func(w *impl.LogWorld) { w.Now, w.Asked = -1, nil }, breaks(lNow)},
		{"Now -1, and somebody asked", func(w *impl.LogWorld) { w.Now, w.Asked = -1, manyAsked(1) }, breaks(lNow, lFrom)},
		{"the least Now", func(w *impl.LogWorld) { w.Now, w.Asked = math.MinInt, nil }, breaks(lNow)},
		{"the greatest Now", func(w *impl.LogWorld) { w.Now = math.MaxInt }, nil},
		{"11 calls", has(manyAsked(11)...), nil},
		{"12 calls", has(manyAsked(12)...), nil},
		{"13 calls", has(manyAsked(13)...), breaks(lMany)},
		{"100 calls", has(manyAsked(100)...), breaks(lMany)},
		{"13 calls, two of one form", has(append(manyAsked(12), manyAsked(1)...)...), breaks(lMany, lTwice)},
	}
}

// logsOfCalls have a call at the first place of court, at one in the midst, and at the last.
func logsOfCalls() []logCase {
	var list []logCase
	for what, c := range map[string]impl.BookCall{
		"nothing": {}, "no Client": one("", 1, end("x")), "a Client that is no name": one("Ann", 1, end("x")), "Number 0": one("ann", 0, end("x")), "a Number that is too great": one("ann", 1000001, end("x")),
		"no write": call("ann", 1, writes()), "two writes": call("ann", 1, writes(end("x"), end("y"))), "a want": call("ann", 1, but(writes(end("x")), want("x", 0))),
		"a write that is refused": one("ann", 1, impl.BookWrite{Op: 6, Kind: "k", Name: "x"}), "a Seen that is too great": one("ann", 1, seen(1000001, end("x"))),
		"a form of 101 bytes": one("ann", 1, create("x", long(83), "")),
	} {
		for _, at := range []int{0, 1, 3} {
			list = append(list, logCase{fmt.Sprintf("%s at %d", what, at), func(w *impl.LogWorld) { w.Asked[at].Call = c }, breaks(lForms)})
		}
	}
	is := func(what string, c impl.BookCall) logCase {
		return logCase{what, func(w *impl.LogWorld) { w.Asked[2].Call = c }, nil}
	}
	return append(list,
		is("a form of 100 bytes", one("ann", 1, create("x", long(82), ""))), is("one Client and Number, another text", one("ann", 1, create("x", "v2", ""))),
		is("one Client and Number, another hold", one("ann", 1, create("x", "v1", "h"))), is("one Client and Number, another Op", one("bob", 1, seen(1, end("x")))),
		is("one Client and Number, another Seen", one("bob", 1, update("x", "v2"))), is("one write, another Number", one("ann", 2, create("x", "v1", ""))), is("one write, another Client", one("amy", 1, create("x", "v1", ""))),
		logCase{"one Client, Number and print", func(w *impl.LogWorld) { w.Asked[0].Call, w.Asked[2].Call = twins("ann")[0], twins("ann")[1] }, nil},
		logCase{"none, twice", func(w *impl.LogWorld) { w.Asked[0].Call, w.Asked[3].Call = impl.BookCall{}, impl.BookCall{} }, breaks(lForms)},
	)
}

// logsOfOneForm have the call of one place at another.
func logsOfOneForm() []logCase {
	var list []logCase
	for at := range 4 {
		for from := range 4 {
			if at != from {
				list = append(list, logCase{fmt.Sprintf("the call of %d at %d", from, at), func(w *impl.LogWorld) { w.Asked[at].Call = plainOf(w.Asked[from].Call) }, breaks(lTwice)})
			}
		}
	}
	return append(list, logCase{"twelve, the last like the first", func(w *impl.LogWorld) {
		w.Asked = manyAsked(12)
		w.Asked[11].Call = w.Asked[0].Call
	}, breaks(lTwice)})
}

// logsOfTimes have other times and answers, at each place of court in turn; court's Now is 9.
func logsOfTimes() []logCase {
	var list []logCase
	for at := range 4 {
		is := func(from, to int, s impl.BookSaid, sentences ...string) {
			list = append(list, logCase{fmt.Sprintf("at %d: From %d, To %d, %+v", at, from, to, s), func(w *impl.LogWorld) {
				w.Asked[at].From, w.Asked[at].To, w.Asked[at].Said = from, to, s
			}, sentences})
		}
		nothing, done := said(0, 0), said(0, 3)
		is(0, 0, nothing)
		is(9, 0, nothing)
		is(-1, 0, nothing, lFrom)
		is(10, 0, nothing, lFrom)
		is(math.MinInt, 0, nothing, lFrom)
		is(math.MaxInt, 0, nothing, lFrom)
		is(5, 0, said(1, 0), lSaid)
		is(5, 0, said(0, 1), lSaid)
		is(5, 0, again(0, 0), lSaid)
		is(5, 0, said(-1, 0), lSaid)
		is(5, 0, said(0, -1), lSaid)
		is(0, 1, done)
		is(0, 9, done)
		is(0, 10, done, lTo)
		is(0, -1, done, lTo)
		is(0, math.MinInt, done, lTo)
		is(0, math.MaxInt, done, lTo)
		is(5, 4, done, lTo)
		is(5, 5, done, lTo)
		is(5, 6, done)
		is(5, 6, nothing)
		is(5, 9, again(4, 0))
		is(5, 9, again(-7, -7))
		is(5, 10, done, lTo)
		is(8, 9, done)
		is(9, 9, done, lTo)
		is(9, 10, done, lTo)
		is(9, 8, done, lTo)
		is(-1, -1, nothing, lFrom, lTo)
		is(-1, 1, done, lFrom)
		is(10, 11, done, lFrom, lTo)
	}
	return append(list,
		logCase{"the greatest From", func(w *impl.LogWorld) { w.Now, w.Asked[1].From = math.MaxInt, math.MaxInt }, nil},
		logCase{"the greatest From, and a To", func(w *impl.LogWorld) { w.Now, w.Asked[1].From, w.Asked[1].To = math.MaxInt, math.MaxInt, math.MaxInt }, breaks(lTo)},
		logCase{"the greatest From, and a small To", func(w *impl.LogWorld) { w.Now, w.Asked[1].From, w.Asked[1].To = math.MaxInt, math.MaxInt, 5 }, breaks(lTo)},
		logCase{"the greatest To", func(w *impl.LogWorld) {
			w.Now, w.Asked[1].From, w.Asked[1].To = math.MaxInt, math.MaxInt-1, math.MaxInt
		}, nil},
	)
}

// logsOfRecorders are court with each world of the recorders that has a case of its own.
func logsOfRecorders() []logCase {
	var list []logCase
	for _, c := range worldCases() {
		var sentences []string
		if len(c.breaks) > 0 {
			sentences = breaks(lRec)
		}
		list = append(list, logCase{"recorders: " + c.what, func(w *impl.LogWorld) {
			w.Rec = busy()
			c.change(&w.Rec)
		}, sentences})
	}
	return list
}

func logCases() []logCase {
	return slices.Concat(logsOfManyAsked(), logsOfCalls(), logsOfOneForm(), logsOfTimes(), logsOfRecorders())
}

func TestLogsThatAreOk(t *testing.T) {
	for _, c := range logCases() {
		w := court()
		c.change(&w)
		wantLog(t, c.what, w, c.breaks...)
		listsKept(t, c.what, w, impl.LogOk)
	}
}

// Each way to spoil a world, for each function that is given one.
func TestNothingOfLogsThatAreNotOk(t *testing.T) {
	for _, c := range logCases() {
		w := court()
		c.change(&w)
		if len(c.breaks) == 0 {
			continue
		}
		for kind := -1; kind <= 13; kind++ {
			if got := impl.LogDo(w, impl.LogEvent{Kind: kind, B: 1, Call: one("eve", 1, end("x"))}); !same(got, impl.LogWorld{}) {
				t.Errorf("%s: kind %d gives %+v", c.what, kind, got)
			}
		}
		for _, rounds := range []int{-1, 0, 1, 2, 1000, 1001} {
			if got := impl.LogCalm(w, rounds); !same(got, impl.LogWorld{}) {
				t.Errorf("%s: %d rounds give %+v", c.what, rounds, got)
			}
		}
		if fixed, history, right := impl.LogFixed(w), impl.LogHistory(w), impl.LogRight(w); len(fixed) > 0 || len(history) > 0 || right {
			t.Errorf("%s: %q is fixed, %+v was heard, right is %v", c.what, fixed, history, right)
		}
	}
}

// placesOf are the edges of a list.
func placesOf(n int) []int {
	return []int{math.MinInt, -1, 0, 1, n - 1, n, n + 1, math.MaxInt}
}

// Kinds 1 to 6 are the recorders' own; nothing of B or Call is looked at.
func TestLogMoves(t *testing.T) {
	fallen := court()
	fallen.Rec = downAll(fallen.Rec)
	late := court()
	late.Asked = manyAsked(12)
	for what, w := range map[string]impl.LogWorld{"court": court(), "all down": fallen, "twelve asked": late, "new": impl.LogNew(5), "one": impl.LogNew(1)} {
		for kind := 1; kind <= 6; kind++ {
			for _, a := range append(placesOf(len(w.Rec.Recorders)), placesOf(len(w.Rec.Flight))...) {
				want := later(w)
				want.Rec = plainRecDo(w.Rec, event(kind, a))
				for _, e := range []impl.LogEvent{{}, {B: 1}, {B: -1, Call: courtCalls()[1]}, {B: 99, Call: one("eve", 1, end("x"))}, {Call: one("", 0, end(""))}} {
					e.Kind, e.A = kind, a
					wantLogDo(t, fmt.Sprintf("%s: %+v", what, e), w, e, want)
				}
				if !same(want.Rec, impl.RecDo(w.Rec, event(kind, a))) {
					t.Errorf("%s: kind %d of %d is not what RecDo gives", what, kind, a)
				}
			}
		}
	}
}

// Other Kinds are none, a wish of the recorders among them.
func TestLogKindsThatAreNone(t *testing.T) {
	for what, w := range map[string]impl.LogWorld{"court": court(), "new": impl.LogNew(5), "one": impl.LogNew(1)} {
		for _, kind := range []int{math.MinInt, -12, -11, -1, 0, 7, 8, 9, 10, 13, 14, 100, 1 << 8, 11 + 1<<8, 11 + 1<<32, math.MaxInt} {
			for _, a := range placesOf(len(w.Rec.Recorders)) {
				wantNothingMore(t, fmt.Sprintf("%s: kind %d of %d", what, kind, a), w, impl.LogEvent{Kind: kind, A: a, B: 1, Call: one("eve", 1, end("x"))})
			}
		}
	}
}

// counted is a world in which nothing is but n recorders, with calls that were asked and texts that each one knows.
func counted(n, now int, asked []impl.LogAsked, texts ...string) impl.LogWorld {
	w := impl.LogNew(n)
	w.Now, w.Asked = now, asked
	for i := range w.Rec.Recorders {
		w.Rec.Recorders[i].Safe = disk(4, len(texts), takenUnder(4, texts...)...)
		w.Rec.Recorders[i].Disk = disk(4, len(texts), takenUnder(4, texts...)...)
	}
	for i, text := range texts {
		w.Rec.Fixed = append(w.Rec.Fixed, fix(i+1, text))
	}
	return w
}

// A new call is put behind the others, with Now as it is behind the event, and its form is the wish of the one recorder alone.
func TestLogAskOfNewCalls(t *testing.T) {
	eve := one("eve", 1, create("y", "t u", "h"))
	for n := 1; n <= 5; n++ {
		for _, now := range []int{0, 1, 7} {
			for _, a := range placesOf(n) {
				w := counted(n, now, nil)
				want := later(w)
				if a >= 0 && a < n {
					want.Asked = []impl.LogAsked{{Call: eve, From: now + 1}}
					want.Rec.Recorders[a].Wishes = []string{`eve 1 1 k y 0 h "t u"`}
				}
				wantLogDo(t, fmt.Sprintf("at %d of %d, Now %d", a, n, now), w, askingAt(a, eve), want)
			}
		}
	}
	for at, wishes := range [][]string{{"wish", rawCall(courtCalls()[2]), rawCall(eve)}, {rawCall(courtCalls()[1]), rawCall(eve)}, nil} {
		want := later(court())
		want.Asked = append(want.Asked, impl.LogAsked{Call: eve, From: 10})
		want.Rec.Recorders[at].Wishes = wishes
		wantLogDo(t, fmt.Sprint("court, at ", at), court(), askingAt(at, eve), want)
	}
	for _, b := range placesOf(4) {
		e := askingAt(0, eve)
		e.B = b
		if got := impl.LogDo(court(), e); !same(got, impl.LogDo(court(), askingAt(0, eve))) {
			t.Errorf("B %d is looked at: %+v", b, got)
		}
	}
}

func TestLogAskOfCallsWithoutForms(t *testing.T) {
	eve := one("eve", 1, create("y", "t", "h"))
	calls := []impl.BookCall{{}, call("eve", 1, writes()), call("eve", 1, writes(end("x"), end("x"))), call("eve", 1, but(writes(end("x")), want("x", 0))),
		one("eve", 1, impl.BookWrite{Op: 0, Kind: "k", Name: "x"}), one("eve", 1, create("y", long(83), "")), one("eve", 0, end("x")), one("Eve", 1, end("x")), one("eve", 1, seen(1000001, end("x"))), one("ann", 1, seen(1, create("x", "v1", "")))}
	for _, c := range calls {
		for at := range 3 {
			wantNothingMore(t, fmt.Sprintf("%+v", c), court(), askingAt(at, c))
		}
		wantNothingMore(t, "where there is no room", counted(2, 3, manyAsked(12)), askingAt(1, c))
	}
	for _, c := range []impl.BookCall{eve, one("eve", 1, create("y", long(82), "")), one("eve", 1000000, seen(1000000, end("x")))} {
		if got := impl.LogDo(court(), askingAt(1, c)); len(got.Asked) != 5 {
			t.Errorf("%+v was not put in", c)
		}
	}
}

// A call that was asked already is not put in again, and its times stay; its form is a wish again where it is none and is not known.
func TestLogAskAgain(t *testing.T) {
	calls := courtCalls()
	forms := formsOf(calls...)
	for place, c := range calls {
		for at := range 3 {
			want := later(court())
			r := &want.Rec.Recorders[at]
			known := map[int]int{0: 2, 1: 1, 2: 1}[at]
			if r.Up && place >= known && !slices.Contains(r.Wishes, forms[place]) {
				r.Wishes = append(r.Wishes, forms[place])
			}
			wantLogDo(t, fmt.Sprintf("call %d at %d", place, at), court(), askingAt(at, c), want)
		}
	}
	// By hand: first asked at one, then at the other, then at the first again, which had fallen since.
	ann := calls[0]
	w := impl.LogNew(2)
	for i, e := range []impl.LogEvent{askingAt(0, ann), askingAt(1, ann), askingAt(0, ann), {Kind: impl.RecEvFall, A: 0}, askingAt(0, ann), {Kind: impl.RecEvRise, A: 0}, askingAt(0, ann)} {
		w = impl.LogDo(w, e)
		first, second := w.Rec.Recorders[0].Wishes, w.Rec.Recorders[1].Wishes
		wishes := [][2]int{{1, 0}, {1, 1}, {1, 1}, {0, 1}, {0, 1}, {0, 1}, {1, 1}}[i]
		if w.Now != i+1 || len(w.Asked) != 1 || w.Asked[0].From != 1 || w.Asked[0].To != 0 || len(first) != wishes[0] || len(second) != wishes[1] {
			t.Errorf("event %d: %+v", i, w)
		}
	}
}

// Two calls of one Client and Number with different writes are two calls.
func TestLogAskOfOtherWrites(t *testing.T) {
	for _, c := range []impl.BookCall{one("ann", 1, create("x", "v2", "")), one("ann", 1, create("x", "v1", "h")), one("ann", 1, end("x")), one("ann", 2, create("x", "v1", "")), one("amy", 1, create("x", "v1", ""))} {
		want := later(court())
		want.Asked = append(want.Asked, impl.LogAsked{Call: c, From: 10})
		want.Rec.Recorders[1].Wishes = append(want.Rec.Recorders[1].Wishes, rawCall(c))
		wantLogDo(t, rawCall(c), court(), askingAt(1, c), want)
	}
}

// The call that fills the room, and the one behind it, of which no wish is made; those that are in are asked again all the same.
func TestLogAskWhereThereIsNoRoom(t *testing.T) {
	eve, form := one("eve", 1, end("x")), `eve 1 3 k x 0 * ""`
	for n := 9; n <= 12; n++ {
		w := counted(2, 3, manyAsked(n))
		want := later(w)
		if n < 12 {
			want.Asked = append(want.Asked, impl.LogAsked{Call: eve, From: 4})
			want.Rec.Recorders[1].Wishes = []string{form}
		}
		wantLogDo(t, fmt.Sprint(n, " and one more"), w, askingAt(1, eve), want)
		for place, a := range w.Asked {
			want := later(w)
			want.Rec.Recorders[0].Wishes = []string{rawCall(a.Call)}
			wantLogDo(t, fmt.Sprintf("%d, and the one at %d again", n, place), w, askingAt(0, a.Call), want)
			w.Asked[place].To, w.Asked[place].Said = 3, said(0, 1)
			want.Asked[place].To, want.Asked[place].Said = 3, said(0, 1)
			wantLogDo(t, fmt.Sprintf("%d, and the one at %d again, which was answered", n, place), w, askingAt(0, a.Call), want)
		}
	}
}

// A recorder that is down, that has no room for a wish, that has the wish, or that knows the call: it is put in, and that is all.
func TestLogAskWithoutAWish(t *testing.T) {
	eve, form := one("eve", 1, end("x")), `eve 1 3 k x 0 * ""`
	down, full, wishes, knows, took := impl.LogNew(2), impl.LogNew(2), impl.LogNew(2), counted(2, 0, nil, "a", form), impl.LogNew(2)
	down.Rec.Recorders[1].Up = false
	full.Rec.Recorders[1].Wishes = manyWishes(20)
	wishes.Rec.Recorders[1].Wishes = []string{"a", form, "b"}
	for what, w := range map[string]impl.LogWorld{"down": down, "full": full, "wishes it": wishes, "knows it": knows} {
		want := later(w)
		want.Asked = []impl.LogAsked{{Call: eve, From: 1}}
		wantLogDo(t, what, w, askingAt(1, eve), want)
		wantLogDo(t, what+", asked again", want, askingAt(1, eve), later(want))
	}
	took.Rec.Recorders[1].Disk = disk(4, 1, takenUnder(4, "a", form)...)
	full.Rec.Recorders[1].Wishes = manyWishes(19)
	for what, w := range map[string]impl.LogWorld{"took it, and does not know it": took, "nearly full": full} {
		want := later(w)
		want.Asked = []impl.LogAsked{{Call: eve, From: 1}}
		want.Rec.Recorders[1].Wishes = append(want.Rec.Recorders[1].Wishes, form)
		wantLogDo(t, what, w, askingAt(1, eve), want)
	}
}

// What is behind the end of a call's lists is neither looked at nor kept.
func TestLogAskKeepsNothingOfTheCall(t *testing.T) {
	room := []impl.BookWrite{end("x"), end("y"), end("z")}
	c := call("eve", 1, impl.BookBundle{Wants: make([]impl.BookWant, 0, 3), Writes: room[:1]})
	w := impl.LogDo(impl.LogNew(3), askingAt(1, c))
	if want := (impl.LogAsked{Call: one("eve", 1, end("x")), From: 1}); len(w.Asked) != 1 || !same(w.Asked[0], want) {
		t.Fatalf("%+v", w.Asked)
	}
	if !apart(append(listSpans(w), listSpans(c)...)) {
		t.Error("the world and the call share memory")
	}
	room[0].Name = "changed"
	if w.Asked[0].Call.Bundle.Writes[0].Name != "x" {
		t.Error("the call changes behind its asking")
	}
	_ = append(w.Asked[0].Call.Bundle.Writes, end("put behind"))
	_ = append(w.Asked[0].Call.Bundle.Wants, want("put behind", 0))
	if room[1].Name != "y" || c.Bundle.Wants[:1][0].Name != "" {
		t.Error("the call's room was written into")
	}
}
