package tests

import (
	"fmt"
	"math"
	"slices"
	"testing"

	"loop.example/wharflog/impl"
)

// twins are two calls of one Client and Number, with different writes of one print: whichever comes second is answered as if it
// were the first again.
func twins(client string) []impl.BookCall {
	return []impl.BookCall{one(client, 1, create("x", "dX.jxRr05I6", "")), one(client, 1, create("x", "x9z9z8d5PR9", ""))}
}

func TestTwinsAreTwins(t *testing.T) {
	a, b := twins("ann")[0], twins("ann")[1]
	if plainPrint(a.Bundle) != plainPrint(b.Bundle) || same(a, b) || rawCall(a) == rawCall(b) {
		t.Errorf("%+v %+v", a, b)
	}
	wantSaid(t, "the second of twins", formsOf(a, b), rawCall(b), saidTold{again(0, 1), true})
	wantSaid(t, "the second of twins", []string{rawCall(b), "", rawCall(a)}, rawCall(a), saidTold{again(0, 1), true})
}

// heardBy is a world in which the call at a place has heard this, by the event that comes next.
func heardBy(w impl.LogWorld, place int, s impl.BookSaid) impl.LogWorld {
	w = later(w)
	w.Asked[place].To, w.Asked[place].Said = w.Now, s
	return w
}

// Court: the first recorder knows ann's call and bob's, the second one ann's, and the third is down. Ann has heard already.
func TestLogHearAtCourt(t *testing.T) {
	w := court()
	for _, at := range placesOf(3) {
		for _, place := range append(placesOf(4), 2) {
			if at != 0 || place != 1 {
				wantNothingMore(t, fmt.Sprintf("%d from %d", place, at), w, hearingAt(at, place))
			}
		}
	}
	wantLogDo(t, "bob from the first", w, hearingAt(0, 1), heardBy(w, 1, said(0, 2)))
	for what, change := range map[string]func(e *impl.LogEvent){
		"a call": func(e *impl.LogEvent) { e.Call = courtCalls()[2] }, "another call": func(e *impl.LogEvent) { e.Call = one("eve", 1, end("x")) }, "no call": func(e *impl.LogEvent) { e.Call = one("", -1, end("")) },
	} {
		e := hearingAt(0, 1)
		change(&e)
		wantLogDo(t, "bob from the first, and "+what, w, e, heardBy(w, 1, said(0, 2)))
	}
}

// One that is answered stays as it is, whatever it was said, and whoever would say something else.
func TestLogHearTwice(t *testing.T) {
	w := court()
	for _, s := range []impl.BookSaid{said(0, 2), said(0, 0), said(7, 3), again(4, 0)} {
		for _, to := range []int{4, 8, 9} {
			w.Asked[1].To, w.Asked[1].Said = to, s
			wantNothingMore(t, "answered", w, hearingAt(0, 1))
		}
	}
	once := impl.LogDo(court(), hearingAt(0, 1))
	wantNothingMore(t, "heard a moment ago", once, hearingAt(0, 1))
	if got := impl.LogDo(once, hearingAt(0, 1)); got.Asked[1].To != 10 || got.Now != 11 {
		t.Errorf("%+v", got.Asked[1])
	}
}

// Who is down tells nothing; who is up tells what it knows, and neither what it took, nor what is fixed, nor what is safe.
func TestLogHearOfRecorders(t *testing.T) {
	ann := one("ann", 1, create("x", "", ""))
	form := rawCall(ann)
	waiting := []impl.LogAsked{{Call: ann, From: 2}}
	for what, c := range map[string]struct {
		change func(r *impl.Recorder)
		hears  bool
	}{
		"knows it":                      {func(r *impl.Recorder) {}, true},
		"down":                          {func(r *impl.Recorder) { r.Up = false }, false},
		"took it":                       {func(r *impl.Recorder) { r.Disk.Known = 1 }, false},
		"knows nothing":                 {func(r *impl.Recorder) { r.Disk.Known = 0 }, false},
		"has nothing":                   {func(r *impl.Recorder) { r.Disk = impl.RecDisk{} }, false},
		"has it safe, and another one":  {func(r *impl.Recorder) { r.Disk.Slots[1].Text = "b" }, false},
		"knows it, and it is not safe":  {func(r *impl.Recorder) { r.Safe = impl.RecDisk{} }, true},
		"knows it, and another is safe": {func(r *impl.Recorder) { r.Safe.Slots[1].Text = "b" }, true},
		"wishes it": {func(r *impl.Recorder) {
			r.Disk, r.Wishes = impl.RecDisk{}, []string{form}
		}, false},
		"knows it twice": {func(r *impl.Recorder) { r.Disk = disk(4, 3, takenUnder(2, form, "b", form)...) }, true},
	} {
		w := counted(3, 5, waiting, "a", form)
		c.change(&w.Rec.Recorders[1])
		if c.hears {
			wantLogDo(t, what, w, hearingAt(1, 0), heardBy(w, 0, said(0, 1)))
		} else {
			wantNothingMore(t, what, w, hearingAt(1, 0))
		}
		wantLogDo(t, what+", but another one is asked", w, hearingAt(2, 0), heardBy(w, 0, said(0, 1)))
		w.Rec.Fixed = nil
		wantLogDo(t, what+", but another one is asked, and nothing is fixed", w, hearingAt(2, 0), heardBy(w, 0, said(0, 1)))
	}
}

// What is said: by the book behind the texts ahead, where the text stands first.
func TestLogHearAnswers(t *testing.T) {
	ann, bob := one("ann", 1, create("x", "1", "h")), one("bob", 3, seen(1, update("x", "2")))
	late, other, stale := one("bob", 2, end("x")), one("ann", 1, end("x")), one("cy", 1, seen(1, end("x")))
	gone1, ended, twice := one("cy", 2, update("none", "")), one("cy", 3, end("x")), one("cy", 4, hold("x", "h"))
	texts := formsOf(ann, bob, late, other, stale, gone1, ended, twice)
	texts = append([]string{"", "no call"}, texts...)
	texts = slices.Concat(texts, formsOf(ann, twins("ann")[0], bob))
	var waiting []impl.LogAsked
	for _, c := range []impl.BookCall{twice, ended, gone1, stale, other, late, bob, ann, twins("ann")[0], one("eve", 1, end("x"))} {
		waiting = append(waiting, impl.LogAsked{Call: c, From: len(waiting)})
	}
	w := counted(2, 10, waiting, texts...)
	w.Rec.Recorders[0].Disk.Known = 6
	for place, s := range []impl.BookSaid{said(5, 0), said(0, 3), said(3, 0), said(4, 0), said(7, 0), said(8, 0), said(0, 2), said(0, 1), said(7, 0)} {
		wantLogDo(t, "from one that knows all", w, hearingAt(1, place), heardBy(w, place, s))
		if place >= 4 && place <= 7 {
			wantLogDo(t, "from one that knows a beginning", w, hearingAt(0, place), heardBy(w, place, s))
		} else {
			wantNothingMore(t, "from one that knows a beginning", w, hearingAt(0, place))
		}
	}
	wantNothingMore(t, "one that nobody knows", w, hearingAt(1, 9))
}

// With Again: the second of two calls that have one print; and the code that the first one had.
func TestLogHearAgain(t *testing.T) {
	for first := range 2 {
		a, b := twins("ann")[first], twins("ann")[1-first]
		for _, made := range []bool{false, true} {
			calls, s := []impl.BookCall{a, b}, said(0, 1)
			if made {
				calls, s = append([]impl.BookCall{one("eve", 1, create("x", "", ""))}, calls...), said(3, 0)
			}
			w := counted(3, 6, []impl.LogAsked{{Call: b, From: 1}, {Call: a, From: 6}, {Call: one("eve", 1, create("x", "", ""))}}, formsOf(calls...)...)
			once := s
			once.Again = true
			wantLogDo(t, "the first", w, hearingAt(2, 1), heardBy(w, 1, s))
			wantLogDo(t, "the second", w, hearingAt(2, 0), heardBy(w, 0, once))
			both := impl.LogDo(impl.LogDo(w, hearingAt(2, 0)), hearingAt(0, 1))
			if !impl.LogRight(both) || !impl.LogRight(w) {
				t.Errorf("%+v has no history", both.Asked)
			}
			both.Asked[0].Said.Again = false
			if impl.LogRight(both) {
				t.Errorf("%+v has a history", both.Asked)
			}
		}
	}
}

// To is Now as it is behind the event, in worlds that are young and old.
func TestLogHearTimes(t *testing.T) {
	ann := one("ann", 1, create("x", "", ""))
	for _, now := range []int{0, 1, 2, 1000, math.MaxInt - 1} {
		for _, from := range []int{0, now / 2, now} {
			w := counted(1, now, []impl.LogAsked{{Call: ann, From: from}}, rawCall(ann))
			wantLogDo(t, fmt.Sprintf("From %d, Now %d", from, now), w, hearingAt(0, 0), heardBy(w, 0, said(0, 1)))
		}
	}
}

// By hand: a call from its asking to its answer, event by event.
func TestLogFromAskingToAnswer(t *testing.T) {
	ann := one("ann", 1, create("x", "", ""))
	w := impl.LogDo(impl.LogNew(1), askingAt(0, ann))
	heard := 0
	for w.Asked[0].To == 0 && w.Now < 100 {
		w = impl.LogDo(impl.LogDo(w, impl.LogEvent{Kind: impl.RecEvTick}), hearingAt(0, 0))
		heard++
	}
	// One alone tries at its eighth tick, leads at the ninth, at which it takes the wish, and knows it at the tenth.
	if heard != 10 || w.Now != 21 || w.Asked[0].To != 21 || w.Asked[0].From != 1 || w.Asked[0].Said != said(0, 1) {
		t.Errorf("%d: %+v", heard, w)
	}
}
