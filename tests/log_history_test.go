package tests

import (
	"fmt"
	"math"
	"slices"
	"testing"

	"loop.example/wharflog/impl"
)

// wantHistory looks at what is fixed in a world, at what was heard, and whether that is right; and at the memory of all.
func wantHistory(t *testing.T, what string, w impl.LogWorld, history []impl.BookHeard, right bool) {
	t.Helper()
	if broken := brokenLog(w); len(broken) > 0 {
		t.Errorf("%s: the case breaks %q", what, broken)
	}
	if plain := plainHistory(w); !same(plain, history) || plainRight(w) != right {
		t.Errorf("%s: the plain one tells\n%+v and not\n%+v, which is right: %v", what, plain, history, !right)
	}
	if got, want := impl.LogFixed(w), plainLogFixed(w); !slices.Equal(got, want) {
		t.Errorf("%s: %q is fixed, and not %q", what, got, want)
	}
	if got := impl.LogHistory(w); !same(got, history) {
		t.Errorf("%s:\n%+v and not\n%+v", what, got, history)
	}
	if got := impl.LogRight(w); got != right {
		t.Errorf("%s: it is right: %v", what, got)
	}
	historyKept(t, what, w)
}

// historyKept is about memory alone.
func historyKept(t *testing.T, what string, w impl.LogWorld) {
	t.Helper()
	listsKept(t, what, w, impl.LogFixed)
	listsKept(t, what, w, impl.LogHistory)
	listsKept(t, what, w, impl.LogRight)
}

// heardAs is a call with its times and what it was said.
func heardAs(c impl.BookCall, from, to int, s impl.BookSaid) impl.BookHeard {
	return impl.BookHeard{From: from, To: to, Call: c, Said: s}
}

// heardAt and waits are the same among those that were asked.
func heardAt(c impl.BookCall, from, to int, s impl.BookSaid) impl.LogAsked {
	return impl.LogAsked{Call: c, From: from, To: to, Said: s}
}

func waits(c impl.BookCall, from int) impl.LogAsked {
	return impl.LogAsked{Call: c, From: from}
}

func TestLogFixed(t *testing.T) {
	ann := rawCall(courtCalls()[0])
	var all []string
	for _, f := range manyFixed(60) {
		all = append(all, f.Text)
	}
	for _, c := range []struct {
		what  string
		fixed []impl.RecFix
		want  []string
	}{
		{"nothing", nil, nil},
		{"place 1", []impl.RecFix{fix(1, "a")}, []string{"a"}},
		{"place 1 missing", []impl.RecFix{fix(2, "a")}, nil},
		{"place 1 missing, of many", manyFixed(60)[1:], nil},
		{"places 1 to 3", []impl.RecFix{fix(1, "a"), fix(2, "b"), fix(3, "c")}, []string{"a", "b", "c"}},
		{"place 2 missing", []impl.RecFix{fix(1, "a"), fix(3, "c"), fix(4, "d")}, []string{"a"}},
		{"place 3 missing", []impl.RecFix{fix(1, "a"), fix(2, "b"), fix(4, "d"), fix(5, "e")}, []string{"a", "b"}},
		{"two places missing", []impl.RecFix{fix(1, "a"), fix(2, "b"), fix(5, "e")}, []string{"a", "b"}},
		{"two gaps", []impl.RecFix{fix(1, "a"), fix(3, "c"), fix(5, "e"), fix(6, "f")}, []string{"a"}},
		{"the last place alone", []impl.RecFix{fix(60, "z")}, nil},
		{"all places", manyFixed(60), all},
		{"all places but the last", manyFixed(59), all[:59]},
		{"all places but the one ahead of the last", append(manyFixed(58), fix(60, "z")), all[:58]},
		{"empty texts", []impl.RecFix{fix(1, ""), fix(2, ""), fix(3, "c"), fix(4, "")}, []string{"", "", "c", ""}},
		{"one text at several places", []impl.RecFix{fix(1, ann), fix(2, ann), fix(4, ann)}, []string{ann, ann}},
		{"texts that are no calls, and one that is", []impl.RecFix{fix(1, long(100)), fix(2, ann), fix(3, "\xff\x00")}, []string{long(100), ann, "\xff\x00"}},
	} {
		for _, w := range []impl.LogWorld{impl.LogNew(1), impl.LogNew(5), court()} {
			w.Rec.Fixed = c.fixed
			if got, plain := impl.LogFixed(w), plainLogFixed(w); !slices.Equal(got, c.want) || !slices.Equal(plain, c.want) {
				t.Errorf("%s: %q and %q, and not %q", c.what, got, plain, c.want)
			}
			historyKept(t, c.what, w)
		}
	}
}

// What recorders know, took or wish is not fixed by that.
func TestLogFixedIsWhatIsFixed(t *testing.T) {
	w := counted(3, 4, nil, "a", "b")
	w.Rec.Fixed = nil
	if got := impl.LogFixed(w); len(got) != 0 {
		t.Errorf("%q", got)
	}
	w.Rec.Fixed = []impl.RecFix{fix(1, "other")}
	if got := impl.LogFixed(w); !slices.Equal(got, []string{"other"}) {
		t.Errorf("%q", got)
	}
}

// Court: ann heard, bob's call is fixed and he has not heard, cy's and dan's are not fixed.
func TestLogHistoryOfCourt(t *testing.T) {
	c := courtCalls()
	ann, bob := heardAs(c[0], 2, 7, said(0, 1)), heardAs(c[1], 3, 10, said(0, 2))
	w := court()
	wantHistory(t, "court", w, []impl.BookHeard{ann, bob}, true)
	w.Rec.Fixed = w.Rec.Fixed[:1]
	wantHistory(t, "bob's is not fixed", w, []impl.BookHeard{ann}, true)
	w.Rec.Fixed = nil
	wantHistory(t, "nothing is fixed", w, []impl.BookHeard{ann}, true)
	w.Rec.Fixed = []impl.RecFix{fix(1, rawCall(c[0])), fix(3, rawCall(c[1]))}
	wantHistory(t, "bob's is fixed behind a place that is missing", w, []impl.BookHeard{ann}, true)
	w.Rec.Fixed = []impl.RecFix{fix(2, rawCall(c[0])), fix(3, rawCall(c[1]))}
	wantHistory(t, "the first place is missing", w, []impl.BookHeard{ann}, true)
	w = court()
	w.Rec.Fixed = append(w.Rec.Fixed, fix(3, rawCall(c[3])), fix(4, rawCall(c[2])))
	wantHistory(t, "all is fixed", w, []impl.BookHeard{ann, bob, heardAs(c[2], 3, 10, said(3, 0)), heardAs(c[3], 9, 10, said(0, 3))}, true)
	w = impl.LogDo(w, hearingAt(0, 1))
	wantHistory(t, "bob hears", w, []impl.BookHeard{ann, heardAs(c[1], 3, 10, said(0, 2)), heardAs(c[2], 3, 11, said(3, 0)), heardAs(c[3], 9, 11, said(0, 3))}, true)
}

// What was heard is told as it was heard, whatever is fixed.
func TestLogHistoryOfWhatWasHeard(t *testing.T) {
	ann := one("ann", 1, create("x", "", ""))
	for _, s := range []impl.BookSaid{said(0, 1), said(0, 0), said(3, 0), said(0, 9), again(0, 1), said(-1, -1)} {
		for _, texts := range [][]string{nil, {"a"}, {rawCall(ann)}, {rawCall(one("bob", 1, create("x", "", ""))), rawCall(ann)}} {
			w := counted(2, 6, []impl.LogAsked{heardAt(ann, 2, 4, s)}, texts...)
			wantHistory(t, fmt.Sprintf("%+v, %q", s, texts), w, []impl.BookHeard{heardAs(ann, 2, 4, s)}, s == said(0, 1))
		}
	}
}

// The order is that of Asked, whatever that of the places is; a text counts where it stands first.
func TestLogHistoryOrder(t *testing.T) {
	ann, bob, cy := one("ann", 1, create("x", "", "")), one("bob", 1, update("x", "2")), one("cy", 1, end("x"))
	w := counted(2, 6, []impl.LogAsked{waits(cy, 3), waits(ann, 2), waits(bob, 0)}, rawCall(ann), "", rawCall(bob), rawCall(ann), rawCall(cy), rawCall(bob))
	wantHistory(t, "others in Asked", w, []impl.BookHeard{heardAs(cy, 3, 7, said(0, 3)), heardAs(ann, 2, 7, said(0, 1)), heardAs(bob, 0, 7, said(0, 2))}, true)
	w.Asked[1], w.Asked[2] = heardAt(ann, 2, 4, said(0, 1)), heardAt(bob, 0, 6, said(0, 2))
	wantHistory(t, "two have heard", w, []impl.BookHeard{heardAs(cy, 3, 7, said(0, 3)), heardAs(ann, 2, 4, said(0, 1)), heardAs(bob, 0, 6, said(0, 2))}, true)
	w = counted(2, 0, []impl.LogAsked{waits(bob, 0), waits(one("eve", 1, end("y")), 0), waits(cy, 0)}, rawCall(cy), rawCall(bob))
	wantHistory(t, "one in the midst is not fixed", w, []impl.BookHeard{heardAs(bob, 0, 1, said(3, 0)), heardAs(cy, 0, 1, said(3, 0))}, true)
}

// Each code that an answer may have, also of those that nobody heard.
func TestLogHistoryCodes(t *testing.T) {
	a, b := twins("ann")[0], twins("ann")[1]
	calls := []impl.BookCall{a, b, one("ann", 1, end("x")), one("bob", 2, seen(1, update("x", "2"))), one("bob", 1, end("x")), one("cy", 1, seen(1, end("x"))), one("dan", 1, hold("x", "h")), one("eve", 1, hold("x", "h")), one("fay", 1, end("x")), one("gus", 1, update("x", "3")), one("hal", 1, create("x", "", "")), one("ida", 1, letGo("y", "h"))}
	codes := []impl.BookSaid{said(0, 1), again(0, 1), said(7, 0), said(0, 2), said(8, 0), said(4, 0), said(0, 3), said(6, 0), said(0, 4), said(5, 0), said(3, 0), said(3, 0)}
	var history []impl.BookHeard
	var waiting []impl.LogAsked
	for i, c := range calls {
		history = append(history, heardAs(c, i, 13, codes[i]))
		waiting = append(waiting, waits(c, i))
	}
	w := counted(1, 12, waiting, formsOf(calls...)...)
	wantHistory(t, "twelve, and nobody heard", w, history, true)
	for i := range calls {
		w.Asked[i].To, w.Asked[i].Said = 12, codes[i]
		history[i].To = 12
	}
	wantHistory(t, "twelve, and all heard", w, history, true)
}

func TestLogHistoryOfNobody(t *testing.T) {
	wantHistory(t, "new", impl.LogNew(1), nil, true)
	wantHistory(t, "new", impl.LogNew(5), nil, true)
	wantHistory(t, "texts that nobody asked", counted(3, 5, nil, "a", rawCall(courtCalls()[0])), nil, true)
	wantHistory(t, "calls that nobody knows", counted(3, 5, manyAsked(12), "a"), nil, true)
}

// LogRight: a Said that was changed so that no history has it, and so that another one has it.
func TestLogRightOfOtherAnswers(t *testing.T) {
	ann, bob, cy := one("ann", 1, create("x", "", "")), one("bob", 1, seen(1, update("x", "2"))), one("cy", 1, seen(1, update("x", "3")))
	for _, c := range []struct {
		what    string
		answers [3]impl.BookSaid
		right   bool
	}{
		{"ann, bob, cy", [3]impl.BookSaid{said(0, 1), said(0, 2), said(4, 0)}, true},
		{"ann, cy, bob", [3]impl.BookSaid{said(0, 1), said(4, 0), said(0, 2)}, true},
		{"bob, ann, cy", [3]impl.BookSaid{said(0, 1), said(3, 0), said(0, 2)}, true},
		{"bob, cy, ann", [3]impl.BookSaid{said(0, 1), said(3, 0), said(3, 0)}, true},
		{"both were first", [3]impl.BookSaid{said(0, 1), said(0, 2), said(0, 2)}, false},
		{"both were done", [3]impl.BookSaid{said(0, 1), said(0, 2), said(0, 3)}, false},
		{"neither was done", [3]impl.BookSaid{said(0, 1), said(4, 0), said(4, 0)}, false},
		{"another version", [3]impl.BookSaid{said(0, 9), said(0, 2), said(4, 0)}, false},
		{"another version", [3]impl.BookSaid{said(0, 1), said(0, 3), said(4, 0)}, false},
		{"another code", [3]impl.BookSaid{said(0, 1), said(0, 2), said(5, 0)}, false},
		{"a version with a code", [3]impl.BookSaid{said(0, 1), said(0, 2), said(4, 2)}, false},
		{"Again", [3]impl.BookSaid{again(0, 1), said(0, 2), said(4, 0)}, false},
		{"Again", [3]impl.BookSaid{said(0, 1), said(0, 2), again(4, 0)}, false},
	} {
		w := counted(3, 9, []impl.LogAsked{heardAt(ann, 1, 7, c.answers[0]), heardAt(bob, 2, 8, c.answers[1]), heardAt(cy, 3, 9, c.answers[2])})
		history := []impl.BookHeard{heardAs(ann, 1, 7, c.answers[0]), heardAs(bob, 2, 8, c.answers[1]), heardAs(cy, 3, 9, c.answers[2])}
		wantHistory(t, c.what, w, history, c.right)
	}
}

// Each call has its effect between its asking and its answer: asked behind the answer of another one, it does not come ahead of it.
func TestLogRightOfTimes(t *testing.T) {
	ann, bob := one("ann", 1, create("x", "", "")), one("bob", 1, update("x", "2"))
	for from := range 9 {
		w := counted(2, 9, []impl.LogAsked{heardAt(ann, 3, 5, said(0, 1)), heardAt(bob, from, 9, said(3, 0))})
		wantHistory(t, fmt.Sprint("bob is ahead of ann, and asked at ", from), w, []impl.BookHeard{heardAs(ann, 3, 5, said(0, 1)), heardAs(bob, from, 9, said(3, 0))}, from <= 5)
	}
	for to := 2; to <= 9; to++ {
		w := counted(2, 9, []impl.LogAsked{heardAt(ann, 3, 9, said(0, 1)), heardAt(bob, 1, to, said(0, 2))})
		wantHistory(t, fmt.Sprint("bob is behind ann, and heard at ", to), w, []impl.BookHeard{heardAs(ann, 3, 9, said(0, 1)), heardAs(bob, 1, to, said(0, 2))}, to >= 3)
	}
}

// What somebody heard needs what nobody heard yet, if that is fixed; it is under way until then.
func TestLogRightNeedsWhatIsFixed(t *testing.T) {
	ann, bob := one("ann", 1, create("x", "", "")), one("bob", 1, update("x", "2"))
	heard := heardAt(bob, 2, 5, said(0, 2))
	told := heardAs(bob, 2, 5, said(0, 2))
	w := counted(2, 9, []impl.LogAsked{waits(ann, 1), heard}, rawCall(ann), rawCall(bob))
	wantHistory(t, "fixed", w, []impl.BookHeard{heardAs(ann, 1, 10, said(0, 1)), told}, true)
	w.Asked[0].From = 5
	wantHistory(t, "fixed, and asked when bob heard", w, []impl.BookHeard{heardAs(ann, 5, 10, said(0, 1)), told}, true)
	w.Asked[0].From = 6
	wantHistory(t, "fixed, and asked behind that", w, []impl.BookHeard{heardAs(ann, 6, 10, said(0, 1)), told}, false)
	w = counted(2, 9, []impl.LogAsked{waits(ann, 1), heard}, rawCall(bob))
	wantHistory(t, "not fixed", w, []impl.BookHeard{told}, false)
	w = counted(2, 9, []impl.LogAsked{waits(ann, 1), heard}, rawCall(bob), rawCall(ann))
	wantHistory(t, "fixed behind what bob heard", w, []impl.BookHeard{heardAs(ann, 1, 10, said(0, 1)), told}, true)
	w = counted(2, 9, []impl.LogAsked{heardAt(ann, 1, 4, said(0, 1)), waits(bob, 9)}, rawCall(bob), rawCall(ann))
	wantHistory(t, "fixed ahead of what ann heard, and asked behind that", w, []impl.BookHeard{heardAs(ann, 1, 4, said(0, 1)), heardAs(bob, 9, 10, said(3, 0))}, false)
}

// To is Now + 1 of those that nobody heard.
func TestLogHistoryTimes(t *testing.T) {
	ann := one("ann", 1, create("x", "", ""))
	for _, now := range []int{0, 1, 2, 1000, math.MaxInt - 1} {
		for _, from := range []int{0, now / 2, now} {
			w := counted(1, now, []impl.LogAsked{waits(ann, from)}, rawCall(ann))
			wantHistory(t, fmt.Sprintf("From %d, Now %d", from, now), w, []impl.BookHeard{heardAs(ann, from, now+1, said(0, 1))}, true)
		}
	}
}
