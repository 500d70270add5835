package tests

import (
	"fmt"
	"math"
	"reflect"
	"slices"
	"testing"
	"time"

	"loop.example/wharflog/impl"
)

func heard(from, to int, c impl.BookCall, s impl.BookSaid) impl.BookHeard {
	return impl.BookHeard{From: from, To: to, Call: c, Said: s}
}

// roomyCalls are calls with room behind each of their lists.
func roomyCalls(calls []impl.BookHeard) []impl.BookHeard {
	calls = roomy(calls, impl.BookHeard{From: 7, To: 6})
	for i := range calls {
		x := &calls[i].Call.Bundle
		x.Wants, x.Writes = roomy(x.Wants, impl.BookWant{Name: "~"}), roomy(x.Writes, impl.BookWrite{Name: "~"})
	}
	return calls
}

// wholeCalls is a copy of calls with all that is behind the end of their lists.
func wholeCalls(calls []impl.BookHeard) []impl.BookHeard {
	calls = slices.Clone(calls[:cap(calls)])
	for i := range calls {
		calls[i].Call.Bundle = wholeBundle(calls[i].Call.Bundle)
	}
	return calls
}

// wantLinear holds calls against their order, and looks at the memory of all.
func wantLinear(t *testing.T, what string, b impl.Book, calls []impl.BookHeard, want []int, ok bool) {
	t.Helper()
	given := roomyCalls(calls)
	behind := wholeCalls(given)
	memoryKept(t, what, b, func(b impl.Book) impl.Book {
		order, found := impl.BookLinear(b, given)
		if found != ok || !slices.Equal(order, want) {
			t.Errorf("%s: %+v\ngives %v, %v\nwant  %v, %v", what, calls, order, found, want, ok)
		}
		spans := append(spansOf(b), spanOf(given), spanOf(order))
		for _, h := range given {
			spans = append(spans, spanOf(h.Call.Bundle.Wants), spanOf(h.Call.Bundle.Writes))
		}
		if !apart(spans) {
			t.Errorf("%s: lists share memory", what)
		}
		return impl.Book{}
	})
	if !reflect.DeepEqual(behind, wholeCalls(given)) {
		t.Errorf("%s: %+v: BookLinear wrote into the calls or behind them", what, calls)
	}
}

// wantOrder wants that an order is told, which the document allows.
func wantOrder(t *testing.T, what string, b impl.Book, calls []impl.BookHeard, want ...int) {
	t.Helper()
	for _, fault := range orderFaults(b, calls, want) {
		t.Errorf("%s: the test's order: %s", what, fault)
	}
	wantLinear(t, what, b, calls, want, true)
}

// wantNoOrder wants nothing and false.
func wantNoOrder(t *testing.T, what string, b impl.Book, calls ...impl.BookHeard) {
	t.Helper()
	wantLinear(t, what, b, calls, nil, false)
}

// making, changing and taking are calls with one write each, numbered 1.
func making(client string) impl.BookCall {
	return call(client, 1, writes(create("a", "", "")))
}

func changing(client string) impl.BookCall {
	return call(client, 1, writes(update("a", client)))
}

func taking(client string) impl.BookCall {
	return call(client, 1, writes(end("a")))
}

func TestOrdersOfAnswers(t *testing.T) {
	none := impl.Book{}
	wantOrder(t, "no calls", none, nil)
	wantOrder(t, "no calls, an empty list", yard(), []impl.BookHeard{})
	wantOrder(t, "one call", none, []impl.BookHeard{heard(0, 1, making("u"), said(0, 1))}, 0)
	wantOrder(t, "one that is refused", none, []impl.BookHeard{heard(0, 1, taking("u"), said(3, 0))}, 0)
	wantOrder(t, "one with nothing to do", yard(), []impl.BookHeard{heard(0, 1, call("u", 1, impl.BookBundle{}), said(0, 20))}, 0)
	wantOrder(t, "one that is no call", none, []impl.BookHeard{heard(0, 1, making("U"), said(1, 0))}, 0)
	wantOrder(t, "one whose bundle is none", none, []impl.BookHeard{heard(0, 1, call("u", 1, writes(impl.BookWrite{})), said(2, 0))}, 0)
	u, v, w := heard(0, 9, making("u"), said(0, 1)), heard(0, 9, changing("v"), said(0, 2)), heard(0, 9, taking("w"), said(0, 3))
	for i, calls := range [][]impl.BookHeard{{u, v, w}, {u, w, v}, {v, u, w}, {v, w, u}, {w, u, v}, {w, v, u}} {
		wantOrder(t, "versions alone tell it", none, calls, [][]int{{0, 1, 2}, {0, 2, 1}, {1, 0, 2}, {2, 0, 1}, {1, 2, 0}, {2, 1, 0}}[i]...)
	}
	wantOrder(t, "a version and codes", none, []impl.BookHeard{heard(0, 9, taking("w"), said(3, 0)), heard(0, 9, changing("v"), said(3, 0)), u}, 0, 1, 2)
	wantOrder(t, "refused only behind the other", none, []impl.BookHeard{heard(0, 9, making("v"), said(3, 0)), u}, 1, 0)
	wantOrder(t, "either order, the first", none, []impl.BookHeard{heard(0, 9, changing("x"), said(3, 0)), heard(0, 9, changing("v"), said(3, 0))}, 0, 1)
	wantOrder(t, "either order, but for the times", none, []impl.BookHeard{heard(5, 9, changing("x"), said(3, 0)), heard(0, 4, changing("v"), said(3, 0))}, 1, 0)
	wantOrder(t, "as early as may be", none, []impl.BookHeard{u, heard(0, 9, changing("x"), said(0, 2)), heard(0, 9, call("y", 1, wants(want("b", 0))), said(0, 1)), heard(0, 9, call("z", 1, impl.BookBundle{}), said(0, 2))}, 0, 2, 1, 3)
	wantOrder(t, "several writes at once", none, []impl.BookHeard{heard(0, 9, call("x", 1, writes(update("a", ""), end("a"))), said(0, 4)), heard(0, 9, changing("v"), said(0, 2)), u}, 2, 1, 0)
	wantNoOrder(t, "another version", none, heard(0, 1, making("u"), said(0, 2)))
	wantNoOrder(t, "another code", none, heard(0, 1, making("u"), said(3, 0)))
	wantNoOrder(t, "a version beside a code", none, heard(0, 1, taking("u"), said(3, 1)))
	wantNoOrder(t, "again, but it was not asked before", none, heard(0, 1, making("u"), again(0, 1)))
	wantNoOrder(t, "two answers that cannot both be", none, u, heard(0, 9, making("v"), said(0, 1)))
	wantNoOrder(t, "two answers that cannot both be, numbered on", none, u, heard(0, 9, making("v"), said(0, 2)))
	wantNoOrder(t, "a version is missing between", none, u, heard(0, 9, changing("v"), said(0, 3)))
	wantNoOrder(t, "each waits for the other", none, heard(0, 9, changing("u"), said(0, 2)), heard(0, 9, making("v"), said(3, 0)))
	wantNoOrder(t, "one of three is wrong", none, u, v, heard(0, 9, taking("w"), said(0, 4)))
}

func TestOrdersOfOneClient(t *testing.T) {
	none := impl.Book{}
	first, second := call("u", 1, writes(create("a", "", ""))), call("u", 2, writes(end("a")))
	other := call("u", 2, writes(create("b", "", "")))
	wantOrder(t, "heard twice", none, []impl.BookHeard{heard(0, 9, first, again(0, 1)), heard(0, 9, first, said(0, 1))}, 1, 0)
	wantOrder(t, "heard three times", none, []impl.BookHeard{heard(0, 9, first, again(0, 1)), heard(0, 9, first, again(0, 1)), heard(0, 9, first, said(0, 1))}, 2, 0, 1)
	wantOrder(t, "again ahead of a later one", none, []impl.BookHeard{heard(0, 9, second, said(0, 2)), heard(0, 9, first, again(0, 1)), heard(0, 9, first, said(0, 1))}, 2, 1, 0)
	wantOrder(t, "late behind a later one", none, []impl.BookHeard{heard(0, 9, second, said(0, 2)), heard(0, 9, first, said(8, 0)), heard(0, 9, first, said(0, 1))}, 2, 0, 1)
	wantOrder(t, "late, and never done", none, []impl.BookHeard{heard(0, 9, first, said(8, 0)), heard(0, 9, second, said(3, 0))}, 1, 0)
	wantOrder(t, "another bundle of the number", none, []impl.BookHeard{heard(0, 9, other, said(7, 0)), heard(0, 9, first, said(0, 1)), heard(0, 9, second, said(0, 2))}, 1, 2, 0)
	wantOrder(t, "refused, and again", none, []impl.BookHeard{heard(0, 9, second, again(3, 0)), heard(0, 9, making("v"), said(0, 1)), heard(0, 9, second, said(3, 0))}, 2, 0, 1)
	wantOrder(t, "refused, and again behind what would let it be", none, []impl.BookHeard{heard(5, 9, second, again(3, 0)), heard(0, 4, making("v"), said(0, 1)), heard(0, 4, second, said(3, 0))}, 2, 1, 0)
	known := withTicket(yard(), taken(call("u", 4, writes(end("free"))), said(0, 17)))
	wantOrder(t, "the book's own ticket, again", known, []impl.BookHeard{heard(0, 9, call("u", 5, writes(end("free"))), said(0, 21)), heard(0, 9, call("u", 4, writes(end("free"))), again(0, 17))}, 1, 0)
	wantNoOrder(t, "done twice", none, heard(0, 9, first, said(0, 1)), heard(0, 9, first, said(0, 1)))
	wantNoOrder(t, "refused twice", none, heard(0, 9, second, said(3, 0)), heard(0, 9, second, said(3, 0)))
	wantNoOrder(t, "again, another version", none, heard(0, 9, first, said(0, 1)), heard(0, 9, first, again(0, 2)))
	wantNoOrder(t, "again, ahead of the first time", none, heard(5, 9, first, said(0, 1)), heard(0, 4, first, again(0, 1)))
	wantNoOrder(t, "again, behind a later one", none, heard(0, 1, first, said(0, 1)), heard(2, 3, second, said(0, 2)), heard(4, 5, first, again(0, 1)))
	wantNoOrder(t, "late, but there is no later one", none, heard(0, 9, first, said(8, 0)), heard(0, 9, making("v"), said(0, 1)))
}

// Codes 6 to 8 are those of a ticket or of a bundle: the same answers in another order may lead to other tickets.
func TestOrdersThatDifferInTickets(t *testing.T) {
	full := crowded(100)
	one, two := call("u", 1, writes(create("n1", "", ""))), call("u", 1, writes(create("n2", "", "")))
	wantOrder(t, "7 of a bundle or of a ticket", full, []impl.BookHeard{heard(0, 9, one, said(7, 0)), heard(0, 9, two, said(7, 0))}, 0, 1)
	wantOrder(t, "7, the second's ticket stands", full, []impl.BookHeard{heard(0, 9, one, said(7, 0)), heard(0, 9, two, said(7, 0)), heard(0, 9, two, again(7, 0))}, 1, 0, 2)
	wantOrder(t, "7, and behind both", full, []impl.BookHeard{heard(0, 4, one, said(7, 0)), heard(0, 4, two, said(7, 0)), heard(5, 9, two, again(7, 0))}, 1, 0, 2)
	wantNoOrder(t, "7, and both tickets stand", full, heard(0, 9, one, said(7, 0)), heard(0, 9, two, said(7, 0)), heard(0, 9, two, again(7, 0)), heard(0, 9, one, again(7, 0)))
	tightly := clients(yard(), 49)
	u, v := call("u", 1, writes(letGo("one", "g"))), call("v", 1, writes(letGo("one", "g")))
	wantOrder(t, "6 of a bundle or for want of room", tightly, []impl.BookHeard{heard(0, 9, u, said(6, 0)), heard(0, 9, v, said(6, 0))}, 0, 1)
	wantOrder(t, "6, the second has the room", tightly, []impl.BookHeard{heard(0, 4, u, said(6, 0)), heard(0, 4, v, said(6, 0)), heard(5, 9, v, again(6, 0))}, 1, 0, 2)
	wantOrder(t, "6, the second has the room, and does more", tightly, []impl.BookHeard{heard(0, 4, u, said(6, 0)), heard(0, 4, v, said(6, 0)), heard(5, 9, call("v", 2, writes(end("free"))), said(0, 21))}, 1, 0, 2)
	wantNoOrder(t, "6, and both have room", tightly, heard(0, 4, u, said(6, 0)), heard(0, 4, v, said(6, 0)), heard(5, 9, v, again(6, 0)), heard(5, 9, u, again(6, 0)))
	wantOrder(t, "6, and there is room for both", clients(yard(), 48), []impl.BookHeard{heard(0, 4, u, said(6, 0)), heard(0, 4, v, said(6, 0)), heard(5, 9, v, again(6, 0)), heard(5, 9, u, again(6, 0))}, 0, 1, 2, 3)
	last := atEnd(yard())
	first, second := call("u", 1, writes(update("free", ""))), call("u", 2, writes(update("free", "")))
	wantOrder(t, "8 of a bundle or of a late call", last, []impl.BookHeard{heard(0, 9, second, said(8, 0)), heard(0, 9, first, said(8, 0)), heard(0, 9, second, again(8, 0))}, 0, 1, 2)
	wantOrder(t, "8, and again ahead of the later one", last, []impl.BookHeard{heard(0, 9, second, said(8, 0)), heard(0, 9, first, said(8, 0)), heard(0, 9, first, again(8, 0))}, 1, 2, 0)
	wantNoOrder(t, "8, and again behind the later one", last, heard(0, 4, second, said(8, 0)), heard(0, 9, first, said(8, 0)), heard(5, 9, first, again(8, 0)))
}

func TestTimesOfCalls(t *testing.T) {
	none := impl.Book{}
	behind := func(from, to int) impl.BookHeard { return heard(from, to, changing("v"), said(0, 2)) }
	ahead := func(from, to int) impl.BookHeard { return heard(from, to, making("u"), said(0, 1)) }
	type times struct{ from, to int }
	for _, c := range []struct {
		what        string
		first, then times
		fits        bool
	}{
		{"one after the other", times{0, 1}, times{2, 3}, true},
		{"the wrong way round", times{2, 3}, times{0, 1}, false},
		{"To is the other's From", times{1, 2}, times{0, 1}, true},
		{"To is the other's From, the other way", times{0, 1}, times{1, 2}, true},
		{"To is just below the other's From", times{2, 2}, times{0, 1}, false},
		{"at one moment each", times{5, 5}, times{5, 5}, true},
		{"at one moment each, apart", times{5, 5}, times{6, 6}, true},
		{"at one moment each, the wrong way round", times{6, 6}, times{5, 5}, false},
		{"one within the other", times{3, 4}, times{0, 9}, true},
		{"the other within the one", times{0, 9}, times{3, 4}, true},
		{"below 0", times{-9, -8}, times{-7, -6}, true},
		{"below 0, the wrong way round", times{-7, -6}, times{-9, -8}, false},
		{"around 0", times{0, 1}, times{-2, -1}, false},
		{"around 0, at the same time", times{-1, 1}, times{-2, -1}, true},
		{"all that there is", times{math.MinInt, math.MaxInt}, times{math.MinInt, math.MaxInt}, true},
		{"the least and the greatest", times{math.MinInt, math.MinInt}, times{math.MaxInt, math.MaxInt}, true},
		{"the greatest and the least", times{math.MaxInt, math.MaxInt}, times{math.MinInt, math.MinInt}, false},
		{"far apart", times{math.MaxInt - 1, math.MaxInt}, times{math.MinInt, -2}, false},
		{"the greatest twice", times{math.MaxInt, math.MaxInt}, times{math.MaxInt - 1, math.MaxInt}, true},
		{"just below the greatest", times{math.MaxInt, math.MaxInt}, times{math.MaxInt - 1, math.MaxInt - 1}, false},
		{"the least twice", times{math.MinInt, math.MinInt + 1}, times{math.MinInt, math.MinInt}, true},
		{"just above the least", times{math.MinInt + 1, math.MinInt + 1}, times{math.MinInt, math.MinInt}, false},
	} {
		one, two := ahead(c.first.from, c.first.to), behind(c.then.from, c.then.to)
		if c.fits {
			wantOrder(t, c.what, none, []impl.BookHeard{one, two}, 0, 1)
			wantOrder(t, c.what+", told turned", none, []impl.BookHeard{two, one}, 1, 0)
		} else {
			wantNoOrder(t, c.what, none, one, two)
			wantNoOrder(t, c.what+", told turned", none, two, one)
		}
	}
	idle := func(client string, from, to int) impl.BookHeard {
		return heard(from, to, call(client, 1, impl.BookBundle{}), said(0, 0))
	}
	wantOrder(t, "a chain", none, []impl.BookHeard{idle("u", 4, 5), idle("v", 2, 3), idle("w", 0, 1)}, 2, 1, 0)
	wantOrder(t, "a chain with one beside it", none, []impl.BookHeard{idle("u", 4, 5), idle("v", 0, 9), idle("w", 2, 3), idle("x", 0, 1)}, 1, 3, 2, 0)
	wantOrder(t, "one that two wait for", none, []impl.BookHeard{idle("u", 4, 5), idle("v", 3, 9), idle("w", 0, 2)}, 2, 0, 1)
	wantOrder(t, "one that waits for two", none, []impl.BookHeard{idle("u", 4, 5), idle("v", 3, 3), idle("w", 0, 2)}, 2, 1, 0)
	wantOrder(t, "one under way beside two that follow each other", none, []impl.BookHeard{idle("u", 4, 5), idle("v", 2, 4), idle("w", 0, 3)}, 1, 2, 0)
}

func TestHistoriesThatAreNone(t *testing.T) {
	right, wrong := heard(0, 1, making("u"), said(0, 1)), heard(1, 0, making("u"), said(0, 1))
	far := heard(math.MaxInt, math.MinInt, making("u"), said(0, 1))
	many := func(n int) []impl.BookHeard {
		var list []impl.BookHeard
		for i := range n {
			list = append(list, heard(0, 0, call(fmt.Sprintf("c%d", i), 1, impl.BookBundle{}), said(0, 0)))
		}
		return list
	}
	wantOrder(t, "12 calls", impl.Book{}, many(12), 0, 1, 2, 3, 4, 5, 6, 7, 8, 9, 10, 11)
	wantNoOrder(t, "13 calls", impl.Book{}, many(13)...)
	wantNoOrder(t, "40 calls", impl.Book{}, many(40)...)
	wantNoOrder(t, "13 calls that are nothing", impl.Book{}, make([]impl.BookHeard, 13)...)
	wantNoOrder(t, "To below From", impl.Book{}, wrong)
	wantNoOrder(t, "To below From, far", impl.Book{}, far)
	wantNoOrder(t, "To below From, of a call with code 1", impl.Book{}, heard(3, 2, impl.BookCall{}, said(1, 0)))
	wantNoOrder(t, "one of two has a To below its From", impl.Book{}, right, heard(9, 8, changing("v"), said(0, 2)))
	wantNoOrder(t, "13 calls, one with a To below its From", impl.Book{}, append(many(12), wrong)...)
	wantNoOrder(t, "12 calls, the last with a To below its From", impl.Book{}, append(many(11), heard(0, -1, call("x", 1, impl.BookBundle{}), said(0, 0)))...)
	wantOrder(t, "calls that are nothing", impl.Book{}, []impl.BookHeard{heard(0, 0, impl.BookCall{}, said(1, 0)), heard(0, 0, impl.BookCall{}, said(1, 0))}, 0, 1)
	wantNoOrder(t, "calls and answers that are nothing", impl.Book{}, make([]impl.BookHeard, 2)...)
	for what, b := range notValid() {
		wantNoOrder(t, what+", no calls", b)
		wantNoOrder(t, what, b, right)
		wantNoOrder(t, what+", what BookAsk says to it", b, heard(0, 1, making("u"), said(1, 0)))
		wantNoOrder(t, what+", 13 calls", b, many(13)...)
		wantNoOrder(t, what+", To below From", b, wrong)
		wantNoOrder(t, what+", 13 calls, To below From", b, append(many(12), wrong)...)
	}
}

// soon is a look for an order that must not go through all of them.
func soon(t *testing.T, what string, look func()) {
	t.Helper()
	done := make(chan struct{})
	go func() {
		defer close(done)
		look()
	}()
	select {
	case <-done:
	case <-time.After(time.Minute):
		t.Fatalf("%s: it takes too long", what)
	}
}

// twelve are calls that are all under way at the same time.
func twelve(one func(i int) (impl.BookCall, impl.BookSaid)) []impl.BookHeard {
	var list []impl.BookHeard
	for i := range 12 {
		c, s := one(i)
		list = append(list, heard(-i, i, c, s))
	}
	return list
}

// What was tried is kept: without that, 11 calls that fit in any order ahead of one that never does would be gone through 11! times.
func TestTwelveCallsAtOnce(t *testing.T) {
	client := func(i int) string { return fmt.Sprintf("u%02d", i) }
	up := []int{0, 1, 2, 3, 4, 5, 6, 7, 8, 9, 10, 11}
	down := slices.Clone(up)
	slices.Reverse(down)
	for _, c := range []struct {
		what  string
		b     impl.Book
		order []int
		calls []impl.BookHeard
	}{
		{"nothing to do", impl.Book{}, up, twelve(func(i int) (impl.BookCall, impl.BookSaid) { return call(client(i), 1, impl.BookBundle{}), said(0, 0) })},
		{"refused", yard(), up, twelve(func(i int) (impl.BookCall, impl.BookSaid) { return call(client(i), 1, writes(end("none"))), said(3, 0) })},
		{"numbered up", yard(), up, twelve(func(i int) (impl.BookCall, impl.BookSaid) {
			return call(client(i), 1, writes(update("free", ""))), said(0, 21+i)
		})},
		{"numbered down", yard(), down, twelve(func(i int) (impl.BookCall, impl.BookSaid) {
			return call(client(i), 1, writes(update("free", ""))), said(0, 32-i)
		})},
		{"no call", yard(), up, twelve(func(i int) (impl.BookCall, impl.BookSaid) { return call("", i, impl.BookBundle{}), said(1, 0) })},
		{"room for some", clients(yard(), 46), up, twelve(func(i int) (impl.BookCall, impl.BookSaid) {
			return call(client(i), 1, writes(letGo("one", "g"))), said(6, 0)
		})},
		{"one ticket", crowded(100), up, twelve(func(i int) (impl.BookCall, impl.BookSaid) {
			return call("u", 1, writes(create(client(i), "", ""))), said(7, 0)
		})},
		{"four tickets", crowded(100), up, twelve(func(i int) (impl.BookCall, impl.BookSaid) {
			return call(client(i%4), 1, writes(create(client(i), "", ""))), said(7, 0)
		})},
	} {
		soon(t, c.what, func() { wantOrder(t, c.what, c.b, c.calls, c.order...) })
		for _, place := range []int{0, 5, 11} {
			spoilt := slices.Clone(c.calls)
			spoilt[place].Said.Version += 50
			soon(t, c.what+", but one", func() { wantNoOrder(t, c.what+", but one", c.b, spoilt...) })
			spoilt[place].Said = again(0, 1)
			soon(t, c.what+", but one again", func() { wantNoOrder(t, c.what+", but one again", c.b, spoilt...) })
		}
	}
	last := twelve(func(i int) (impl.BookCall, impl.BookSaid) {
		return call("u", 1, writes(create(client(i), "", ""))), said(7, 0)
	})
	last[11] = heard(0, 0, last[10].Call, again(7, 0))
	soon(t, "the last ticket but one", func() {
		wantOrder(t, "the last ticket but one", crowded(100), last, 10, 0, 1, 2, 3, 4, 5, 6, 7, 8, 9, 11)
	})
}
