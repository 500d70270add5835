package tests

import (
	"math"
	"reflect"
	"slices"
	"strings"
	"testing"

	"loop.example/wharflog/impl"
)

func want(name string, version int) impl.BookWant {
	return impl.BookWant{Kind: "k", Name: name, Version: version}
}

func wants(list ...impl.BookWant) impl.BookBundle {
	return impl.BookBundle{Wants: list}
}

func writes(list ...impl.BookWrite) impl.BookBundle {
	return impl.BookBundle{Writes: list}
}

// but is a bundle with these wants ahead of its writes.
func but(x impl.BookBundle, list ...impl.BookWant) impl.BookBundle {
	x.Wants = list
	return x
}

// wantAll holds a bundle against its answer, and looks at the memory of both.
func wantAll(t *testing.T, what string, b impl.Book, x impl.BookBundle, want impl.BookDid, number int) {
	t.Helper()
	bundle := impl.BookBundle{Wants: roomy(x.Wants, impl.BookWant{Name: "~"}), Writes: roomy(x.Writes, impl.BookWrite{Name: "~"})}
	behind := wholeBundle(bundle)
	memoryKept(t, what, b, func(given impl.Book) impl.Book {
		got, n := impl.BookAll(given, bundle)
		if got.Code != want.Code || got.Version != want.Version || n != number || !sameBook(got.Book, want.Book) {
			t.Errorf("%s: %+v\ngives %d, %+v\nwant  %d, %+v", what, x, n, got, number, want)
		}
		return got.Book
	})
	if !reflect.DeepEqual(behind, wholeBundle(bundle)) {
		t.Errorf("%s: %+v: BookAll wrote into the bundle or behind it", what, x)
	}
}

func wholeBundle(x impl.BookBundle) impl.BookBundle {
	return impl.BookBundle{Wants: slices.Clone(x.Wants[:cap(x.Wants)]), Writes: slices.Clone(x.Writes[:cap(x.Writes)])}
}

// wantWhole wants that a bundle is done, and makes these changes.
func wantWhole(t *testing.T, what string, b impl.Book, x impl.BookBundle, changes ...impl.BookChange) {
	t.Helper()
	book := b
	for _, c := range changes {
		book = withChange(book, c)
	}
	wantPoints(t, what, book)
	wantAll(t, what, b, x, impl.BookDid{Book: book, Version: book.Now}, 0)
}

// wantNone wants that nothing of a bundle is done, with this code and number.
func wantNone(t *testing.T, what string, b impl.Book, x impl.BookBundle, code, number int) {
	t.Helper()
	did := impl.BookDid{Code: code}
	if code > 1 {
		did.Book = b
	}
	wantAll(t, what, b, x, did, number)
	plain, n := plainAll(b, x)
	if plain.Code != code || n != number {
		t.Errorf("%s: the test's bundle has code %d, number %d", what, plain.Code, n)
	}
}

func TestBundlesThatAreDone(t *testing.T) {
	free := saying(thing("k", "free", 21, 1), "t")
	wantWhole(t, "nothing", yard(), impl.BookBundle{})
	wantWhole(t, "nothing in nothing", impl.Book{}, impl.BookBundle{})
	wantWhole(t, "empty lists", yard(), impl.BookBundle{Wants: []impl.BookWant{}, Writes: []impl.BookWrite{}})
	wantWhole(t, "nothing at the last version", atEnd(yard()), impl.BookBundle{})
	wantWhole(t, "wants alone", yard(), wants(want("free", 11), want("none", 0), want("last", 13), want("free", 11)))
	wantWhole(t, "one write", yard(), writes(update("free", "t")), told(free))
	wantWhole(t, "a want and a write", yard(), but(writes(update("free", "t")), want("free", 11)), told(free))
	wantWhole(t, "several objects", yard(), writes(update("free", "t"), letGo("last", "h"), create("new", "", "h")),
		told(free), gone(saying(thing("k", "last", 22, 3), "last")), told(thing("k", "new", 23, 23, "h")))
	wantWhole(t, "one object from its making to its end", yard(), writes(create("new", "", ""), hold("new", "h"), update("new", "t"), end("new"), letGo("new", "h"), create("new", "again", "")),
		told(thing("k", "new", 21, 21)), told(thing("k", "new", 22, 21, "h")), told(saying(thing("k", "new", 23, 21, "h"), "t")),
		told(saying(ending(thing("k", "new", 24, 21, "h")), "t")), gone(saying(thing("k", "new", 25, 21), "t")), told(saying(thing("k", "new", 26, 26), "again")))
	wantWhole(t, "a write that saw the one ahead of it", yard(), writes(update("free", ""), seen(21, update("free", "t"))),
		told(thing("k", "free", 21, 1)), told(saying(thing("k", "free", 22, 1), "t")))
	wantWhole(t, "wants are of the book ahead of the writes", yard(), but(writes(create("none", "", ""), update("free", "t")), want("none", 0), want("free", 11)),
		told(thing("k", "none", 21, 21)), told(saying(thing("k", "free", 22, 1), "t")))
	wantWhole(t, "one goes to make room", crowded(100), writes(end("free"), create("new", "", "")),
		gone(saying(thing("k", "free", 301, 1), "free")), told(thing("k", "new", 302, 302)))
	wantWhole(t, "wants of another kind", yard(), wants(impl.BookWant{Kind: "j", Name: "free", Version: 9}, impl.BookWant{Kind: "kk", Name: "free"}))
}

func TestGreatestBundles(t *testing.T) {
	var tenWants []impl.BookWant
	var tenWrites []impl.BookWrite
	var tenChanges []impl.BookChange
	for i := range 10 {
		tenWants = append(tenWants, want("free", 11))
		tenWrites = append(tenWrites, update("free", strings.Repeat("x", i)))
		tenChanges = append(tenChanges, told(saying(thing("k", "free", 21+i, 1), strings.Repeat("x", i))))
	}
	wantWhole(t, "10 wants and 10 writes", yard(), but(writes(tenWrites...), tenWants...), tenChanges...)
	wantNone(t, "11 wants", yard(), wants(append(tenWants, want("free", 11))...), 2, 0)
	wantNone(t, "11 writes", yard(), writes(append(tenWrites, end("free"))...), 2, 0)
	wantNone(t, "11 wants, none of them a want", yard(), wants(make([]impl.BookWant, 11)...), 2, 0)
	wantNone(t, "11 wants, the first not so", yard(), but(writes(tenWrites...), append([]impl.BookWant{want("none", 1)}, tenWants...)...), 2, 0)
	wantNone(t, "the 10th want is not so", yard(), but(writes(tenWrites...), append(tenWants[:9:9], want("free", 12))...), 9, 9)
	wantNone(t, "the 10th write has a code", yard(), writes(append(tenWrites[:9:9], end("none"))...), 3, 9)
	full := longStory(195, 195)
	var more []impl.BookChange
	for i := range 10 {
		more = append(more, told(saying(thing("k", "n", 196+i, 1), "t")))
	}
	ten := writes(slices.Repeat([]impl.BookWrite{update("n", "t")}, 10)...)
	wantWhole(t, "the history is full on the way", full, ten, more...)
	last := resting(999990, thing("k", "n", 1, 1))
	for i := range more {
		more[i] = told(saying(thing("k", "n", 999991+i, 1), "t"))
	}
	wantWhole(t, "up to the last version", last, ten, more...)
	last.Now, last.Floor = 999991, 999991
	wantNone(t, "one more than the last version", last, ten, 8, 9)
}

func TestCode1OfBundles(t *testing.T) {
	for what, x := range map[string]impl.BookBundle{
		"nothing": {}, "a write": writes(update("free", "t")), "no write": writes(impl.BookWrite{}), "a want that is not so": wants(want("free", 1)), "too many": wants(make([]impl.BookWant, 11)...),
	} {
		wantNone(t, what, broken(yard()), x, 1, 0)
		wantNone(t, what+", nothing there", impl.Book{Now: 1}, x, 1, 0)
	}
}

func TestCode2OfBundles(t *testing.T) {
	kind := func(kind, name string) impl.BookWant { return impl.BookWant{Kind: kind, Name: name} }
	for what, bad := range map[string]impl.BookWant{
		"no kind": kind("", "free"), "no name": kind("k", ""), "a kind that is none": kind("K", "free"), "a name that is none": kind("k", "fre e"),
		"a long kind": kind(strings.Repeat("k", 21), "n"), "a long name": kind("k", strings.Repeat("n", 21)),
		"a Version below 0": want("free", -1), "a Version far below 0": want("free", math.MinInt),
	} {
		wantNone(t, what, yard(), wants(bad), 2, 0)
		wantNone(t, what+", the last", yard(), wants(want("free", 11), want("last", 13), bad), 2, 0)
		wantNone(t, what+", behind one that is not so", yard(), wants(want("free", 12), bad), 2, 0)
		wantNone(t, what+", with writes", yard(), but(writes(update("free", "t")), bad), 2, 0)
	}
	wantWhole(t, "a long kind and name", yard(), wants(kind(strings.Repeat("k", 20), strings.Repeat("n", 20))))
	for what, bad := range map[string]impl.BookWrite{
		"no write": {}, "no Op": {Op: 6, Kind: "k", Name: "free"}, "no name": update("", "t"), "a long text": update("free", strings.Repeat("x", 301)),
		"Seen below 0": seen(-1, end("free")), "what the Op does not use": seen(11, create("new", "", "")), "no hold": hold("free", ""), "a hold that is none": letGo("one", "H"),
	} {
		wantNone(t, what, yard(), writes(bad), 2, 0)
		wantNone(t, what+", behind one that would be done", yard(), writes(update("free", "t"), bad), 2, 0)
		wantNone(t, what+", ahead of one that would be done", yard(), writes(bad, update("free", "t")), 2, 0)
		wantNone(t, what+", behind code 3", yard(), writes(end("none"), bad), 2, 0)
		wantNone(t, what+", behind code 4", yard(), writes(seen(1, end("free")), update("held", ""), bad), 2, 0)
		wantNone(t, what+", behind code 8", atEnd(yard()), writes(end("free"), bad), 2, 0)
		wantNone(t, what+", a want not so", yard(), but(writes(bad), want("free", 12)), 2, 0)
	}
}

func TestCode9OfBundles(t *testing.T) {
	for what, c := range map[string]struct {
		list   []impl.BookWant
		number int
	}{
		"there is one":               {[]impl.BookWant{want("free", 0)}, 0},
		"there is none":              {[]impl.BookWant{want("none", 11)}, 0},
		"an older version":           {[]impl.BookWant{want("free", 10)}, 0},
		"its Born":                   {[]impl.BookWant{want("free", 1)}, 0},
		"a newer version":            {[]impl.BookWant{want("free", 12)}, 0},
		"the next version":           {[]impl.BookWant{want("free", 21)}, 0},
		"a version that never comes": {[]impl.BookWant{want("free", math.MaxInt)}, 0},
		"the second":                 {[]impl.BookWant{want("free", 11), want("last", 12)}, 1},
		"the third":                  {[]impl.BookWant{want("free", 11), want("last", 13), want("last", 0)}, 2},
		"two, the first is told":     {[]impl.BookWant{want("free", 11), want("none", 1), want("last", 0)}, 1},
		"the version of another":     {[]impl.BookWant{want("last", 11)}, 0},
		"another kind":               {[]impl.BookWant{{Kind: "l", Name: "free", Version: 11}}, 0},
	} {
		wantNone(t, what, yard(), wants(c.list...), 9, c.number)
		wantNone(t, what+", with a write", yard(), but(writes(update("free", "t")), c.list...), 9, c.number)
		wantNone(t, what+", with a write that has a code", yard(), but(writes(end("none")), c.list...), 9, c.number)
		wantNone(t, what+", at the last version", atEnd(yard()), but(writes(end("free")), c.list...), 9, c.number)
	}
}

func TestCodesOfWritesInBundles(t *testing.T) {
	ok := update("held", "t")
	for _, c := range []struct {
		code int
		bad  impl.BookWrite
	}{
		{3, create("free", "", "")}, {3, update("none", "")}, {4, seen(1, update("free", ""))}, {4, seen(1, hold("last", "h"))}, {5, end("last")}, {6, hold("one", "h")}, {6, letGo("one", "g")}, {7, hold("tight", "b")},
	} {
		what := "a write with a code"
		wantNone(t, what, yard(), writes(c.bad), c.code, 0)
		wantNone(t, what+", the second", yard(), writes(ok, c.bad), c.code, 1)
		wantNone(t, what+", between", yard(), writes(ok, ok, c.bad, ok), c.code, 2)
		wantNone(t, what+", twice", yard(), writes(ok, c.bad, c.bad), c.code, 1)
		wantNone(t, what+", ahead of another", yard(), but(writes(ok, c.bad, end("nowhere")), want("free", 11)), c.code, 1)
		wantNone(t, what+", behind another", yard(), writes(end("nowhere"), c.bad), 3, 0)
	}
	wantNone(t, "no room", crowded(100), writes(update("free", ""), create("new", "", "")), 7, 1)
	wantNone(t, "no room for the second", crowded(99), writes(create("new", "", ""), create("newer", "", "")), 7, 1)
	wantNone(t, "no version", atEnd(yard()), writes(update("free", "")), 8, 0)
	wantNone(t, "made twice", yard(), writes(create("new", "", ""), create("new", "", "")), 3, 1)
	wantNone(t, "changed though it has gone", yard(), writes(end("free"), update("free", "")), 3, 1)
	wantNone(t, "stale by the write ahead", yard(), writes(seen(11, update("free", "")), seen(11, update("free", ""))), 4, 1)
	wantNone(t, "Ending by the write ahead", yard(), writes(end("one"), update("one", "")), 5, 1)
	wantNone(t, "a write of a later version", yard(), writes(seen(21, update("free", ""))), 4, 0)
}
