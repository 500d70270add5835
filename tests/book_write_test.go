package tests

import (
	"fmt"
	"math"
	"slices"
	"strings"
	"testing"

	"loop.example/wharflog/impl"
)

func saying(o impl.BookObject, text string) impl.BookObject {
	o.Text = text
	return o
}

func create(name, text, hold string) impl.BookWrite {
	return impl.BookWrite{Op: 1, Kind: "k", Name: name, Text: text, Hold: hold}
}

func update(name, text string) impl.BookWrite {
	return impl.BookWrite{Op: 2, Kind: "k", Name: name, Text: text}
}

func end(name string) impl.BookWrite {
	return impl.BookWrite{Op: 3, Kind: "k", Name: name}
}

func hold(name, hold string) impl.BookWrite {
	return impl.BookWrite{Op: 4, Kind: "k", Name: name, Hold: hold}
}

func letGo(name, hold string) impl.BookWrite {
	return impl.BookWrite{Op: 5, Kind: "k", Name: name, Hold: hold}
}

func seen(version int, w impl.BookWrite) impl.BookWrite {
	w.Seen = version
	return w
}

// yard is a valid book of objects that writes find different things at.
func yard() impl.Book {
	b := resting(20,
		saying(thing("j", "free", 9, 9), "of another kind"),
		saying(thing("k", "free", 11, 1), "free"),
		saying(thing("k", "held", 12, 2, "b", "d", "f"), "held"),
		saying(ending(thing("k", "last", 13, 3, "h")), "last"),
		saying(ending(thing("k", "leaving", 14, 4, "g", "h")), "leaving"),
		saying(thing("k", "one", 15, 5, "h"), "one"),
		saying(ending(thing("k", "tied", 17, 7, "a", "c", "e", "g", "i")), "tied"),
		saying(thing("k", "tight", 16, 6, "a", "c", "e", "g", "i"), "tight"),
		saying(thing("l", "free", 10, 10), "of another kind"))
	b.Tickets = []impl.BookTicket{ticket("ann"), ticket("bob")}
	return b
}

// crowded is the yard with so many objects in all.
func crowded(objects int) impl.Book {
	b := yard()
	for i := len(b.Objects); i < objects; i++ {
		b.Objects = append(b.Objects, thing("z", fmt.Sprintf("n%03d", i), 100+i, 100+i))
	}
	b.Now, b.Floor = 300, 300
	return b
}

// atEnd is a book whose Now is the last version that there is.
func atEnd(b impl.Book) impl.Book {
	b.Now, b.Floor = 1000000, 1000000
	return b
}

// broken is a book that is not valid.
func broken(b impl.Book) impl.Book {
	b.Floor = -1
	return b
}

// wantDid holds a write against its answer, and looks at the memory of both.
func wantDid(t *testing.T, what string, b impl.Book, w impl.BookWrite, want impl.BookDid) {
	t.Helper()
	memoryKept(t, what, b, func(given impl.Book) impl.Book {
		got := impl.BookDo(given, w)
		if got.Code != want.Code || got.Version != want.Version || !sameBook(got.Book, want.Book) {
			t.Errorf("%s: %+v\ngives %+v\nwant  %+v", what, w, got, want)
		}
		return got.Book
	})
}

// wantDone wants that a write is done, and makes this change.
func wantDone(t *testing.T, what string, b impl.Book, w impl.BookWrite, change impl.BookChange) {
	t.Helper()
	if codes := plainCodes(b, w); len(codes) > 0 {
		t.Errorf("%s: %+v: the test's write has the codes %v", what, w, codes)
	}
	want := withChange(b, change)
	if points := brokenPoints(want); len(points) > 0 {
		t.Errorf("%s: %+v: the test's change breaks the points %v", what, w, points)
	}
	wantDid(t, what, b, w, impl.BookDid{Book: want, Version: change.Version})
}

// wantCodes wants that of these codes, which are all that hold, the first is told.
func wantCodes(t *testing.T, b impl.Book, w impl.BookWrite, codes ...int) {
	t.Helper()
	what := fmt.Sprintf("codes %v", codes)
	if got := plainCodes(b, w); !slices.Equal(got, codes) {
		t.Errorf("%s: %+v: the test's write has the codes %v", what, w, got)
	}
	want := impl.BookDid{Code: codes[0]}
	if codes[0] >= 3 {
		want.Book = b
	}
	if codes[0] == 4 {
		o, _ := plainFind(b, w.Kind, w.Name)
		want.Version = o.Version
	}
	wantDid(t, what, b, w, want)
}

func TestOpsAreTheDocuments(t *testing.T) {
	got := []int{impl.BookCreate, impl.BookUpdate, impl.BookEnd, impl.BookHold, impl.BookLetGo, impl.BookMaxBundle}
	if want := []int{1, 2, 3, 4, 5, 10}; !slices.Equal(got, want) {
		t.Errorf("ops and the greatest bundle %v, want %v", got, want)
	}
}

func TestWritesThatAreDone(t *testing.T) {
	for _, c := range []struct {
		what   string
		write  impl.BookWrite
		change impl.BookChange
	}{
		{"made", create("new", "text", ""), told(saying(thing("k", "new", 21, 21), "text"))},
		{"made with a hold", create("new", "text", "h"), told(saying(thing("k", "new", 21, 21, "h"), "text"))},
		{"made with no text", create("new", "", ""), told(thing("k", "new", 21, 21))},
		{"made with a hold and no text", create("new", "", "-"), told(thing("k", "new", 21, 21, "-"))},
		{"made ahead of its kind", create("a", "", ""), told(thing("k", "a", 21, 21))},
		{"made ahead of a longer name", create("fre", "", ""), told(thing("k", "fre", 21, 21))},
		{"made behind a shorter name", create("free-", "", ""), told(thing("k", "free-", 21, 21))},
		{"made behind its kind", create("zz", "", ""), told(thing("k", "zz", 21, 21))},
		{"made ahead of all", impl.BookWrite{Op: 1, Kind: "a", Name: "z"}, told(thing("a", "z", 21, 21))},
		{"made behind all", impl.BookWrite{Op: 1, Kind: "l", Name: "g"}, told(thing("l", "g", 21, 21))},
		{"made of a new kind", impl.BookWrite{Op: 1, Kind: "kk", Name: "free"}, told(thing("kk", "free", 21, 21))},
		{"changed", update("free", "new"), told(saying(thing("k", "free", 21, 1), "new"))},
		{"changed to nothing", update("free", ""), told(thing("k", "free", 21, 1))},
		{"changed to what it is", update("free", "free"), told(saying(thing("k", "free", 21, 1), "free"))},
		{"changed, with holds", update("held", "\x00\xff"), told(saying(thing("k", "held", 21, 2, "b", "d", "f"), "\x00\xff"))},
		{"changed, the first", impl.BookWrite{Op: 2, Kind: "j", Name: "free", Text: "x"}, told(saying(thing("j", "free", 21, 9), "x"))},
		{"changed, the last", impl.BookWrite{Op: 2, Kind: "l", Name: "free", Text: "x"}, told(saying(thing("l", "free", 21, 10), "x"))},
		{"ended with no holds", end("free"), gone(saying(thing("k", "free", 21, 1), "free"))},
		{"ended, the first", impl.BookWrite{Op: 3, Kind: "j", Name: "free"}, gone(saying(thing("j", "free", 21, 9), "of another kind"))},
		{"ended, the last", impl.BookWrite{Op: 3, Kind: "l", Name: "free"}, gone(saying(thing("l", "free", 21, 10), "of another kind"))},
		{"ended with a hold", end("one"), told(saying(ending(thing("k", "one", 21, 5, "h")), "one"))},
		{"ended with holds", end("tight"), told(saying(ending(thing("k", "tight", 21, 6, "a", "c", "e", "g", "i")), "tight"))},
		{"the first hold", hold("free", "h"), told(saying(thing("k", "free", 21, 1, "h"), "free"))},
		{"a hold ahead", hold("held", "a"), told(saying(thing("k", "held", 21, 2, "a", "b", "d", "f"), "held"))},
		{"a hold between", hold("held", "c"), told(saying(thing("k", "held", 21, 2, "b", "c", "d", "f"), "held"))},
		{"a hold between, further on", hold("held", "e"), told(saying(thing("k", "held", 21, 2, "b", "d", "e", "f"), "held"))},
		{"a hold behind", hold("held", "g"), told(saying(thing("k", "held", 21, 2, "b", "d", "f", "g"), "held"))},
		{"a hold that begins as another", hold("held", "d-"), told(saying(thing("k", "held", 21, 2, "b", "d", "d-", "f"), "held"))},
		{"let go, the first hold", letGo("held", "b"), told(saying(thing("k", "held", 21, 2, "d", "f"), "held"))},
		{"let go, one between", letGo("held", "d"), told(saying(thing("k", "held", 21, 2, "b", "f"), "held"))},
		{"let go, the last in order", letGo("held", "f"), told(saying(thing("k", "held", 21, 2, "b", "d"), "held"))},
		{"let go, the only hold, not Ending", letGo("one", "h"), told(saying(thing("k", "one", 21, 5), "one"))},
		{"let go, the only hold, Ending", letGo("last", "h"), gone(saying(thing("k", "last", 21, 3), "last"))},
		{"let go, one of two, Ending", letGo("leaving", "g"), told(saying(ending(thing("k", "leaving", 21, 4, "h")), "leaving"))},
		{"let go, one of five, Ending", letGo("tied", "e"), told(saying(ending(thing("k", "tied", 21, 7, "a", "c", "g", "i")), "tied"))},
		{"changed as it was seen", seen(11, update("free", "new")), told(saying(thing("k", "free", 21, 1), "new"))},
		{"ended as it was seen", seen(11, end("free")), gone(saying(thing("k", "free", 21, 1), "free"))},
		{"held as it was seen", seen(11, hold("free", "h")), told(saying(thing("k", "free", 21, 1, "h"), "free"))},
		{"let go as it was seen", seen(13, letGo("last", "h")), gone(saying(thing("k", "last", 21, 3), "last"))},
	} {
		wantDone(t, c.what, yard(), c.write, c.change)
	}
}

func TestWritesBehindAHistory(t *testing.T) {
	of := func(w impl.BookWrite) impl.BookWrite { w.Kind = "job"; return w }
	wantDone(t, "made a third time", shelf(), of(create("b", "", "")), told(thing("job", "b", 19, 19)))
	wantDone(t, "changed again", shelf(), of(update("a", "t")), told(saying(thing("job", "a", 19, 18, "x", "y"), "t")))
	wantDone(t, "gone again", shelf(), of(end("c")), gone(thing("job", "c", 19, 15)))
	wantDone(t, "told though it was forgotten", shelf(), impl.BookWrite{Op: 5, Kind: "disk", Name: "b", Hold: "h"}, gone(thing("disk", "b", 19, 10)))
	wantDone(t, "the first of all", impl.Book{}, create("n", "t", "h"), told(saying(thing("k", "n", 1, 1, "h"), "t")))
	only := impl.Book{Now: 1, Objects: []impl.BookObject{thing("k", "n", 1, 1)}, History: []impl.BookChange{told(thing("k", "n", 1, 1))}}
	wantDone(t, "the only one goes", only, end("n"), gone(thing("k", "n", 2, 1)))
	empty := impl.Book{Objects: []impl.BookObject{}, History: []impl.BookChange{}, Tickets: []impl.BookTicket{}}
	wantDone(t, "empty lists", empty, create("n", "", ""), told(thing("k", "n", 1, 1)))
	wantCodes(t, shelf(), of(update("b", "")), 3)
	wantCodes(t, empty, update("n", ""), 3)
}

func TestFullHistory(t *testing.T) {
	for _, c := range []struct{ changes, now, told, floor int }{
		{198, 198, 199, 0}, {199, 199, 200, 0}, {200, 200, 200, 1}, {200, 333, 200, 134}, {199, 333, 200, 134}, {200, 999999, 200, 999800},
	} {
		b := longStory(c.changes, c.now)
		change := told(saying(thing("k", "n", c.now+1, c.now-c.changes+1), "t"))
		what := fmt.Sprintf("%d changes up to %d", c.changes, c.now)
		wantDone(t, what, b, update("n", "t"), change)
		got := impl.BookDo(b, update("n", "t")).Book
		if len(got.History) != c.told || got.Floor != c.floor || got.History[0].Version != c.floor+1 {
			t.Errorf("%s: %d changes behind Floor %d", what, len(got.History), got.Floor)
		}
	}
	wantDone(t, "another one is made", longStory(200, 200), create("a", "", ""), told(thing("k", "a", 201, 201)))
	wantDone(t, "it goes", longStory(200, 200), end("n"), gone(thing("k", "n", 201, 1)))
	b := impl.BookDo(longStory(199, 1000), end("n")).Book // its last change is the last that is forgotten
	for i := range 250 {
		w := create("m", "", "")
		if i > 0 {
			w = update("m", "")
		}
		want := plainDo(b, w)
		wantDid(t, fmt.Sprintf("write %d behind a full history", i), b, w, want)
		b = want.Book
	}
	wantPoints(t, "all of the first one forgotten", b)
}

func TestCode1BookNotValid(t *testing.T) {
	writes := []impl.BookWrite{{}, create("new", "t", "h"), create("free", "", ""), seen(1, update("free", "")), update("none", ""), end("last"), hold("tight", "z"), letGo("held", "z"), {Op: 9, Seen: -1}}
	for what, spoil := range map[string]func(b *impl.Book){
		"Floor below 0":      func(b *impl.Book) { b.Floor = -1 },
		"Now too great":      func(b *impl.Book) { b.Now, b.Floor = 1000001, 1000001 },
		"names out of order": func(b *impl.Book) { b.Objects[1].Name = "z" },
		"no history":         func(b *impl.Book) { b.Floor = 19 },
		"a ticket's code":    func(b *impl.Book) { b.Tickets[1].Code = 10 },
	} {
		for _, w := range writes {
			b := yard()
			spoil(&b)
			wantDid(t, what, b, w, impl.BookDid{Code: 1})
		}
	}
}

func TestCode2Names(t *testing.T) {
	for c := range 256 {
		for _, name := range []string{string([]byte{byte(c)}), string([]byte{'a', byte(c), 'a'})} {
			is := nameForm.MatchString(name)
			for what, w := range map[string]impl.BookWrite{
				"kind": {Op: 1, Kind: name, Name: "n"}, "name": {Op: 1, Kind: "y", Name: name}, "hold": create("new", "", name), "another hold": hold("free", name),
			} {
				if is {
					wantDid(t, what, yard(), w, plainDo(yard(), w))
				} else {
					wantCodes(t, yard(), w, 2)
				}
			}
		}
	}
	long, longer := strings.Repeat("n", 20), strings.Repeat("n", 21)
	wantDone(t, "a long name", yard(), create(long, "", ""), told(thing("k", long, 21, 21)))
	wantDone(t, "a long kind", yard(), impl.BookWrite{Op: 1, Kind: long, Name: "n"}, told(thing(long, "n", 21, 21)))
	wantDone(t, "a long hold", yard(), create("new", "", long), told(thing("k", "new", 21, 21, long)))
	wantDone(t, "a long hold more", yard(), hold("free", long), told(saying(thing("k", "free", 21, 1, long), "free")))
	wantCodes(t, yard(), create(longer, "", ""), 2)
	wantCodes(t, yard(), impl.BookWrite{Op: 1, Kind: longer, Name: "n"}, 2)
	wantCodes(t, yard(), create("new", "", longer), 2)
	wantCodes(t, yard(), hold("free", longer), 2)
	wantCodes(t, yard(), create("", "", ""), 2)
	wantCodes(t, yard(), impl.BookWrite{Op: 1, Name: "n"}, 2)
	for _, op := range []int{2, 3, 4, 5} {
		need := ""
		if op > 3 {
			need = "h"
		}
		wantCodes(t, yard(), impl.BookWrite{Op: op, Kind: "k", Name: "Free", Hold: need}, 2, 3)
		wantCodes(t, yard(), impl.BookWrite{Op: op, Kind: "K", Name: "free", Hold: need}, 2, 3)
	}
}

func TestCode2OpsTextsAndSeen(t *testing.T) {
	for _, op := range []int{0, -1, 6, 7, math.MaxInt, math.MinInt} {
		wantCodes(t, yard(), impl.BookWrite{Op: op, Kind: "k", Name: "free"}, 2)
		wantCodes(t, yard(), impl.BookWrite{Op: op, Kind: "k", Name: "free", Text: "t", Hold: "h", Seen: 11}, 2)
	}
	wantCodes(t, yard(), impl.BookWrite{}, 2, 3)
	for _, by := range []int{-1, math.MinInt} {
		for _, w := range []impl.BookWrite{update("free", ""), end("free"), hold("free", "h"), letGo("one", "h")} {
			wantCodes(t, yard(), seen(by, w), 2, 4)
		}
		wantCodes(t, yard(), seen(by, create("new", "", "")), 2)
	}
	most, more := strings.Repeat("\xff", 300), strings.Repeat("x", 301)
	wantDone(t, "a long text", yard(), create("new", most, ""), told(saying(thing("k", "new", 21, 21), most)))
	wantDone(t, "a long text", yard(), update("free", most), told(saying(thing("k", "free", 21, 1), most)))
	wantCodes(t, yard(), create("new", more, ""), 2)
	wantCodes(t, yard(), update("free", more), 2)
	wantCodes(t, yard(), update("free", strings.Repeat("\u00e9", 151)), 2)
}

func TestCode2WhatAnOpDoesNotUse(t *testing.T) {
	with := func(w impl.BookWrite, change func(w *impl.BookWrite)) impl.BookWrite {
		change(&w)
		return w
	}
	text := func(w *impl.BookWrite) { w.Text = "t" }
	aHold := func(w *impl.BookWrite) { w.Hold = "h" }
	noHold := func(w *impl.BookWrite) { w.Hold = "" }
	wantCodes(t, yard(), seen(1, create("new", "", "")), 2)
	wantCodes(t, yard(), seen(20, create("new", "", "")), 2)
	wantCodes(t, yard(), with(update("free", "t"), aHold), 2)
	wantCodes(t, yard(), with(update("free", ""), aHold), 2)
	wantCodes(t, yard(), with(end("free"), aHold), 2)
	wantCodes(t, yard(), with(end("free"), text), 2)
	wantCodes(t, yard(), with(hold("free", "h"), text), 2)
	wantCodes(t, yard(), with(hold("free", "h"), noHold), 2)
	wantCodes(t, yard(), with(letGo("one", "h"), text), 2)
	wantCodes(t, yard(), with(letGo("one", "h"), noHold), 2, 6)
	wantCodes(t, yard(), with(end("free"), func(w *impl.BookWrite) { w.Text = "\x00" }), 2)
}

func TestCodes3To8Alone(t *testing.T) {
	for _, name := range []string{"free", "one", "last"} {
		wantCodes(t, yard(), create(name, "", ""), 3)
		wantCodes(t, yard(), create(name, "t", "z"), 3)
	}
	for _, w := range []impl.BookWrite{update("none", "t"), end("none"), hold("none", "h"), letGo("none", "h")} {
		wantCodes(t, yard(), w, 3)
		wantCodes(t, yard(), seen(11, w), 3)
	}
	wantCodes(t, yard(), impl.BookWrite{Op: 2, Kind: "l", Name: "one"}, 3)
	for _, by := range []int{1, 10, 12, 20, 21, 1000000, 1000001, math.MaxInt} {
		wantCodes(t, yard(), seen(by, update("free", "free")), 4)
		wantCodes(t, yard(), seen(by, end("free")), 4)
		wantCodes(t, yard(), seen(by, hold("free", "h")), 4)
		wantCodes(t, yard(), seen(by, letGo("one", "h")), 4)
	}
	for _, w := range []impl.BookWrite{update("last", "t"), end("last"), hold("last", "g"), end("leaving")} {
		wantCodes(t, yard(), w, 5)
	}
	wantCodes(t, yard(), seen(13, update("last", "t")), 5)
	wantCodes(t, yard(), hold("one", "h"), 6)
	wantCodes(t, yard(), hold("held", "f"), 6)
	wantCodes(t, yard(), letGo("free", "h"), 6)
	wantCodes(t, yard(), letGo("held", "c"), 6)
	wantCodes(t, yard(), letGo("last", "g"), 6)
	wantCodes(t, yard(), seen(11, letGo("free", "h")), 6)
	wantCodes(t, yard(), hold("tight", "b"), 7)
	wantCodes(t, crowded(100), create("new", "", ""), 7)
	for _, w := range []impl.BookWrite{create("new", "t", "h"), update("free", "t"), end("free"), end("one"), hold("held", "c"), letGo("held", "d"), letGo("last", "h"), seen(11, update("free", "t"))} {
		wantCodes(t, atEnd(yard()), w, 8)
	}
	wantCodes(t, longStory(200, 1000000), update("n", "t"), 8)
}

func TestLimitsOfWrites(t *testing.T) {
	wantDone(t, "the 99th object", crowded(98), create("new", "", ""), told(thing("k", "new", 301, 301)))
	wantDone(t, "the 100th object", crowded(99), create("new", "", ""), told(thing("k", "new", 301, 301)))
	wantDone(t, "a change of one of 100", crowded(100), update("free", "t"), told(saying(thing("k", "free", 301, 1), "t")))
	wantDone(t, "a hold of one of 100", crowded(100), hold("free", "h"), told(saying(thing("k", "free", 301, 1, "h"), "free")))
	wantDone(t, "one of 100 goes", crowded(100), end("free"), gone(saying(thing("k", "free", 301, 1), "free")))
	four := yard()
	four.Objects[2].Holds = []string{"b", "d", "f", "h"}
	wantDone(t, "the 5th hold", four, hold("held", "a"), told(saying(thing("k", "held", 21, 2, "a", "b", "d", "f", "h"), "held")))
	wantDone(t, "one of 5 holds", yard(), letGo("tight", "i"), told(saying(thing("k", "tight", 21, 6, "a", "c", "e", "g"), "tight")))
	last := yard()
	last.Now, last.Floor = 999999, 999999
	wantDone(t, "the last version", last, update("free", "t"), told(saying(thing("k", "free", 1000000, 1), "t")))
	wantDone(t, "made in the last version", last, create("new", "", ""), told(thing("k", "new", 1000000, 1000000)))
	wantDone(t, "gone in the last version", last, end("free"), gone(saying(thing("k", "free", 1000000, 1), "free")))
}

func TestOfTwoCodesTheEarlier(t *testing.T) {
	bad := func(w impl.BookWrite) impl.BookWrite { w.Text = strings.Repeat("x", 301); return w }
	wantCodes(t, broken(yard()), impl.BookWrite{Op: 6, Kind: "k", Name: "free"}, 1, 2)
	wantCodes(t, broken(yard()), create("free", "", ""), 1, 3)
	wantCodes(t, broken(yard()), update("none", ""), 1, 3)
	wantCodes(t, broken(yard()), seen(1, update("free", "")), 1, 4)
	wantCodes(t, broken(yard()), end("last"), 1, 5)
	wantCodes(t, broken(yard()), letGo("free", "h"), 1, 6)
	wantCodes(t, broken(yard()), hold("tight", "b"), 1, 7)
	wantCodes(t, broken(crowded(100)), create("new", "", ""), 1, 7)
	wantCodes(t, broken(atEnd(yard())), create("new", "", ""), 1, 8)
	wantCodes(t, yard(), bad(create("free", "", "")), 2, 3)
	wantCodes(t, yard(), bad(update("none", "")), 2, 3)
	wantCodes(t, yard(), bad(seen(1, update("free", ""))), 2, 4)
	wantCodes(t, yard(), bad(update("last", "")), 2, 5)
	wantCodes(t, yard(), bad(hold("one", "h")), 2, 6)
	wantCodes(t, yard(), bad(letGo("one", "g")), 2, 6)
	wantCodes(t, yard(), bad(hold("tight", "b")), 2, 7)
	wantCodes(t, crowded(100), bad(create("new", "", "")), 2, 7)
	wantCodes(t, atEnd(yard()), bad(create("new", "", "")), 2, 8)
	wantCodes(t, crowded(100), create("free", "", ""), 3, 7)
	wantCodes(t, atEnd(yard()), create("free", "", ""), 3, 8)
	wantCodes(t, atEnd(yard()), end("none"), 3, 8)
	wantCodes(t, yard(), seen(1, update("last", "")), 4, 5)
	wantCodes(t, yard(), seen(1, end("last")), 4, 5)
	wantCodes(t, yard(), seen(1, hold("one", "h")), 4, 6)
	wantCodes(t, yard(), seen(1, letGo("one", "g")), 4, 6)
	wantCodes(t, yard(), seen(1, letGo("last", "g")), 4, 6)
	wantCodes(t, yard(), seen(1, hold("tight", "b")), 4, 7)
	wantCodes(t, atEnd(yard()), seen(1, update("free", "")), 4, 8)
	wantCodes(t, yard(), hold("last", "h"), 5, 6)
	wantCodes(t, yard(), hold("tied", "b"), 5, 7)
	wantCodes(t, atEnd(yard()), end("last"), 5, 8)
	wantCodes(t, yard(), hold("tight", "c"), 6, 7)
	wantCodes(t, atEnd(yard()), letGo("free", "h"), 6, 8)
	wantCodes(t, atEnd(yard()), hold("tight", "b"), 7, 8)
	wantCodes(t, atEnd(crowded(100)), create("new", "", ""), 7, 8)
	wantCodes(t, yard(), hold("tied", "c"), 5, 6, 7)
	wantCodes(t, broken(atEnd(yard())), bad(seen(1, hold("tied", "c"))), 1, 2, 4, 5, 6, 7, 8)
}
