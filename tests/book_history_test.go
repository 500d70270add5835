package tests

import (
	"fmt"
	"math"
	"math/rand"
	"testing"

	"loop.example/wharflog/impl"
)

// wantAt holds a book's past against what it is to be, and looks at its memory.
func wantAt(t *testing.T, what string, b impl.Book, version int, want []impl.BookObject, all bool) {
	t.Helper()
	memoryKept(t, what, b, func(given impl.Book) impl.Book {
		got, whole := impl.BookAt(given, version)
		if whole != all || !sameObjects(got, want) {
			t.Errorf("%s: at %d\ngives %v, %+v\nwant  %v, %+v", what, version, whole, got, all, want)
		}
		return impl.Book{Objects: got}
	})
}

// wantCut holds a book that forgets against what it is to be, and looks at its memory.
func wantCut(t *testing.T, what string, b impl.Book, floor int, want impl.Book) {
	t.Helper()
	memoryKept(t, what, b, func(given impl.Book) impl.Book {
		got := impl.BookCut(given, floor)
		if !sameBook(got, want) {
			t.Errorf("%s: cut at %d\ngives %+v\nwant  %+v", what, floor, got, want)
		}
		return got
	})
}

func TestAtOfTheShelf(t *testing.T) {
	a, b := shelf().Objects[0], shelf().Objects[1]
	changed := thing("job", "b", 12, 4)
	made := thing("job", "c", 15, 15)
	for _, c := range []struct {
		version int
		jobs    []impl.BookObject
		all     bool
	}{
		{10, nil, false}, // job/b was there
		{11, []impl.BookObject{thing("job", "a", 11, 11)}, false},
		{12, []impl.BookObject{thing("job", "a", 11, 11), changed}, true},
		{13, []impl.BookObject{thing("job", "a", 13, 11, "h"), changed}, true},
		{14, []impl.BookObject{ending(thing("job", "a", 14, 11, "h")), changed}, true},
		{15, []impl.BookObject{ending(thing("job", "a", 14, 11, "h")), changed, made}, true},
		{16, []impl.BookObject{changed, made}, true},
		{17, []impl.BookObject{made}, true},
		{18, []impl.BookObject{thing("job", "a", 18, 18, "x", "y"), made}, true},
	} {
		wantAt(t, "the shelf", shelf(), c.version, append([]impl.BookObject{a, b}, c.jobs...), c.all)
	}
	for _, version := range []int{9, 19, 0, -1, -10, 20, 210, 218, -190, 1000000, math.MaxInt, math.MinInt} {
		wantAt(t, "the shelf, no such version", shelf(), version, nil, false)
	}
}

func TestAtOfLives(t *testing.T) {
	m := func(version, born int) impl.BookObject { return thing("k", "m", version, born) }
	n := func(version, born int) impl.BookObject { return thing("k", "n", version, born) }
	o := func(version, born int) impl.BookObject { return thing("k", "o", version, born) }
	type then struct {
		all  bool
		list []impl.BookObject
	}
	known := func(list ...impl.BookObject) then { return then{true, list} }
	partly := func(list ...impl.BookObject) then { return then{false, list} }
	for _, c := range []struct {
		what  string
		book  impl.Book
		pasts []then // from version 5 on
	}{
		{"made", lives(told(n(6, 6))), []then{known(), known(n(6, 6))}},
		{"changed, and was there", lives(told(n(6, 5))), []then{partly(), known(n(6, 5))}},
		{"gone, and was there", lives(gone(n(6, 5))), []then{partly(), known()}},
		{"made, then changed: the first counts", lives(told(n(6, 6)), told(n(7, 6))), []then{known(), known(n(6, 6)), known(n(7, 6))}},
		{"made, then gone: the first counts", lives(told(n(6, 6)), gone(n(7, 6))), []then{known(), known(n(6, 6)), known()}},
		{"gone, then made again", lives(gone(n(6, 3)), told(n(7, 7))), []then{partly(), known(), known(n(7, 7))}},
		{"changed, then gone, then made", lives(told(n(6, 3)), gone(n(7, 3)), told(n(8, 8))), []then{partly(), known(n(6, 3)), known(), known(n(8, 8))}},
		{"gone, then others", lives(gone(n(6, 3)), told(m(7, 7)), told(o(8, 8))), []then{partly(), known(), known(m(7, 7)), known(m(7, 7), o(8, 8))}},
		{"the last one was there", lives(told(m(6, 6)), told(o(7, 7)), told(n(8, 2))), []then{partly(), partly(m(6, 6)), partly(m(6, 6), o(7, 7)), known(m(6, 6), n(8, 2), o(7, 7))}},
		{"two were there", lives(told(o(6, 1)), told(m(7, 2))), []then{partly(), partly(o(6, 1)), known(m(7, 2), o(6, 1))}},
		{"made in the other order", lives(told(o(6, 6)), told(n(7, 7)), told(m(8, 8))), []then{known(), known(o(6, 6)), known(n(7, 7), o(6, 6)), known(m(8, 8), n(7, 7), o(6, 6))}},
		{"held and let go", lives(told(thing("k", "n", 6, 6, "h")), told(ending(thing("k", "n", 7, 6, "h"))), gone(n(8, 6))), []then{known(), known(thing("k", "n", 6, 6, "h")), known(ending(thing("k", "n", 7, 6, "h"))), known()}},
	} {
		wantPoints(t, c.what, c.book)
		if len(c.pasts) != len(c.book.History)+1 {
			t.Errorf("%s: the test has %d pasts", c.what, len(c.pasts))
		}
		for i, p := range c.pasts {
			wantAt(t, c.what, c.book, 5+i, p.list, p.all)
			wantAt(t, c.what+", with one that never changed", withOld(c.book), 5+i, withOld(impl.Book{Objects: p.list}).Objects, p.all)
		}
		wantAt(t, c.what, c.book, 4, nil, false)
		wantAt(t, c.what, c.book, 6+len(c.book.History), nil, false)
	}
}

// withOld is a book with two objects more, ahead of the others and behind them, that have not changed since Floor, which is 5.
func withOld(b impl.Book) impl.Book {
	b.Objects = append([]impl.BookObject{thing("j", "z", 5, 5, "h")}, b.Objects...)
	b.Objects = append(b.Objects, thing("l", "a", 4, 3))
	return b
}

func TestAtKeepsKindsApart(t *testing.T) {
	b := impl.Book{Now: 4, Floor: 1, Objects: []impl.BookObject{thing("a", "bc", 1, 1), thing("ab", "c", 4, 2), thing("b", "c", 3, 3)},
		History: []impl.BookChange{told(thing("ab", "c", 2, 2)), told(thing("b", "c", 3, 3)), told(thing("ab", "c", 4, 2))}}
	wantPoints(t, "kinds", b)
	wantAt(t, "kinds", b, 1, b.Objects[:1], true)
	wantAt(t, "kinds", b, 2, []impl.BookObject{b.Objects[0], thing("ab", "c", 2, 2)}, true)
	wantAt(t, "kinds", b, 3, []impl.BookObject{b.Objects[0], thing("ab", "c", 2, 2), b.Objects[2]}, true)
	wantAt(t, "kinds", b, 4, b.Objects, true)
}

func TestAtOfSmallBooks(t *testing.T) {
	wantAt(t, "nothing", impl.Book{}, 0, nil, true)
	wantAt(t, "nothing", impl.Book{}, 1, nil, false)
	wantAt(t, "nothing", impl.Book{}, -1, nil, false)
	wantAt(t, "nothing left", impl.Book{Now: 7, Floor: 7}, 7, nil, true)
	wantAt(t, "nothing left", impl.Book{Now: 7, Floor: 7}, 6, nil, false)
	wantAt(t, "objects alone", yard(), 20, yard().Objects, true)
	wantAt(t, "objects alone", yard(), 19, nil, false)
	wantAt(t, "objects alone", yard(), 21, nil, false)
	wantAt(t, "the last version", atEnd(yard()), 1000000, yard().Objects, true)
	wantAt(t, "behind the last version", atEnd(yard()), 1000001, nil, false)
}

func TestAtOfLongHistories(t *testing.T) {
	for _, now := range []int{200, 201, 333, 399, 400, 401, 777, 1000000} {
		for _, changes := range []int{1, 199, 200} {
			b := longStory(changes, now)
			what := fmt.Sprintf("%d changes up to %d", changes, now)
			wantAt(t, what, b, b.Floor, nil, true)
			wantAt(t, what, b, b.Floor-1, nil, false)
			wantAt(t, what, b, b.Now+1, nil, false)
			for version := b.Floor + 1; version <= now; version += 1 + changes/20 {
				wantAt(t, what, b, version, []impl.BookObject{thing("k", "n", version, b.Floor+1)}, true)
			}
			wantAt(t, what, b, now, b.Objects, true)
		}
	}
}

// A valid book may tell of more objects than it has room for, though no writes lead to it.
func TestAtOfMoreThanABookHas(t *testing.T) {
	b := impl.Book{Now: 400, Floor: 200}
	for i := range 100 {
		b.Objects = append(b.Objects, thing("k", fmt.Sprintf("n%03d", i), 1+i, 1+i, "h"))
		b.History = append(b.History, told(thing("j", fmt.Sprintf("n%03d", i), 201+i, 201+i)))
	}
	for i := range 100 {
		b.History = append(b.History, gone(thing("j", fmt.Sprintf("n%03d", i), 301+i, 201+i)))
	}
	wantPoints(t, "many", b)
	var both []impl.BookObject
	for i := range 100 {
		both = append(both, b.History[i].Object)
	}
	both = append(both, b.Objects...)
	wantAt(t, "many", b, 300, both, true)
	wantAt(t, "many", b, 299, append(both[:99:99], both[100:]...), true)
	wantAt(t, "many", b, 301, both[1:], true)
	wantAt(t, "many", b, 200, b.Objects, true)
	wantAt(t, "many", b, 400, b.Objects, true)
	cut := impl.BookCut(b, 300)
	wantAt(t, "many, cut", cut, 300, b.Objects, false)
	wantAt(t, "many, cut", cut, 399, b.Objects, false)
	wantAt(t, "many, cut", cut, 400, b.Objects, true)
}

func TestCuts(t *testing.T) {
	for _, floor := range []int{math.MinInt, -1, 0, 1, 9, 10} {
		wantCut(t, "not above Floor", shelf(), floor, shelf())
	}
	for forgotten := range 9 {
		want := shelf()
		want.Floor, want.History = 10+forgotten, want.History[forgotten:]
		wantPoints(t, "a cut", want)
		wantCut(t, "between Floor and Now", shelf(), 10+forgotten, want)
	}
	want := shelf()
	want.Floor, want.History = 18, nil
	for _, floor := range []int{18, 19, 20, 210, 1000000, 1000001, math.MaxInt} {
		wantCut(t, "not below Now", shelf(), floor, want)
	}
}

func TestCutsOfSmallAndGreatBooks(t *testing.T) {
	for _, floor := range []int{math.MinInt, -1, 0, 1, 20, 1000000, math.MaxInt} {
		wantCut(t, "nothing", impl.Book{}, floor, impl.Book{})
		wantCut(t, "no history", yard(), floor, yard())
		wantCut(t, "no history at the last version", atEnd(yard()), floor, atEnd(yard()))
	}
	for _, now := range []int{200, 333, 400, 1000000} {
		b := longStory(200, now)
		for _, forgotten := range []int{0, 1, 67, 199, 200} {
			want := b
			want.Floor, want.History = b.Floor+forgotten, b.History[forgotten:]
			wantCut(t, "a full history", b, b.Floor+forgotten, want)
		}
		if cut := impl.BookCut(b, b.Floor+150); !sameBook(impl.BookCut(cut, b.Floor+10), cut) {
			t.Errorf("a full history up to %d: Floor goes back: %+v", now, impl.BookCut(cut, b.Floor+10))
		}
	}
}

func TestThePastOfBooksThatAreNotValid(t *testing.T) {
	for what, b := range notValid() {
		for _, version := range []int{-1, 0, 1, b.Floor, b.Now, 10, 15, 18, math.MaxInt, math.MinInt} {
			wantAt(t, what, b, version, nil, false)
			wantCut(t, what, b, version, impl.Book{})
		}
	}
}

func TestThePastOfStrangeBooks(t *testing.T) {
	valid, partly := 0, 0
	eachStory(t, func(dice *rand.Rand, b impl.Book) {
		b = copyBook(b)
		spoil(dice, &b)
		version := b.Floor - 1 + dice.Intn(max(0, b.Now-b.Floor)+3)
		list, all := plainAt(b, version)
		wantAt(t, "a strange book", b, version, list, all)
		wantCut(t, "a strange book", b, version, plainCut(b, version))
		if all {
			valid++
		} else if len(list) > 0 {
			partly++
		}
	})
	if valid < 500 || partly < 500 {
		t.Errorf("the test is not worth much: %d pasts that are known, %d partly", valid, partly)
	}
}
