package tests

import (
	"math/rand"
	"strings"
	"testing"

	"loop.example/wharflog/impl"
)

func sameObjects(a, b []impl.BookObject) bool {
	return sameBook(impl.Book{Objects: a}, impl.Book{Objects: b})
}

// wantListed holds a list against what it is to be, and looks at its memory.
func wantListed(t *testing.T, what string, b impl.Book, kind, prefix string, want []impl.BookObject, now int) {
	t.Helper()
	memoryKept(t, what, b, func(given impl.Book) impl.Book {
		got, n := impl.BookList(given, kind, prefix)
		if n != now || !sameObjects(got, want) {
			t.Errorf("%s: kind %q, prefix %q\ngives %d, %+v\nwant  %d, %+v", what, kind, prefix, n, got, now, want)
		}
		return impl.Book{Objects: got}
	})
}

// drawer is a valid book of objects whose kinds and names begin alike.
func drawer() impl.Book {
	b := resting(40,
		thing("a", "k", 1, 1),
		thing("k", "-", 2, 2, "h"),
		thing("k", "a", 10, 3),
		thing("k", "a-b", 4, 4, "f", "g"),
		ending(thing("k", "a.b", 5, 5, "h")),
		thing("k", "ab", 6, 6),
		thing("k", "abc", 40, 7),
		thing("k", "b", 8, 8),
		thing("k", "ba", 9, 9),
		thing("k0", "ab", 11, 11),
		thing("kk", "a", 12, 12),
		thing("kk", "z", 13, 13),
		thing("l", strings.Repeat("a", 20), 14, 14))
	b.Tickets = []impl.BookTicket{ticket("ann")}
	return b
}

func TestLists(t *testing.T) {
	all := []int{0, 1, 2, 3, 4, 5, 6, 7, 8, 9, 10, 11, 12}
	for _, c := range []struct {
		what         string
		kind, prefix string
		places       []int
	}{
		{"all", "", "", all},
		{"a kind", "k", "", all[1:9]},
		{"a kind that others begin with", "kk", "", []int{10, 11}},
		{"the first kind", "a", "", []int{0}},
		{"the last kind", "l", "", []int{12}},
		{"a prefix of all kinds", "", "a", []int{2, 3, 4, 5, 6, 9, 10, 12}},
		{"a prefix of a kind", "k", "a", []int{2, 3, 4, 5, 6}},
		{"a longer prefix", "k", "ab", []int{5, 6}},
		{"a prefix that is a name and no other's beginning", "k", "abc", []int{6}},
		{"a prefix that is longer than each that begins so", "k", "abcd", nil},
		{"a prefix with a dot, which is no wild card", "k", "a.", []int{4}},
		{"a prefix with a dash", "k", "a-", []int{3}},
		{"the first of a kind", "k", "-", []int{1}},
		{"the last of a kind", "k", "ba", []int{8}},
		{"what stands in the middle of names", "k", "c", nil},
		{"a prefix of one kind alone", "", "z", []int{11}},
		{"a prefix of 20 bytes", "", strings.Repeat("a", 20), []int{12}},
		{"a prefix of 21 bytes", "", strings.Repeat("a", 21), nil},
		{"a prefix of 500 bytes", "l", strings.Repeat("a", 500), nil},
		{"a prefix of 19 bytes", "l", strings.Repeat("a", 19), []int{12}},
		{"a prefix of no name", "k", "A", nil},
		{"a prefix of no name, of all kinds", "", "a ", nil},
		{"a prefix of strange bytes", "", "\x00\xff", nil},
		{"a kind that none is of", "m", "", nil},
		{"a kind that is the beginning of some", "", "k", []int{0}},
		{"a kind that is none", "K", "", nil},
		{"a kind with a space", "k ", "", nil},
		{"a kind of 21 bytes", strings.Repeat("k", 21), "", nil},
		{"kind and prefix turned around", "ab", "k", nil},
	} {
		var want []impl.BookObject
		for _, place := range c.places {
			want = append(want, drawer().Objects[place])
		}
		wantListed(t, c.what, drawer(), c.kind, c.prefix, want, 40)
	}
}

func TestListsOfSmallAndGreatBooks(t *testing.T) {
	wantListed(t, "nothing", impl.Book{}, "", "", nil, 0)
	wantListed(t, "nothing of a kind", impl.Book{}, "k", "a", nil, 0)
	wantListed(t, "nothing left", impl.Book{Now: 7, Floor: 7}, "", "", nil, 7)
	wantListed(t, "empty lists", impl.Book{Objects: []impl.BookObject{}, History: []impl.BookChange{}}, "", "", nil, 0)
	wantListed(t, "a history", shelf(), "", "", shelf().Objects, 18)
	wantListed(t, "a history, of a kind", shelf(), "job", "", shelf().Objects[2:], 18)
	wantListed(t, "one that is gone", shelf(), "job", "b", nil, 18)
	wantListed(t, "100 objects", crowded(100), "", "", crowded(100).Objects, 300)
	wantListed(t, "91 objects", crowded(100), "z", "n", crowded(100).Objects[9:], 300)
	wantListed(t, "the last version", atEnd(yard()), "", "", yard().Objects, 1000000)
}

func TestListsOfBooksThatAreNotValid(t *testing.T) {
	for what, b := range notValid() {
		for _, kind := range []string{"", "k", "job"} {
			wantListed(t, what, b, kind, "", nil, 0)
			wantListed(t, what, b, kind, "a", nil, 0)
		}
	}
}

// notValid are books that are nearly valid, one for each point and some more.
func notValid() map[string]impl.Book {
	books := map[string]impl.Book{"Now below 0": {Now: -1}, "Now alone": {Now: 1}, "201 changes": longStory(201, 201), "101 objects": crowded(101)}
	for what, spoil := range map[string]func(b *impl.Book){
		"Floor below 0":       func(b *impl.Book) { b.Floor = -1 },
		"Floor above Now":     func(b *impl.Book) { b.Floor = 19 },
		"Floor too low":       func(b *impl.Book) { b.Floor = 9 },
		"objects turned":      func(b *impl.Book) { b.Objects[0], b.Objects[1] = b.Objects[1], b.Objects[0] },
		"a hold that is none": func(b *impl.Book) { b.Objects[1].Holds = []string{"H"} },
		"an object less":      func(b *impl.Book) { b.Objects = b.Objects[:3] },
		"a change less":       func(b *impl.Book) { b.History = b.History[1:] },
		"a change turned":     func(b *impl.Book) { b.History[0], b.History[1] = b.History[1], b.History[0] },
		"a version far away":  func(b *impl.Book) { b.History[3].Version = -7 },
		"a ticket's code":     func(b *impl.Book) { b.Tickets[1].Code = 10 },
	} {
		b := shelf()
		spoil(&b)
		books[what] = b
	}
	return books
}

func TestNotValidIsSo(t *testing.T) {
	for what, b := range notValid() {
		if len(brokenPoints(b)) == 0 {
			t.Errorf("%s: the test's book is valid", what)
		}
	}
}

func TestRunsOfLists(t *testing.T) {
	some, none := 0, 0
	eachRun(t, 2, 200, func(r *run) {
		r.book = growth(r)
		kind, prefix := draw(r, "", "k", "l", "m", "kk"), draw(r, "", "a", "a.", "b", "b-c", "b-cd", "c", "~")
		want, now := plainListed(r.book, kind, prefix)
		wantListed(t, "a run", r.book, kind, prefix, want, now)
		if len(want) > 0 && len(want) < len(r.book.Objects) {
			some++
		} else if len(want) == 0 {
			none++
		}
	})
	if some < 100 || none < 100 {
		t.Errorf("the test is not worth much: %d lists of some objects, %d of none", some, none)
	}
}

func TestListsOfStrangeBooks(t *testing.T) {
	eachStory(t, func(dice *rand.Rand, b impl.Book) {
		b = copyBook(b)
		spoil(dice, &b)
		r := run{dice, b}
		kind, prefix := draw(&r, "", "k", "l"), draw(&r, "", "a", "b")
		want, now := plainListed(b, kind, prefix)
		wantListed(t, "a strange book", b, kind, prefix, want, now)
	})
}
