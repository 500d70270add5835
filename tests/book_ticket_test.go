package tests

import (
	"fmt"
	"math"
	"math/rand"
	"reflect"
	"strings"
	"testing"

	"loop.example/wharflog/impl"
)

func call(client string, number int, x impl.BookBundle) impl.BookCall {
	return impl.BookCall{Client: client, Number: number, Bundle: x}
}

func said(code, version int) impl.BookSaid {
	return impl.BookSaid{Code: code, Version: version}
}

func again(code, version int) impl.BookSaid {
	return impl.BookSaid{Code: code, Version: version, Again: true}
}

// taken is the ticket of a call that was said this.
func taken(c impl.BookCall, s impl.BookSaid) impl.BookTicket {
	return impl.BookTicket{Client: c.Client, Number: c.Number, Print: plainPrint(c.Bundle), Code: s.Code, Version: s.Version}
}

// wantAsked holds a call against its answer, and looks at the memory of both.
func wantAsked(t *testing.T, what string, b impl.Book, c impl.BookCall, book impl.Book, s impl.BookSaid) {
	t.Helper()
	given := c
	given.Bundle = impl.BookBundle{Wants: roomy(c.Bundle.Wants, impl.BookWant{Name: "~"}), Writes: roomy(c.Bundle.Writes, impl.BookWrite{Name: "~"})}
	behind := wholeBundle(given.Bundle)
	memoryKept(t, what, b, func(b impl.Book) impl.Book {
		got, gotSaid := impl.BookAsk(b, given)
		if gotSaid != s || !sameBook(got, book) {
			t.Errorf("%s: %+v\ngives %+v, %+v\nwant  %+v, %+v", what, c, gotSaid, got, s, book)
		}
		return got
	})
	if !reflect.DeepEqual(behind, wholeBundle(given.Bundle)) {
		t.Errorf("%s: %+v: BookAsk wrote into the bundle or behind it", what, c)
	}
}

// wantNew wants that a call is new: its bundle comes to this, and its ticket is kept.
func wantNew(t *testing.T, what string, b impl.Book, c impl.BookCall, s impl.BookSaid) impl.Book {
	t.Helper()
	did, _ := plainAll(b, c.Bundle)
	if did.Code != s.Code || did.Version != s.Version {
		t.Errorf("%s: the test's bundle comes to code %d, version %d", what, did.Code, did.Version)
	}
	book := withTicket(did.Book, taken(c, s))
	wantPoints(t, what, book)
	wantAsked(t, what, b, c, book, s)
	return book
}

// wantIdle wants that nothing is done, and that this is said.
func wantIdle(t *testing.T, what string, b impl.Book, c impl.BookCall, s impl.BookSaid) {
	t.Helper()
	if _, plain := plainAsk(b, c); plain != s {
		t.Errorf("%s: the test's call is said %+v", what, plain)
	}
	wantAsked(t, what, b, c, b, s)
}

// clients is a book in which so many clients have a ticket.
func clients(b impl.Book, many int) impl.Book {
	b.Tickets = nil
	for i := range many {
		t := ticket(fmt.Sprintf("c%02d", i))
		t.Number = 5
		b.Tickets = append(b.Tickets, t)
	}
	return b
}

func TestCallsThatAreDone(t *testing.T) {
	wantNew(t, "the first of all", impl.Book{}, call("ann", 1, writes(create("a", "t", "h"))), said(0, 1))
	wantNew(t, "nothing to do", impl.Book{}, call("ann", 1, impl.BookBundle{}), said(0, 0))
	wantNew(t, "nothing to do, empty lists", yard(), call("ann", 2, impl.BookBundle{Wants: []impl.BookWant{}, Writes: []impl.BookWrite{}}), said(0, 20))
	wantNew(t, "nothing to do at the last version", atEnd(yard()), call("zed", 2, impl.BookBundle{}), said(0, 1000000))
	wantNew(t, "the last number first", impl.Book{}, call("ann", 1000000, writes(create("a", "", ""))), said(0, 1))
	for _, client := range []string{"ann", "bob", "a", "-", "anna", "ann.", "am", "bo", "bobby", "bod", "z", strings.Repeat("z", 20)} {
		for _, number := range []int{2, 3, 999999, 1000000} {
			wantNew(t, "a write", yard(), call(client, number, writes(update("free", "t"))), said(0, 21))
			wantNew(t, "several writes", yard(), call(client, number, writes(update("free", "t"), letGo("last", "h"), create("new", "", "h"))), said(0, 23))
			wantNew(t, "wants alone", shelf(), call(client, number, wants(want("none", 0))), said(0, 18))
			wantNew(t, "wants and writes", yard(), call(client, number, but(writes(end("free")), want("free", 11), want("none", 0))), said(0, 21))
		}
	}
	wantNew(t, "the history is full", longStory(200, 200), call("ann", 1, writes(update("n", "t"), update("n", "u"))), said(0, 202))
}

func TestCallsWhoseBundleIsRefused(t *testing.T) {
	for _, c := range []struct {
		code int
		x    impl.BookBundle
	}{
		{3, writes(create("free", "", ""))}, {3, writes(update("free", ""), end("none"))}, {4, writes(seen(1, update("free", "")))},
		{5, writes(end("last"))}, {6, writes(hold("one", "h"))}, {6, writes(letGo("one", "g"))}, {7, writes(hold("tight", "b"))},
		{9, wants(want("free", 12))}, {9, but(writes(end("none")), want("none", 1))},
	} {
		for _, client := range []string{"ada", "ann", "anna", "bob", "zed"} {
			asked := call(client, 2, c.x)
			behind := wantNew(t, "refused", yard(), asked, said(c.code, 0))
			if last, _ := ticketOf(behind, client); last.Code != c.code || last.Version != 0 || last.Number != 2 {
				t.Errorf("refused with code %d: the test's ticket is %+v", c.code, last)
			}
			wantIdle(t, "refused, again", behind, asked, again(c.code, 0))
			wantNew(t, "refused, and a later one", behind, call(client, 3, writes(update("free", "t"))), said(0, 21))
		}
	}
	wantNew(t, "no room for an object", crowded(100), call("ann", 2, writes(create("new", "", ""))), said(7, 0))
	wantNew(t, "no version left", atEnd(yard()), call("ann", 2, writes(update("free", ""))), said(8, 0))
}

// Promise 9: a call whose bundle would come to something else by now has the answer that it had.
func TestCallsAskedAgain(t *testing.T) {
	make1, take := call("ann", 3, writes(create("a", "t", ""))), call("bob", 7, writes(end("a")))
	b := wantNew(t, "made", impl.Book{}, make1, said(0, 1))
	wantIdle(t, "at once", b, make1, again(0, 1))
	b = wantNew(t, "taken away", b, take, said(0, 2))
	wantIdle(t, "behind another's call", b, make1, again(0, 1))
	wantIdle(t, "the other's", b, take, again(0, 2))
	refused := call("cy", 1, writes(update("a", "t")))
	b = wantNew(t, "refused", b, refused, said(3, 0))
	b = impl.BookDo(b, create("a", "", "")).Book
	wantIdle(t, "it might be done by now", b, refused, again(3, 0))
	wantIdle(t, "it might be refused by now", b, make1, again(0, 1))
	b = wantNew(t, "a later one", b, call("ann", 4, writes(create("b", "", ""))), said(0, 4))
	wantIdle(t, "behind a later one of its client", b, make1, said(8, 0))
	wantIdle(t, "behind a later one of another client", b, take, again(0, 2))
	b = impl.BookCut(b, 4)
	wantIdle(t, "its change is forgotten", b, take, again(0, 2))
	x := writes(update("free", "t"))
	for code := range 10 {
		old := yard()
		old.Tickets[0] = impl.BookTicket{Client: "ann", Number: 6, Print: plainPrint(x), Code: code, Version: 17}
		wantIdle(t, "whatever the ticket tells", old, call("ann", 6, x), again(code, 17))
	}
	full := clients(yard(), 50)
	full.Tickets[49].Print = plainPrint(x)
	wantIdle(t, "no room for one more client", full, call("c49", 5, x), again(0, 0))
}

func TestCode7OtherBundles(t *testing.T) {
	x := but(writes(update("free", "t"), hold("one", "i")), want("free", 11), want("none", 0))
	b := wantNew(t, "the bundle", yard(), call("ann", 2, x), said(0, 22))
	for what, y := range map[string]impl.BookBundle{
		"nothing":              {},
		"a want less":          but(writes(update("free", "t"), hold("one", "i")), want("free", 11)),
		"a want more":          but(writes(update("free", "t"), hold("one", "i")), want("free", 11), want("none", 0), want("none", 0)),
		"wants turned":         but(writes(update("free", "t"), hold("one", "i")), want("none", 0), want("free", 11)),
		"another version":      but(writes(update("free", "t"), hold("one", "i")), want("free", 1), want("none", 0)),
		"another want":         but(writes(update("free", "t"), hold("one", "i")), want("free", 11), want("nine", 0)),
		"another want's kind":  but(writes(update("free", "t"), hold("one", "i")), want("free", 11), impl.BookWant{Kind: "j", Name: "none"}),
		"a write less":         but(writes(update("free", "t")), want("free", 11), want("none", 0)),
		"writes turned":        but(writes(hold("one", "i"), update("free", "t")), want("free", 11), want("none", 0)),
		"another text":         but(writes(update("free", "T"), hold("one", "i")), want("free", 11), want("none", 0)),
		"no text":              but(writes(update("free", ""), hold("one", "i")), want("free", 11), want("none", 0)),
		"another hold":         but(writes(update("free", "t"), hold("one", "j")), want("free", 11), want("none", 0)),
		"another Op":           but(writes(update("free", "t"), letGo("one", "i")), want("free", 11), want("none", 0)),
		"another name":         but(writes(update("free", "t"), hold("two", "i")), want("free", 11), want("none", 0)),
		"another Seen":         but(writes(seen(11, update("free", "t")), hold("one", "i")), want("free", 11), want("none", 0)),
		"one that has a code":  writes(end("nowhere")),
		"one that would be 9":  wants(want("free", 1)),
		"a write's other kind": but(writes(impl.BookWrite{Op: 2, Kind: "l", Name: "free", Text: "t"}, hold("one", "i")), want("free", 11), want("none", 0)),
	} {
		wantIdle(t, what, b, call("ann", 2, y), said(7, 0))
		wantIdle(t, what+", at another Number that is late", b, call("ann", 1, y), said(8, 0))
	}
	wantIdle(t, "a Print that no bundle of the test has", yard(), call("bob", 1, x), said(7, 0))
	wantIdle(t, "the bundle itself", b, call("ann", 2, x), again(0, 22))
	wantIdle(t, "no room for one more client", clients(yard(), 50), call("c00", 5, x), said(7, 0))
	last := withTicket(yard(), taken(call("ann", 1000000, x), said(0, 5)))
	wantIdle(t, "the last number", last, call("ann", 1000000, writes(end("free"))), said(7, 0))
	refused := wantNew(t, "a bundle that is refused", yard(), call("ann", 2, writes(end("none"))), said(3, 0))
	wantIdle(t, "another one behind it", refused, call("ann", 2, writes(end("free"))), said(7, 0))
}

func TestCode8LateCalls(t *testing.T) {
	first, second := call("ann", 5, writes(create("a", "", ""))), call("ann", 9, writes(create("b", "", "")))
	b := wantNew(t, "the first", impl.Book{}, first, said(0, 1))
	b = wantNew(t, "the second", b, second, said(0, 2))
	wantIdle(t, "the first comes late", b, first, said(8, 0))
	for _, number := range []int{1, 4, 5, 6, 8} {
		wantIdle(t, "late", b, call("ann", number, writes(create("c", "", ""))), said(8, 0))
		wantIdle(t, "late, with nothing to do", b, call("ann", number, impl.BookBundle{}), said(8, 0))
		wantIdle(t, "late, with the second's bundle", b, call("ann", number, second.Bundle), said(8, 0))
		wantIdle(t, "late, with a bundle that has a code", b, call("ann", number, writes(end("none"))), said(8, 0))
		wantNew(t, "of another client", b, call("anna", number, writes(create("c", "", ""))), said(0, 3))
	}
	wantIdle(t, "no room for one more client", clients(yard(), 50), call("c17", 4, writes(end("free"))), said(8, 0))
	last := withTicket(yard(), taken(call("ann", 1000000, impl.BookBundle{}), said(0, 5)))
	wantIdle(t, "behind the last number", last, call("ann", 999999, writes(end("free"))), said(8, 0))
	wantIdle(t, "a number that there is not", last, call("ann", 1000001, writes(end("free"))), said(1, 0))
}

func TestCode6TooManyClients(t *testing.T) {
	full := clients(yard(), 50)
	for _, client := range []string{"a", "c000", "c20.", "c50", "z"} {
		for _, number := range []int{1, 5, 6, 1000000} {
			wantIdle(t, "one more", full, call(client, number, writes(update("free", "t"))), said(6, 0))
			wantIdle(t, "one more, with nothing to do", full, call(client, number, impl.BookBundle{}), said(6, 0))
			wantIdle(t, "one more, with a bundle that has a code", full, call(client, number, writes(end("none"))), said(6, 0))
			wantIdle(t, "one more, with a want that is not so", full, call(client, number, wants(want("free", 1))), said(6, 0))
		}
		b := wantNew(t, "the last that there is room for", clients(yard(), 49), call(client+"-", 1, writes(update("free", "t"))), said(0, 21))
		wantIdle(t, "and one more", b, call(client, 1, writes(update("free", "t"))), said(6, 0))
		wantNew(t, "a bundle that has a code takes the last room", clients(yard(), 49), call(client, 1, writes(end("none"))), said(3, 0))
	}
	for _, client := range []string{"c00", "c01", "c25", "c49"} {
		wantNew(t, "one that has a ticket", full, call(client, 6, writes(update("free", "t"))), said(0, 21))
		wantNew(t, "one that has a ticket, with a bundle that has a code", full, call(client, 6, writes(end("none"))), said(3, 0))
	}
}

func TestCode1OfCalls(t *testing.T) {
	bundles := []impl.BookBundle{{}, writes(update("free", "t")), writes(end("none")), writes(impl.BookWrite{}), wants(make([]impl.BookWant, 11)...)}
	for what, b := range notValid() {
		for _, x := range bundles {
			wantIdle(t, what, b, call("ann", 2, x), said(1, 0))
			wantIdle(t, what+", no client", b, call("", 0, x), said(1, 0))
			wantIdle(t, what+", a ticket's number", b, call("ann", 1, x), said(1, 0))
		}
	}
	for _, b := range []impl.Book{{}, yard(), clients(yard(), 50)} {
		for _, x := range bundles {
			for _, client := range []string{"", "A", "ann ", " ann", "a_b", "a\n", "\xff", "\u00e9", "\"", strings.Repeat("a", 21)} {
				wantIdle(t, "a Client that is no name", b, call(client, 1, x), said(1, 0))
			}
			for _, number := range []int{0, -1, 1000001, math.MinInt, math.MaxInt} {
				wantIdle(t, "a Number that there is not", b, call("ann", number, x), said(1, 0))
				wantIdle(t, "a Number that there is not, of a client", b, call("c00", number, x), said(1, 0))
			}
		}
	}
}

func TestCode2OfCalls(t *testing.T) {
	for what, x := range map[string]impl.BookBundle{
		"no write":               writes(impl.BookWrite{}),
		"no want":                wants(impl.BookWant{}),
		"a version below 0":      wants(want("free", -1)),
		"11 wants":               wants(make([]impl.BookWant, 11)...),
		"11 writes":              writes(make([]impl.BookWrite, 11)...),
		"behind one done":        writes(update("free", "t"), end("Free")),
		"behind one with a code": writes(end("none"), update("free", strings.Repeat("x", 301))),
		"a want is not so":       but(writes(hold("free", "")), want("free", 1)),
		"what is not used":       writes(seen(11, create("new", "", ""))),
	} {
		wantIdle(t, what+", the first of all", impl.Book{}, call("ann", 1, x), said(2, 0))
		wantIdle(t, what+", a new client", yard(), call("zed", 1, x), said(2, 0))
		wantIdle(t, what+", a new number", yard(), call("ann", 2, x), said(2, 0))
		wantIdle(t, what+", its last number", yard(), call("ann", 1, x), said(2, 0))
		wantIdle(t, what+", a late number", clients(yard(), 2), call("c01", 4, x), said(2, 0))
		wantIdle(t, what+", one client too many", clients(yard(), 50), call("ann", 2, x), said(2, 0))
		own := withTicket(yard(), taken(call("ann", 4, x), said(2, 0)))
		wantIdle(t, what+", a ticket that tells of it", own, call("ann", 4, x), said(2, 0))
	}
}

func TestCallsOfStrangeBooks(t *testing.T) {
	codes, agains := map[int]int{}, 0
	eachStory(t, func(dice *rand.Rand, b impl.Book) {
		r := run{dice, b}
		old := call(draw(&r, "a", "b"), 2, r.bundle())
		b = withTicket(b, taken(old, said(dice.Intn(10), dice.Intn(b.Now+1))))
		spoil(dice, &b)
		c := old
		if dice.Intn(4) > 0 {
			c = call(draw(&r, "a", "b", "c", "C"), draw(&r, 0, 1, 2, 2, 3, 3), r.bundle())
		}
		book, s := plainAsk(b, c)
		codes[s.Code]++
		agains += boolInt(s.Again)
		wantAsked(t, "a strange book", b, c, book, s)
		if valid := len(brokenPoints(b)) == 0; valid && len(brokenPoints(book)) > 0 {
			t.Errorf("%+v leads to a book that is not valid", c)
		}
	})
	countCodes(t, codes, 0, 1, 2, 3, 7, 8, 9)
	if agains < 100 {
		t.Errorf("the test is not worth much: %d calls asked again", agains)
	}
}
