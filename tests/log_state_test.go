package tests

import (
	"fmt"
	"slices"
	"strings"
	"testing"

	"loop.example/wharflog/impl"
)

// asked is the form of a call of one write.
func asked(client string, number int, w impl.BookWrite) string {
	return rawCall(one(client, number, w))
}

// asksOf are the program's BookAsk, and the plain one, which takes long where texts are many.
func asksOf(texts []string) []ask {
	if len(texts) > 70 {
		return []ask{impl.BookAsk}
	}
	return []ask{impl.BookAsk, plainAsk}
}

// wantState holds the book that texts lead to against what BookAsk one after the other leads to, and looks at the memory of both.
func wantState(t *testing.T, what string, texts []string, book impl.Book) {
	t.Helper()
	for _, ask := range asksOf(texts) {
		if plain := plainState(texts, ask); !sameBook(plain, book) {
			t.Errorf("%s: %q: the test's book is %+v, and was to be %+v", what, texts, plain, book)
		}
	}
	wantPoints(t, what, book)
	listsKept(t, what, texts, impl.LogState)
	keepsTexts(t, what, texts, func(texts []string) {
		got, other := impl.LogState(texts), impl.LogState(texts)
		if !sameBook(got, book) || !impl.BookValid(got) {
			t.Errorf("%s: %q\nleads to %+v\nwant     %+v", what, texts, got, book)
		}
		if !apart(append(spansOf(got), spansOf(other)...)) {
			t.Errorf("%s: two answers share memory", what)
		}
	})
}

// A saidGiven is what LogSaid is given, a saidTold what it tells.
type saidGiven struct {
	texts []string
	text  string
}

type saidTold struct {
	said impl.BookSaid
	is   bool
}

func saidOf(g saidGiven) saidTold {
	s, is := impl.LogSaid(g.texts, g.text)
	return saidTold{s, is}
}

// wantSaid holds an answer against what BookAsk says where the text stands first, and looks at the memory of the texts.
func wantSaid(t *testing.T, what string, texts []string, text string, want saidTold) {
	t.Helper()
	for _, ask := range asksOf(texts) {
		if plain, is := plainSaid(texts, text, ask); plain != want.said || is != want.is {
			t.Errorf("%s: %q of %q: the test's answer is %v, %+v, and was to be %+v", what, text, texts, is, plain, want)
		}
	}
	keepsTexts(t, what, texts, func(texts []string) {
		if got := saidOf(saidGiven{texts, text}); got != want {
			t.Errorf("%s: %q of %q gives %+v, want %+v", what, text, texts, got, want)
		}
	})
}

// keepsTexts wants that a call writes nothing into texts or behind their end, and does not look there.
func keepsTexts(t *testing.T, what string, texts []string, call func(texts []string)) {
	t.Helper()
	given := roomy(texts, asked("behind", 1, create("behind", "", "")))
	before := slices.Clone(given[:cap(given)])
	call(given)
	if !slices.Equal(before, given[:cap(given)]) {
		t.Errorf("%s: something was written into texts or behind their end", what)
	}
}

func wantNotSaid(t *testing.T, what string, texts []string, text string) {
	t.Helper()
	wantSaid(t, what, texts, text, saidTold{})
}

// notCalls are texts that are no forms.
func notCalls() []string {
	return []string{"", " ", "no call", "x", `ann 1 1 k x 0 * "" `, `ann 01 1 k x 0 * ""`, `Ann 1 1 k x 0 * ""`, `ann 1 1 k x 1 * ""`, `ann 0 1 k x 0 * ""`, `ann 1 3 k x 0 h ""`, "ann 1 1 k x 0 *",
		`ann 1 1 k x 0 * "\61"`, asked("ann", 1, create("x", long(83), "")), long(1000), "\xff", "book 0 0\n"}
}

func TestLogStateOfNothing(t *testing.T) {
	wantState(t, "no texts", nil, impl.Book{})
	wantState(t, "no texts", []string{}, impl.Book{})
	for _, text := range notCalls() {
		wantState(t, "no call", []string{text}, impl.Book{})
		wantState(t, "no call, twice", []string{text, text}, impl.Book{})
	}
	wantState(t, "no calls", notCalls(), impl.Book{})
}

// Others count for nothing, wherever they stand.
func TestLogStateOfOthers(t *testing.T) {
	calls := []string{asked("ann", 1, create("x", "1", "h")), asked("bob", 1, update("x", "2")), asked("ann", 2, end("x")), asked("cy", 7, letGo("x", "h"))}
	gone1 := gone(thing("k", "x", 4, 1))
	gone1.Object.Text = "2"
	book := impl.Book{Now: 4, History: []impl.BookChange{
		told(saying(thing("k", "x", 1, 1, "h"), "1")), told(saying(thing("k", "x", 2, 1, "h"), "2")), told(saying(ending(thing("k", "x", 3, 1, "h")), "2")), gone1,
	}, Tickets: []impl.BookTicket{
		taken(one("ann", 2, end("x")), said(0, 3)), taken(one("bob", 1, update("x", "2")), said(0, 2)), taken(one("cy", 7, letGo("x", "h")), said(0, 4)),
	}}
	wantState(t, "calls alone", calls, book)
	for _, text := range notCalls() {
		for i := range len(calls) + 1 {
			wantState(t, "one that is no call", slices.Insert(slices.Clone(calls), i, text), book)
		}
	}
	wantState(t, "all others in the midst", slices.Insert(slices.Clone(calls), 2, notCalls()...), book)
}

// One text twice is asked again, and changes nothing; so do tickets that are old, and other calls under one ticket.
func TestLogStateOfTextsTwice(t *testing.T) {
	make1, change := one("ann", 1, create("x", "1", "")), one("ann", 3, update("x", "2"))
	first := impl.Book{Now: 1, Objects: []impl.BookObject{saying(thing("k", "x", 1, 1), "1")}, History: []impl.BookChange{told(saying(thing("k", "x", 1, 1), "1"))}, Tickets: []impl.BookTicket{taken(make1, said(0, 1))}}
	second := impl.Book{Now: 2, Objects: []impl.BookObject{saying(thing("k", "x", 2, 1), "2")}, History: append(slices.Clone(first.History), told(saying(thing("k", "x", 2, 1), "2"))), Tickets: []impl.BookTicket{taken(change, said(0, 2))}}
	a, b := rawCall(make1), rawCall(change)
	wantState(t, "once", []string{a}, first)
	wantState(t, "twice", []string{a, a}, first)
	wantState(t, "three times", []string{a, a, "", a}, first)
	wantState(t, "another write under its ticket", []string{a, asked("ann", 1, end("x"))}, first)
	wantState(t, "two, one after the other", []string{a, b}, second)
	wantState(t, "the first again", []string{a, b, a}, second)
	wantState(t, "both again", []string{a, a, b, b, a, b}, second)
	wantState(t, "an old ticket that was never asked", []string{a, b, asked("ann", 2, end("x"))}, second)
	wantState(t, "another write under the last ticket", []string{a, b, asked("ann", 3, end("x")), asked("ann", 3, update("x", "3"))}, second)
}

// Calls whose write is refused leave a ticket behind, and nothing else.
func TestLogStateOfRefusals(t *testing.T) {
	texts := []string{asked("ann", 1, create("x", "", "a")), asked("ann", 2, create("y", "", "")), asked("ann", 3, hold("x", "b")), asked("ann", 4, hold("x", "c")), asked("ann", 5, hold("x", "d")), asked("ann", 6, hold("x", "e")), asked("ann", 7, create("z", "", "h")), asked("ann", 8, end("z"))}
	base := plainState(texts, plainAsk)
	if base.Now != 8 || len(base.Tickets) != 1 {
		t.Fatalf("the test's book is %+v", base)
	}
	for _, c := range []struct {
		code int
		w    impl.BookWrite
	}{
		{3, create("x", "", "")}, {3, update("none", "")}, {3, impl.BookWrite{Op: 3, Kind: "l", Name: "x"}}, {4, seen(1, update("x", ""))}, {4, seen(1000000, end("y"))}, {4, seen(7, letGo("z", "h"))},
		{5, update("z", "t")}, {5, end("z")}, {5, hold("z", "g")}, {6, hold("x", "a")}, {6, letGo("y", "a")}, {7, hold("x", "f")},
	} {
		asker := one("bob", 1, c.w)
		whole := append(slices.Clone(texts), rawCall(asker))
		wantState(t, "a write that is refused", whole, withTicket(base, taken(asker, said(c.code, 0))))
		wantState(t, "a write that is refused, twice", append(slices.Clone(whole), rawCall(asker)), withTicket(base, taken(asker, said(c.code, 0))))
		wantSaid(t, "a write that is refused", whole, rawCall(asker), saidTold{said(c.code, 0), true})
		late := rawCall(one("ann", 8, c.w))
		wantState(t, "by its ticket", append(slices.Clone(texts), late, late), base)
	}
}

// More clients than a book has room for.
func TestLogStateFullOfTickets(t *testing.T) {
	var texts []string
	for i := range 60 {
		texts = append(texts, asked(fmt.Sprintf("c%02d", i*7%60), 1, create(fmt.Sprintf("x%02d", i), "", "")))
	}
	book := plainState(texts, plainAsk)
	if book.Now != 50 || len(book.Objects) != 50 || len(book.Tickets) != 50 {
		t.Fatalf("the test's book has %d, %d, %d", book.Now, len(book.Objects), len(book.Tickets))
	}
	wantState(t, "60 clients", texts, book)
	wantState(t, "60 clients, twice", append(slices.Clone(texts), texts...), book)
	wantState(t, "50 clients", texts[:50], book)
	wantState(t, "60 clients, and others", append(slices.Clone(texts), notCalls()...), book)
	for i, text := range texts {
		s := said(0, i+1)
		if i >= 50 {
			s = said(6, 0)
		}
		wantSaid(t, "one of 60", texts, text, saidTold{s, true})
	}
	more := append(slices.Clone(texts), asked("c00", 2, end("x00")), texts[55], asked("zz", 1, end("x01")))
	wantSaid(t, "one that has a ticket", more, more[60], saidTold{said(0, 51), true})
	wantSaid(t, "one that had no room", more, more[61], saidTold{said(6, 0), true})
	wantSaid(t, "one that has none", more, more[62], saidTold{said(6, 0), true})
}

// More objects, and more changes, than a book has room for.
func TestLogStateFullOfObjects(t *testing.T) {
	var texts []string
	number := 0
	ask := func(w impl.BookWrite) string {
		number++
		texts = append(texts, asked("ann", number, w))
		return texts[number-1]
	}
	for i := range 100 {
		ask(create(fmt.Sprintf("x%03d", i), "", "h"))
	}
	wantSaid(t, "the last one that there is room for", texts, texts[99], saidTold{said(0, 100), true})
	tooMany := ask(create("y", "", ""))
	wantSaid(t, "one more", texts, tooMany, saidTold{said(7, 0), true})
	ask(end("x050"))
	left := ask(letGo("x050", "h"))
	wantSaid(t, "one goes", texts, left, saidTold{said(0, 102), true})
	fits := ask(create("y", "", ""))
	wantSaid(t, "and there is room", texts, fits, saidTold{said(0, 103), true})
	wantState(t, "100 objects", texts, plainState(texts, impl.BookAsk))
	for i := range 140 {
		ask(update(fmt.Sprintf("x%03d", i%40), fmt.Sprint(i)))
	}
	book := plainState(texts, plainAsk)
	if book.Now != 243 || book.Floor != 43 || len(book.History) != 200 || len(book.Objects) != 100 {
		t.Fatalf("the test's book has %d, %d, %d, %d", book.Now, book.Floor, len(book.History), len(book.Objects))
	}
	wantState(t, "more than 200 changes", texts, book)
	for upTo := 195; upTo < 210; upTo++ {
		wantState(t, "about 200 changes", texts[:upTo], plainState(texts[:upTo], impl.BookAsk))
	}
	wantSaid(t, "the last of all", texts, texts[number-1], saidTold{said(0, 243), true})
	wantSaid(t, "one whose change is forgotten", texts, texts[3], saidTold{said(0, 4), true})
}

func TestLogSaidPlaces(t *testing.T) {
	a, b, c, d := asked("ann", 1, create("x", "1", "")), asked("bob", 1, seen(1, update("x", "2"))), asked("cy", 1, seen(1, update("x", "3"))), asked("ann", 2, end("x"))
	texts := []string{a, "no call", b, c, d}
	wantSaid(t, "first", texts, a, saidTold{said(0, 1), true})
	wantSaid(t, "in the midst", texts, b, saidTold{said(0, 2), true})
	wantSaid(t, "refused", texts, c, saidTold{said(4, 0), true})
	wantSaid(t, "last", texts, d, saidTold{said(0, 3), true})
	wantSaid(t, "alone", []string{a}, a, saidTold{said(0, 1), true})
	wantSaid(t, "alone, and refused", []string{b}, b, saidTold{said(3, 0), true})
	wantSaid(t, "in another order", []string{c, d, b, a}, a, saidTold{said(8, 0), true})
	wantSaid(t, "in another order", []string{a, c, b, d}, b, saidTold{said(4, 0), true})
	wantNotSaid(t, "a text that is no call and stands there", texts, "no call")
	for i, text := range texts {
		wantNotSaid(t, "not there", slices.Delete(slices.Clone(texts), i, i+1), text)
		wantNotSaid(t, "not there yet", texts[:i], text)
		wantNotSaid(t, "no texts", nil, text)
		wantNotSaid(t, "no texts", []string{}, text)
		wantNotSaid(t, "a space more", texts, text+" ")
		wantNotSaid(t, "a space more, there too", []string{text + " "}, text+" ")
		wantNotSaid(t, "a space more, there", []string{text + " "}, text)
		wantNotSaid(t, "a beginning", texts, text[:len(text)-1])
	}
	wantNotSaid(t, "a call that nobody asked", texts, asked("dan", 1, end("x")))
	wantNotSaid(t, "nothing", texts, "")
	for _, text := range notCalls() {
		wantNotSaid(t, "no call", []string{a, text, b}, text)
		wantNotSaid(t, "no call, not there", []string{a, b}, text)
		wantNotSaid(t, "no call alone", []string{text}, text)
		wantSaid(t, "behind one that is no call", []string{text, a, text}, a, saidTold{said(0, 1), true})
	}
}

// Of equal texts the first one counts, though BookAsk says something else to the others.
func TestLogSaidTwice(t *testing.T) {
	a, b, c := asked("ann", 1, create("x", "1", "")), asked("ann", 2, end("x")), asked("ann", 1, update("x", "2"))
	first := saidTold{said(0, 1), true}
	wantSaid(t, "twice", []string{a, a}, a, first)
	wantSaid(t, "twice, and late by then", []string{a, b, a}, a, first)
	wantSaid(t, "twice, and another one under its ticket", []string{a, c, a}, a, first)
	wantSaid(t, "the other one under its ticket", []string{a, c, a, c}, c, saidTold{said(7, 0), true})
	wantSaid(t, "three times", []string{"", a, b, a, "", a}, a, first)
	wantSaid(t, "late at first", []string{b, a, a}, a, saidTold{said(8, 0), true})
	wantSaid(t, "the one that made it late", []string{b, a, a, b}, b, saidTold{said(3, 0), true})
	refused := asked("bob", 1, update("x", "2"))
	wantSaid(t, "refused at first, and might be done by now", []string{refused, a, refused}, refused, saidTold{said(3, 0), true})
	wantSaid(t, "done at first, and would be refused by now", []string{a, refused, b, refused}, refused, saidTold{said(0, 2), true})
}

// What stands behind a text is not to be seen in its answer; what stands ahead of it is.
func TestLogSaidHangsOnThoseAhead(t *testing.T) {
	texts := []string{asked("ann", 1, create("x", "1", "")), asked("ann", 2, update("x", "2")), "", asked("bob", 1, update("x", "3")), asked("bob", 2, end("x")), asked("ann", 3, update("x", "4"))}
	for i, text := range texts {
		for upTo := i + 1; upTo <= len(texts); upTo++ {
			if got, want := saidOf(saidGiven{texts[:upTo], text}), saidOf(saidGiven{texts[:i+1], text}); got != want {
				t.Errorf("%q: %+v with what is behind it, and %+v without", text, got, want)
			}
		}
	}
	wantSaid(t, "behind nothing", texts[3:], texts[3], saidTold{said(3, 0), true})
	wantSaid(t, "behind the others", texts, texts[3], saidTold{said(0, 3), true})
	wantSaid(t, "behind an end", texts, texts[5], saidTold{said(3, 0), true})
}

// Far more texts than any world has: they are gone through once.
func TestLogManyTexts(t *testing.T) {
	var texts []string
	for i := range 20000 {
		w := update(fmt.Sprintf("x%02d", i%90), "t")
		if i < 90 {
			w = create(fmt.Sprintf("x%02d", i), "", "h")
		}
		texts = append(texts, asked(strings.Repeat("c", 1+i%20), 1+i, w))
	}
	soon(t, "LogState", func() {
		b := impl.LogState(texts)
		if b.Now != 20000 || b.Floor != 19800 || !impl.BookValid(b) {
			t.Errorf("Now is %d, Floor %d", b.Now, b.Floor)
		}
	})
	soon(t, "LogSaid", func() {
		for _, i := range []int{0, 7, 10000, 19999} {
			if got, want := saidOf(saidGiven{texts, texts[i]}), (saidTold{said(0, i+1), true}); got != want {
				t.Errorf("text %d: %+v", i, got)
			}
		}
	})
}
