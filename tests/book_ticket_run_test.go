package tests

import (
	"fmt"
	"math/rand"
	"testing"

	"loop.example/wharflog/impl"
)

// An asker is a client that keeps its last call and what it was said.
type asker struct {
	client string
	last   impl.BookCall
	said   impl.BookSaid
}

// askers are so many clients; some names begin as others do.
func askers(many int) []*asker {
	var list []*asker
	for i := range many {
		list = append(list, &asker{client: fmt.Sprintf("%c%s", 'a'+i%5, []string{"", "-", ".x", "0", "nn", "nna"}[i/5%6])})
		if i >= 30 {
			list[i].client += fmt.Sprint(i)
		}
	}
	return list
}

// ask makes a new call, which is answered as the plain reading has it; a bundle that is refused with code 2 takes no ticket.
func (a *asker) ask(t *testing.T, r *run) impl.BookSaid {
	t.Helper()
	number := a.last.Number
	if old, known := ticketOf(r.book, a.client); known {
		number = old.Number
	}
	c := call(a.client, number+draw(r, 1, 1, 2, 1000), r.bundle())
	book, s := plainAsk(r.book, c)
	wantAsked(t, "a new call", r.book, c, book, s)
	if points := brokenPoints(book); len(points) > 0 {
		t.Errorf("%+v leads to a book that breaks the points %v", c, points)
	}
	if _, kept := ticketOf(book, a.client); kept && s.Code != 2 {
		a.last, a.said = c, s
	}
	r.book = book
	return s
}

// wantOnce asks the last call once more: nothing is done, and it has the answer that it had.
func (a *asker) wantOnce(t *testing.T, what string, b impl.Book) {
	t.Helper()
	if a.last.Number == 0 {
		return
	}
	book, s := impl.BookAsk(b, a.last)
	if s != again(a.said.Code, a.said.Version) || !sameBook(book, b) {
		t.Errorf("%s: %+v was said %+v, and is said %+v, with %+v", what, a.last, a.said, s, book)
	}
}

// wantRefused asks another bundle under the last number, and any under a number that is late.
func (a *asker) wantRefused(t *testing.T, r *run, codes map[int]int) {
	t.Helper()
	if a.last.Number == 0 {
		return
	}
	other, late := call(a.client, a.last.Number, r.bundle()), call(a.client, a.last.Number-draw(r, 1, 2, 500), a.last.Bundle)
	if !plainBundleRefused(other.Bundle) && plainPrint(other.Bundle) != plainPrint(a.last.Bundle) {
		codes[7]++
		wantIdle(t, "another bundle", r.book, other, said(7, 0))
	}
	if late.Number > 0 {
		codes[8]++
		wantIdle(t, "a late call", r.book, late, said(8, 0))
	}
}

// Promise 9.
func TestPromise9Once(t *testing.T) {
	seen, refused := map[int]int{}, map[int]int{}
	eachAsking(t, 3, 80, 6, func(r *run, list []*asker) {
		a := draw(r, list...)
		seen[a.ask(t, r).Code]++
		a.wantOnce(t, "at once", r.book)
		a.wantRefused(t, r, refused)
		for range r.dice.Intn(3) {
			r.book = growth(r)
		}
		if r.dice.Intn(8) == 0 {
			r.book = impl.BookCut(r.book, r.book.Now-r.dice.Intn(5))
		}
		for _, other := range list {
			other.wantOnce(t, "behind other calls and writes", r.book)
		}
	})
	countCodes(t, seen, 0, 2, 3, 9)
	countCodes(t, refused, 7, 8)
}

// eachAsking lets a book grow from each start, with so many new clients.
func eachAsking(t *testing.T, seeds, steps, many int, step func(r *run, list []*asker)) {
	t.Helper()
	for name, start := range starts() {
		for seed := range seeds {
			r, list := &run{rand.New(rand.NewSource(int64(seed))), start}, askers(many)
			for i := range steps {
				step(r, list)
				if t.Failed() {
					t.Fatalf("from %s, seed %d, step %d", name, seed, i)
				}
			}
		}
	}
}

// Promise 9, with more clients than there is room for.
func TestPromise9ManyClients(t *testing.T) {
	seen := map[int]int{}
	eachAsking(t, 1, 300, 65, func(r *run, list []*asker) {
		a := draw(r, list...)
		_, known := ticketOf(r.book, a.client)
		full := len(r.book.Tickets) == 50
		s := a.ask(t, r)
		seen[s.Code]++
		if full && !known && s.Code != 2 && s != said(6, 0) {
			t.Errorf("no room for %s, but it is said %+v", a.client, s)
		}
		if len(r.book.Tickets) > 50 {
			t.Errorf("%d tickets", len(r.book.Tickets))
		}
		draw(r, list...).wantOnce(t, "one of many", r.book)
	})
	countCodes(t, seen, 0, 2, 3, 6, 9)
}

// Promise 9 of a client alone: its calls asked one by one, twice, three times and late leave the book that they leave asked once.
func TestPromise9TheBookBehind(t *testing.T) {
	eachRun(t, 1, 20, func(r *run) {
		once, often := r.book, r.book
		var calls []impl.BookCall
		for i := range 4 {
			x := (&run{r.dice, once}).bundle()
			c := call("solo", 10+i, x)
			calls = append(calls, c)
			once, _ = impl.BookAsk(once, c)
			for range 3 {
				often, _ = impl.BookAsk(often, c)
				late := draw(r, calls...)
				if late.Number < c.Number {
					often, _ = impl.BookAsk(often, late)
				}
			}
		}
		if !sameBook(once, often) {
			t.Errorf("%+v: asked once\n%+v\nasked often\n%+v", calls, once, often)
		}
		r.book = once
		r.book.Tickets = nil
	})
}
