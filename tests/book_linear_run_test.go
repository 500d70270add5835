package tests

import (
	"fmt"
	"math/rand"
	"testing"

	"loop.example/wharflog/impl"
)

// A history draws calls that are made one after the other from a book, and when; the same seed draws the same ones.
type history struct {
	run
	bundles []impl.BookBundle
}

// tight are bundles with codes that a ticket may have as well: 6 to 8, in a yard that is full or whose versions end.
func tight() []impl.BookBundle {
	return []impl.BookBundle{
		writes(letGo("one", "g")), writes(hold("one", "h")), writes(hold("tight", "b")), writes(create("new", "", "")), writes(create("newer", "", "")),
		writes(update("free", "t")), writes(seen(11, update("free", "u"))), {},
	}
}

// eachHistory begins from each start, and from books that have no room for one or two clients more, whose calls have tight bundles.
func eachHistory(t *testing.T, seeds int, see func(h *history)) {
	t.Helper()
	books := starts()
	for name, b := range map[string]impl.Book{"no room": clients(crowded(100), 49), "little room": clients(yard(), 48), "at the end": clients(atEnd(yard()), 49)} {
		books[name] = b
	}
	for name, b := range books {
		for seed := range seeds {
			h := &history{run: run{rand.New(rand.NewSource(int64(seed))), b}}
			if len(b.Tickets) > 40 {
				h.bundles = tight()
			}
			see(h)
			if t.Failed() {
				t.Fatalf("from %s, seed %d", name, seed)
			}
		}
	}
}

// calls are made one after the other, each at a moment from its From to its To, and are told in any order.
func (h *history) calls(many int) []impl.BookHeard {
	var list []impl.BookHeard
	on, moment := h.book, h.dice.Intn(100)-50
	for range many {
		heard := impl.BookHeard{Call: h.call(on, list)}
		on, heard.Said = impl.BookAsk(on, heard.Call)
		moment += h.dice.Intn(3)
		heard.From, heard.To = moment-draw(&h.run, 0, 0, 1, 2, 9), moment+draw(&h.run, 0, 0, 1, 2, 9)
		list = append(list, heard)
	}
	h.dice.Shuffle(len(list), func(i, j int) { list[i], list[j] = list[j], list[i] })
	return list
}

// call is a new one, or one that was made, or another one of its client and number.
func (h *history) call(on impl.Book, made []impl.BookHeard) impl.BookCall {
	c := call(draw(&h.run, "u", "v", "w", "x"), draw(&h.run, 1, 1, 2, 3), h.bundle(on))
	if len(made) > 0 && h.dice.Intn(3) == 0 {
		c = draw(&h.run, made...).Call
	}
	switch h.dice.Intn(12) {
	case 0, 1:
		c.Bundle = h.bundle(on)
	case 2:
		c.Number = draw(&h.run, 0, 1, 1000000, 1000001)
	case 3:
		c.Client = draw(&h.run, "", "U", "c00")
	}
	return c
}

func (h *history) bundle(on impl.Book) impl.BookBundle {
	if h.bundles != nil {
		return draw(&h.run, h.bundles...)
	}
	r := run{h.dice, on}
	return r.bundle()
}

// alter changes one thing of what was heard, and says what.
func (h *history) alter(calls []impl.BookHeard) string {
	one, other := &calls[h.dice.Intn(len(calls))], &calls[h.dice.Intn(len(calls))]
	switch h.dice.Intn(7) {
	case 0:
		one.Said.Code = h.dice.Intn(11) - 1
		return "a Code"
	case 1:
		one.Said.Version += draw(&h.run, -2, -1, 1, 2)
		return "a Version"
	case 2:
		one.Said.Again = !one.Said.Again
		return "an Again"
	case 3:
		one.Said, other.Said = other.Said, one.Said
		return "answers turned"
	case 4:
		one.From, one.To = other.To+draw(&h.run, 0, 1), other.To+2
		return "times, one behind another"
	case 5:
		one.From, one.To = other.From-2, other.From-draw(&h.run, 0, 1)
		return "times, one ahead of another"
	}
	one.Call, other.Call = other.Call, one.Call
	return "calls turned"
}

// Promise 12.
func TestPromise12Linear(t *testing.T) {
	codes, agains, turned := map[int]int{}, 0, 0
	eachHistory(t, 60, func(h *history) {
		calls := h.calls(h.dice.Intn(13))
		order, ok := impl.BookLinear(h.book, calls)
		if !ok {
			t.Errorf("no order of %+v", calls)
			return
		}
		for _, fault := range orderFaults(h.book, calls, order) {
			t.Errorf("%s: %v of %+v", fault, order, calls)
		}
		for i, heard := range calls {
			codes[heard.Said.Code]++
			agains += boolInt(heard.Said.Again)
			turned += boolInt(order[i] != i)
		}
	})
	countCodes(t, codes, 0, 1, 2, 3, 6, 7, 8, 9)
	if agains < 200 || turned < 1000 {
		t.Errorf("the test is not worth much: %d heard again, %d at another place than they were told", agains, turned)
	}
}

// The first of all orders, or none.
func TestFirstOfAllOrders(t *testing.T) {
	found, none := map[string]int{}, map[string]int{}
	eachHistory(t, 120, func(h *history) {
		calls := h.calls(1 + h.dice.Intn(6))
		what := "as they were made"
		for range 4 {
			order, ok := plainLinear(h.book, calls)
			wantLinear(t, what, h.book, calls, order, ok)
			if ok {
				found[what]++
			} else {
				none[what]++
			}
			what = h.alter(calls)
		}
	})
	for _, what := range []string{"a Code", "a Version", "an Again", "answers turned", "times, one behind another", "times, one ahead of another", "calls turned"} {
		if found[what] < 5 || none[what] < 50 {
			t.Errorf("the test is not worth much: %s: an order %d times, none %d times", what, found[what], none[what])
		}
	}
	if none["as they were made"] > 0 {
		t.Error("calls that were made one after the other have no order")
	}
}

// All at the same time, where many orders give the same answers and the first of them is asked for.
func TestFirstOfManyOrders(t *testing.T) {
	turned := 0
	eachHistory(t, 40, func(h *history) {
		calls := h.calls(2 + h.dice.Intn(5))
		for i := range calls {
			calls[i].From, calls[i].To = h.dice.Intn(2), 1+h.dice.Intn(2)
		}
		order, ok := plainLinear(h.book, calls)
		if !ok {
			t.Errorf("the plain reading has no order of %+v", calls)
		}
		wantLinear(t, "all at the same time", h.book, calls, order, ok)
		turned += boolInt(fmt.Sprint(order) != fmt.Sprint(plainOrders(len(calls))[0]))
	})
	if turned < 100 {
		t.Errorf("the test is not worth much: %d orders are others than that of the places", turned)
	}
}

// The first of all orders, where the same answers in another order leave other tickets: few clients and numbers, and bundles
// whose codes a ticket may have as well.
func TestFirstOfOrdersThatDifferInTickets(t *testing.T) {
	turned, none := 0, 0
	for name, b := range map[string]impl.Book{"no room": clients(crowded(100), 49), "room": crowded(100), "at the end": clients(atEnd(yard()), 49)} {
		for seed := range 400 {
			h := &history{run{rand.New(rand.NewSource(int64(seed))), b}, tight()[:5]}
			calls := h.callsOfFew(3 + h.dice.Intn(4))
			order, ok := plainLinear(b, calls)
			wantLinear(t, "tickets", b, calls, order, ok)
			if t.Failed() {
				t.Fatalf("from %s, seed %d", name, seed)
			}
			none += boolInt(!ok)
			turned += boolInt(ok && order[0] != 0)
		}
	}
	if turned < 100 || none < 20 {
		t.Errorf("the test is not worth much: %d orders do not begin with the first call, %d times there is none", turned, none)
	}
}

// callsOfFew are made one after the other, but those that are heard again are told to come behind all others.
func (h *history) callsOfFew(many int) []impl.BookHeard {
	var list []impl.BookHeard
	on := h.book
	for range many {
		one := heard(0, 9, call(draw(&h.run, "u", "u", "v"), draw(&h.run, 1, 1, 1, 2), draw(&h.run, h.bundles...)), impl.BookSaid{})
		if len(list) > 1 && h.dice.Intn(2) == 0 {
			one.Call = draw(&h.run, list...).Call
		}
		on, one.Said = impl.BookAsk(on, one.Call)
		one.From = 10 * boolInt(one.Said.Again)
		one.To = one.From + draw(&h.run, 0, 9, 20)
		list = append(list, one)
	}
	h.dice.Shuffle(len(list), func(i, j int) { list[i], list[j] = list[j], list[i] })
	return list
}

// Promise 12 of a book that was reached by calls, and of what came before: an order of two halves, one behind the other.
func TestPromise12GoesOn(t *testing.T) {
	eachHistory(t, 20, func(h *history) {
		first := h.calls(1 + h.dice.Intn(6))
		order, _ := impl.BookLinear(h.book, first)
		on := h.book
		for _, place := range order {
			on, _ = impl.BookAsk(on, first[place].Call)
		}
		second := (&history{run{h.dice, on}, h.bundles}).calls(1 + h.dice.Intn(6))
		for i := range second {
			second[i].From += 1000
			second[i].To += 1000
		}
		whole := append(second, first...)
		got, ok := impl.BookLinear(h.book, whole)
		if !ok || len(orderFaults(h.book, whole, got)) > 0 {
			t.Errorf("%v %v of %+v", got, ok, whole)
		}
	})
}
