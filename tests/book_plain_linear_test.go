package tests

import (
	"slices"
	"testing"

	"loop.example/wharflog/impl"
)

// This file says once more which orders of calls give their answers, and which is the first; the other tests hold the program
// against it.

// plainLinear goes through all orders one by one, each up to the first place that does not fit.
func plainLinear(b impl.Book, calls []impl.BookHeard) ([]int, bool) {
	if len(brokenPoints(b)) > 0 || len(calls) > 12 || slices.ContainsFunc(calls, func(h impl.BookHeard) bool { return h.To < h.From }) {
		return nil, false
	}
	return plainOrder(b, calls, nil)
}

// plainOrder goes on from an order that fits so far and leads to this book.
func plainOrder(b impl.Book, calls []impl.BookHeard, order []int) ([]int, bool) {
	if len(order) == len(calls) {
		return order, true
	}
	for place, h := range calls {
		if slices.Contains(order, place) || answeredAhead(calls, order, h) {
			continue
		}
		next, s := impl.BookAsk(b, h.Call)
		if s != h.Said {
			continue
		}
		if whole, ok := plainOrder(next, calls, append(slices.Clone(order), place)); ok {
			return whole, true
		}
	}
	return nil, false
}

// answeredAhead says whether a call would stand behind one that was made after it was answered.
func answeredAhead(calls []impl.BookHeard, order []int, h impl.BookHeard) bool {
	return slices.ContainsFunc(order, func(place int) bool { return h.To < calls[place].From })
}

// orderFaults holds an order against the document, and tells what is wrong with it.
func orderFaults(b impl.Book, calls []impl.BookHeard, order []int) []string {
	var faults []string
	sorted := slices.Sorted(slices.Values(order))
	for i, place := range sorted {
		if i != place {
			return []string{"not each place once"}
		}
	}
	if len(order) != len(calls) {
		return []string{"not all places"}
	}
	for i, place := range order {
		if answeredAhead(calls, order[:i], calls[place]) {
			faults = append(faults, "behind one that was made after it was answered")
		}
		next, s := plainAsk(b, calls[place].Call)
		if s != calls[place].Said {
			faults = append(faults, "another answer")
		}
		b = next
	}
	return faults
}

// plainOrders are all orders of so many places, as they come place by place.
func plainOrders(many int) [][]int {
	if many == 0 {
		return [][]int{nil}
	}
	var list [][]int
	for first := range many {
		for _, rest := range plainOrders(many - 1) {
			order := []int{first}
			for _, place := range rest {
				order = append(order, place+boolInt(place >= first))
			}
			list = append(list, order)
		}
	}
	return list
}

// The plain reading itself, against orders that are written out and looked at whole.
func TestPlainLinear(t *testing.T) {
	for many, want := range []int{1, 1, 2, 6, 24, 120} {
		list := plainOrders(many)
		if len(list) != want || !slices.IsSortedFunc(list, slices.Compare[[]int]) || len(slices.CompactFunc(list, slices.Equal[[]int])) != want {
			t.Errorf("%d places: %v", many, list)
		}
	}
	found := map[bool]int{}
	eachHistory(t, 40, func(h *history) {
		calls := h.calls(1 + h.dice.Intn(4))
		if h.dice.Intn(2) == 0 {
			h.alter(calls)
		}
		order, ok := plainLinear(h.book, calls)
		found[ok]++
		fitting := slices.DeleteFunc(plainOrders(len(calls)), func(o []int) bool { return len(orderFaults(h.book, calls, o)) > 0 })
		if ok != (len(fitting) > 0) || ok && !slices.Equal(order, fitting[0]) {
			t.Errorf("%+v: %v %v, but these fit: %v", calls, order, ok, fitting)
		}
	})
	if found[true] < 50 || found[false] < 30 {
		t.Errorf("the test is not worth much: %v", found)
	}
}
