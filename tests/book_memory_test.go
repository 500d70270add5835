package tests

import (
	"cmp"
	"reflect"
	"slices"
	"testing"
	"unsafe"

	"loop.example/wharflog/impl"
)

// This file holds what goes into a call and what comes out of it against each other: lists with room behind their end,
// and the memory that each list has, spare room included.

// roomy is a list with something behind its end that nobody may touch.
func roomy[T any](list []T, behind T) []T {
	return append(slices.Clone(list), behind, behind)[:len(list)]
}

// roomyBook is a copy of a book with room behind each of its lists.
func roomyBook(b impl.Book) impl.Book {
	b.Objects = roomy(b.Objects, thing("behind", "objects", -1, -1))
	for i, o := range b.Objects {
		b.Objects[i].Holds = roomy(o.Holds, "~behind")
	}
	b.History = roomy(b.History, impl.BookChange{Version: -1})
	for i, c := range b.History {
		b.History[i].Object.Holds = roomy(c.Object.Holds, "~behind")
	}
	b.Tickets = roomy(b.Tickets, ticket("~behind"))
	return b
}

// wholeBook is a copy of a book with all that is behind the end of its lists.
func wholeBook(b impl.Book) impl.Book {
	b.Objects = b.Objects[:cap(b.Objects)]
	b.History = b.History[:cap(b.History)]
	b.Tickets = b.Tickets[:cap(b.Tickets)]
	b = copyBook(b)
	for i, o := range b.Objects {
		b.Objects[i].Holds = slices.Clone(o.Holds[:cap(o.Holds)])
	}
	for i, c := range b.History {
		b.History[i].Object.Holds = slices.Clone(c.Object.Holds[:cap(c.Object.Holds)])
	}
	return b
}

// plainBook has no list that is empty but not nil, as the two are one value.
func plainBook(b impl.Book) impl.Book {
	b = copyBook(b)
	b.Objects, b.History, b.Tickets = plainList(b.Objects), plainList(b.History), plainList(b.Tickets)
	for i, o := range b.Objects {
		b.Objects[i].Holds = plainList(o.Holds)
	}
	for i, c := range b.History {
		b.History[i].Object.Holds = plainList(c.Object.Holds)
	}
	return b
}

func plainList[T any](list []T) []T {
	if len(list) == 0 {
		return nil
	}
	return list
}

func sameBook(a, b impl.Book) bool {
	return reflect.DeepEqual(plainBook(a), plainBook(b))
}

// A span is the memory of a list, spare room included.
type span struct {
	from, to uintptr
}

func spanOf[T any](list []T) span {
	from := uintptr(unsafe.Pointer(unsafe.SliceData(list)))
	return span{from, from + uintptr(cap(list))*unsafe.Sizeof(*new(T))}
}

// spansOf are the spans of all lists of a book.
func spansOf(b impl.Book) []span {
	spans := []span{spanOf(b.Objects), spanOf(b.History), spanOf(b.Tickets)}
	for _, o := range b.Objects {
		spans = append(spans, spanOf(o.Holds))
	}
	for _, c := range b.History {
		spans = append(spans, spanOf(c.Object.Holds))
	}
	return spans
}

// apart says whether no two of these spans have memory in common.
func apart(spans []span) bool {
	spans = slices.DeleteFunc(slices.Clone(spans), func(s span) bool { return s.from == s.to })
	slices.SortFunc(spans, func(s, u span) int { return cmp.Compare(s.from, u.from) })
	for i := 1; i < len(spans); i++ {
		if spans[i].from < spans[i-1].to {
			return false
		}
	}
	return true
}

// memoryKept makes a call with a book that has room behind its lists, and looks at the memory of both: of the book, and of the
// answer's lists, which the call gives back as a book.
func memoryKept(t *testing.T, what string, b impl.Book, call func(given impl.Book) impl.Book) {
	t.Helper()
	memoryKeptOf(t, what, []impl.Book{b}, func(given []impl.Book) impl.Book { return call(given[0]) })
}

// memoryKeptOf is memoryKept of several arguments, each as a book.
func memoryKeptOf(t *testing.T, what string, books []impl.Book, call func(given []impl.Book) impl.Book) {
	t.Helper()
	var given, before []impl.Book
	var spans []span
	for _, b := range books {
		b = roomyBook(b)
		given, before, spans = append(given, b), append(before, wholeBook(b)), append(spans, spansOf(b)...)
	}
	answer := call(slices.Clone(given))
	for i, b := range given {
		if !reflect.DeepEqual(before[i], wholeBook(b)) {
			t.Errorf("%s: something was written into argument %d or behind it", what, i)
		}
	}
	if !apart(append(spans, spansOf(answer)...)) {
		t.Errorf("%s: lists share memory", what)
	}
}

func TestApartSees(t *testing.T) {
	list := []int{1, 2, 3, 4}
	for _, c := range []struct {
		what string
		a, b []int
		want bool
	}{
		{"the same", list, list, false}, {"one in the other", list, list[1:2], false}, {"in the spare room", list[:2], list[2:], false},
		{"side by side", list[:2:2], list[2:], true}, {"no memory", list, list[4:], true}, {"two lists", list, slices.Clone(list), true},
	} {
		if got := apart([]span{spanOf(c.a), spanOf(c.b)}); got != c.want {
			t.Errorf("%s: %v", c.what, got)
		}
	}
}
