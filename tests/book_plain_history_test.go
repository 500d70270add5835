package tests

import (
	"slices"
	"strings"

	"loop.example/wharflog/impl"
)

// This file says once more what lists and the past are, with plain loops; the other tests hold the program against it.

// plainListed is BookList.
func plainListed(b impl.Book, kind, prefix string) ([]impl.BookObject, int) {
	if len(brokenPoints(b)) > 0 {
		return nil, 0
	}
	var list []impl.BookObject
	for _, o := range b.Objects {
		if looksAt(kind, prefix, o) {
			list = append(list, o)
		}
	}
	return list, b.Now
}

// plainCut is BookCut.
func plainCut(b impl.Book, floor int) impl.Book {
	if len(brokenPoints(b)) > 0 {
		return impl.Book{}
	}
	for b.Floor < floor && b.Floor < b.Now {
		b.Floor++
		b.History = b.History[1:]
	}
	return b
}

// plainAt is BookAt.
func plainAt(b impl.Book, version int) ([]impl.BookObject, bool) {
	if len(brokenPoints(b)) > 0 || version < b.Floor || version > b.Now {
		return nil, false
	}
	var list []impl.BookObject
	all := true
	for i, c := range b.History {
		before, behind := neighbour(b.History, i, -1), neighbour(b.History, i, 1)
		lastUpTo := c.Version <= version && (behind < 0 || b.History[behind].Version > version)
		firstOfAll := before < 0 && c.Version > version
		if lastUpTo && !c.Gone {
			list = append(list, c.Object)
		}
		if firstOfAll && (c.Gone || c.Object.Born < c.Version) {
			all = false
		}
	}
	for _, o := range b.Objects {
		if o.Version <= b.Floor {
			list = append(list, o)
		}
	}
	slices.SortFunc(list, func(o, p impl.BookObject) int {
		return strings.Compare(o.Kind+" "+o.Name, p.Kind+" "+p.Name)
	})
	return list, all
}
