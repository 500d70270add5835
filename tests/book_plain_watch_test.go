package tests

import (
	"slices"

	"loop.example/wharflog/impl"
)

// This file says once more what watches and mirrors do, with plain loops; the other tests hold the program against it.

// looksAt says whether a watch of a kind and prefix looks at an object.
func looksAt(kind, prefix string, o impl.BookObject) bool {
	begins := len(o.Name) >= len(prefix) && o.Name[:len(prefix)] == prefix
	return begins && (kind == "" || kind == o.Kind)
}

// changesOf are those changes above a version that a watch looks at.
func changesOf(changes []impl.BookChange, w impl.BookWatch) []impl.BookChange {
	var some []impl.BookChange
	for _, c := range changes {
		if c.Version > w.From && looksAt(w.Kind, w.Prefix, c.Object) {
			some = append(some, c)
		}
	}
	return some
}

// plainNext is BookNext.
func plainNext(b impl.Book, w impl.BookWatch, most int) impl.BookNews {
	if len(brokenPoints(b)) > 0 || most < 1 || w.From < 0 || w.From > b.Now {
		return impl.BookNews{Code: 1}
	}
	if w.From < b.Floor {
		return impl.BookNews{Code: 2}
	}
	changes := changesOf(b.History, w)
	if len(changes) > most {
		return impl.BookNews{Changes: changes[:most], From: changes[most-1].Version}
	}
	return impl.BookNews{Changes: changes, From: b.Now}
}

// plainRelist is BookRelist.
func plainRelist(b impl.Book, m impl.BookMirror) impl.BookMirror {
	m.Objects, m.At = plainListed(b, m.Kind, m.Prefix)
	return m
}

// plainTake is BookTake.
func plainTake(m impl.BookMirror, n impl.BookNews) (impl.BookMirror, int) {
	if n.Code != 0 {
		return m, 1
	}
	for i, c := range n.Changes {
		if i > 0 && n.Changes[i-1].Version >= c.Version {
			return m, 2
		}
	}
	if m.At > n.From {
		return m, 2
	}
	for _, c := range n.Changes {
		if m.At < c.Version {
			m.Objects, m.At, m.Seen = plainPut(m.Objects, c), c.Version, m.Seen+1
		}
	}
	if m.At < n.From {
		m.At = n.From
	}
	return m, 0
}

// plainPut does as the document has it: the object comes first, then what was there of its kind and name is taken out.
func plainPut(list []impl.BookObject, c impl.BookChange) []impl.BookObject {
	place := -1
	if !c.Gone {
		place = 0
		for place < len(list) && lessObject(list[place], c.Object) {
			place++
		}
		list = slices.Insert(slices.Clone(list), place, c.Object)
	}
	var left []impl.BookObject
	for i, o := range list {
		if i == place || o.Kind != c.Object.Kind || o.Name != c.Object.Name {
			left = append(left, o)
		}
	}
	return left
}

func lessObject(o, p impl.BookObject) bool {
	return o.Kind < p.Kind || o.Kind == p.Kind && o.Name < p.Name
}

// plainStep is BookStep.
func plainStep(b impl.Book, m impl.BookMirror, most int) (impl.BookMirror, int) {
	n := plainNext(b, impl.BookWatch{Kind: m.Kind, Prefix: m.Prefix, From: m.At}, most)
	switch n.Code {
	case 1:
		return m, 1
	case 2:
		return plainRelist(b, m), 2
	}
	return plainTake(m, n)
}
