package tests

import (
	"slices"
	"strings"

	"loop.example/wharflog/impl"
)

// This file says once more what writes and bundles do, with the document's numbers; the other tests hold the program against it.

// plainCodes are all codes of BookDo that hold, in their order; the first one is to be told.
func plainCodes(b impl.Book, w impl.BookWrite) []int {
	o, there := plainFind(b, w.Kind, w.Name)
	held := slices.Contains(o.Holds, w.Hold)
	holds := []bool{
		1: len(brokenPoints(b)) > 0,
		2: plainRefused(w),
		3: w.Op == 1 && there || w.Op != 1 && !there,
		4: there && w.Seen != 0 && w.Seen != o.Version,
		5: o.Ending && (w.Op == 2 || w.Op == 3 || w.Op == 4),
		6: there && (w.Op == 4 && held || w.Op == 5 && !held),
		7: w.Op == 1 && len(b.Objects)+1 > 100 || w.Op == 4 && len(o.Holds)+1 > 5,
		8: b.Now == 1000000,
	}
	var codes []int
	for code, so := range holds {
		if so {
			codes = append(codes, code)
		}
	}
	return codes
}

func plainRefused(w impl.BookWrite) bool {
	if w.Op < 1 || w.Op > 5 || !nameForm.MatchString(w.Kind) || !nameForm.MatchString(w.Name) || w.Seen < 0 || len(w.Text) > 300 {
		return true
	}
	if w.Hold != "" && !nameForm.MatchString(w.Hold) {
		return true
	}
	usesText := w.Op == 1 || w.Op == 2
	usesHold := w.Op == 1 || w.Op == 4 || w.Op == 5
	needsHold := w.Op == 4 || w.Op == 5
	usesSeen := w.Op != 1
	return !usesText && w.Text != "" || !usesHold && w.Hold != "" || needsHold && w.Hold == "" || !usesSeen && w.Seen != 0
}

func plainFind(b impl.Book, kind, name string) (impl.BookObject, bool) {
	for _, o := range b.Objects {
		if o.Kind == kind && o.Name == name {
			return o, true
		}
	}
	return impl.BookObject{}, false
}

// plainDo is BookDo.
func plainDo(b impl.Book, w impl.BookWrite) impl.BookDid {
	o, _ := plainFind(b, w.Kind, w.Name)
	if codes := plainCodes(b, w); len(codes) > 0 {
		switch codes[0] {
		case 1, 2:
			return impl.BookDid{Code: codes[0]}
		case 4:
			return impl.BookDid{Code: 4, Book: b, Version: o.Version}
		}
		return impl.BookDid{Code: codes[0], Book: b}
	}
	return impl.BookDid{Book: withChange(b, plainChange(b, w, o)), Version: b.Now + 1}
}

// plainChange is the change that a write makes that has no code.
func plainChange(b impl.Book, w impl.BookWrite, o impl.BookObject) impl.BookChange {
	holds := map[string]bool{}
	for _, h := range o.Holds {
		holds[h] = true
	}
	switch w.Op {
	case 1:
		o = impl.BookObject{Kind: w.Kind, Name: w.Name, Born: b.Now + 1, Text: w.Text}
		holds[w.Hold] = w.Hold != ""
	case 2:
		o.Text = w.Text
	case 3:
		o.Ending = true
	case 4:
		holds[w.Hold] = true
	case 5:
		holds[w.Hold] = false
	}
	o.Version = b.Now + 1
	o.Holds = nil
	for h, is := range holds {
		if is {
			o.Holds = append(o.Holds, h)
		}
	}
	slices.Sort(o.Holds)
	return impl.BookChange{Version: o.Version, Gone: o.Ending && len(o.Holds) == 0, Object: o}
}

// withChange is a book with one more change, whatever made it.
func withChange(b impl.Book, c impl.BookChange) impl.Book {
	b = copyBook(b)
	b.Now = c.Version
	b.History = append(b.History, c)
	if len(b.History) == 201 {
		b.Floor = b.History[0].Version
		b.History = b.History[1:]
	}
	var objects []impl.BookObject
	for _, o := range b.Objects {
		if o.Kind != c.Object.Kind || o.Name != c.Object.Name {
			objects = append(objects, o)
		}
	}
	if !c.Gone {
		objects = append(objects, c.Object)
	}
	slices.SortFunc(objects, func(o, p impl.BookObject) int {
		return strings.Compare(o.Kind+" "+o.Name, p.Kind+" "+p.Name)
	})
	b.Objects = objects
	return copyBook(b)
}

// plainAll is BookAll.
func plainAll(b impl.Book, x impl.BookBundle) (impl.BookDid, int) {
	if len(brokenPoints(b)) > 0 {
		return impl.BookDid{Code: 1}, 0
	}
	if plainBundleRefused(x) {
		return impl.BookDid{Code: 2, Book: b}, 0
	}
	for i, want := range x.Wants {
		if o, _ := plainFind(b, want.Kind, want.Name); o.Version != want.Version {
			return impl.BookDid{Code: 9, Book: b}, i
		}
	}
	on := b
	for i, w := range x.Writes {
		did := plainDo(on, w)
		if did.Code != 0 {
			return impl.BookDid{Code: did.Code, Book: b}, i
		}
		on = did.Book
	}
	return impl.BookDid{Book: on, Version: on.Now}, 0
}

func plainBundleRefused(x impl.BookBundle) bool {
	if len(x.Wants) > 10 || len(x.Writes) > 10 || slices.ContainsFunc(x.Writes, plainRefused) {
		return true
	}
	return slices.ContainsFunc(x.Wants, func(want impl.BookWant) bool {
		return !nameForm.MatchString(want.Kind) || !nameForm.MatchString(want.Name) || want.Version < 0
	})
}
