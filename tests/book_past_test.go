package tests

import (
	"math"
	"slices"
	"testing"

	"loop.example/wharflog/impl"
)

// A past is what the lists of one run were, by version, as BookList told them then.
type past struct {
	of    *run
	lists map[int][]impl.BookObject
}

// note adds what the list is now, and begins anew with each run.
func (p *past) note(t *testing.T, r *run) {
	t.Helper()
	if p.of != r {
		p.of, p.lists = r, map[int][]impl.BookObject{}
	}
	list, now := impl.BookList(r.book, "", "")
	if now != r.book.Now || !sameObjects(list, r.book.Objects) {
		t.Errorf("BookList is not the book's objects: %d, %+v", now, list)
	}
	p.lists[now] = list
}

// known is the list at a version without those that the book can't know any more: they have changed, and as they were is forgotten.
func (p *past) known(b impl.Book, version int) ([]impl.BookObject, bool) {
	list := slices.DeleteFunc(slices.Clone(p.lists[version]), func(o impl.BookObject) bool {
		return o.Version <= b.Floor && slices.ContainsFunc(b.History, func(c impl.BookChange) bool {
			return c.Object.Kind == o.Kind && c.Object.Name == o.Name
		})
	})
	return list, len(list) == len(p.lists[version])
}

// Promise 5, for each version that a book has, behind many writes and some cuts.
func TestPromise5ThePast(t *testing.T) {
	counts := map[bool]int{}
	var was past
	eachRun(t, 3, 500, func(r *run) {
		was.note(t, r)
		r.book = growth(r)
		was.note(t, r)
		if r.dice.Intn(80) == 0 {
			r.book = impl.BookCut(r.book, r.book.Now-r.dice.Intn(30))
		}
		now, _ := impl.BookList(r.book, "", "")
		wantAt(t, "a run, now", r.book, r.book.Now, now, true)
		if r.dice.Intn(50) > 0 {
			return
		}
		for version := r.book.Floor; version <= r.book.Now; version++ {
			if _, noted := was.lists[version]; !noted {
				continue // ahead of the run
			}
			list, all := was.known(r.book, version)
			wantAt(t, "a run", r.book, version, list, all)
			counts[all]++
		}
		wantAt(t, "a run, below Floor", r.book, r.book.Floor-1, nil, false)
		wantAt(t, "a run, above Now", r.book, r.book.Now+1, nil, false)
	})
	if counts[true] < 1500 || counts[false] < 1500 {
		t.Errorf("the test is not worth much: %v", counts)
	}
}

// Promise 5, where it is true, whatever a book tells.
func TestPromise5WhereItIsTrue(t *testing.T) {
	seen := 0
	var was past
	eachRun(t, 2, 300, func(r *run) {
		was.note(t, r)
		r.book = growth(r)
		was.note(t, r)
		version := r.book.Floor + r.dice.Intn(r.book.Now-r.book.Floor+1)
		list, all := impl.BookAt(r.book, version)
		wanted, noted := was.lists[version]
		if noted && all {
			seen++
			if !sameObjects(list, wanted) {
				t.Errorf("at %d it is not what BookList was: %+v", version, list)
			}
		}
	})
	if seen < 1000 {
		t.Errorf("the test is not worth much: %d pasts", seen)
	}
}

// Promise 11.
func TestPromise11Cuts(t *testing.T) {
	where := map[string]int{}
	eachRun(t, 3, 300, func(r *run) {
		b := growth(r)
		floor := draw(r, math.MinInt, -1, b.Floor-1, b.Floor, b.Floor+1, b.Now-1, b.Now, b.Now+1, math.MaxInt, b.Floor+r.dice.Intn(b.Now-b.Floor+1))
		cut := impl.BookCut(b, floor)
		switch {
		case floor <= b.Floor:
			where["not above Floor"]++
		case floor < b.Now:
			where["between"]++
		default:
			where["not below Now"]++
		}
		if cut.Floor != max(b.Floor, min(floor, b.Now)) {
			t.Errorf("cut at %d of %d to %d: Floor %d", floor, b.Floor, b.Now, cut.Floor)
		}
		if cut.Now != b.Now || !sameObjects(cut.Objects, b.Objects) || !slices.Equal(cut.Tickets, b.Tickets) {
			t.Errorf("cut at %d: Now, Objects or Tickets are others: %+v", floor, cut)
		}
		above := slices.DeleteFunc(slices.Clone(b.History), func(c impl.BookChange) bool { return c.Version <= cut.Floor })
		if !sameBook(impl.Book{History: cut.History}, impl.Book{History: above}) {
			t.Errorf("cut at %d: other changes above Floor: %+v", floor, cut.History)
		}
		wantPoints(t, "a cut book", cut)
		wantCut(t, "a run", b, floor, plainCut(b, floor))
		wantCut(t, "cut once more", cut, floor, cut)
		wantSamePast(t, b, cut, cut.Floor+r.dice.Intn(cut.Now-cut.Floor+1))
		w := r.write()
		if did, too := impl.BookDo(b, w), impl.BookDo(cut, w); did.Code != too.Code || did.Version != too.Version || !sameObjects(did.Book.Objects, too.Book.Objects) {
			t.Errorf("cut at %d: %+v does another thing: %+v and %+v", floor, w, did, too)
		}
		r.book = b
		if r.dice.Intn(10) == 0 {
			r.book = cut
		}
	})
	if where["not above Floor"] < 200 || where["between"] < 200 || where["not below Now"] < 200 {
		t.Errorf("the test is not worth much: %v", where)
	}
}

// wantSamePast wants that a book that was cut knows no more than it did, and nothing else.
func wantSamePast(t *testing.T, b, cut impl.Book, version int) {
	t.Helper()
	list, all := impl.BookAt(b, version)
	less, whole := impl.BookAt(cut, version)
	if whole && (!all || !sameObjects(list, less)) {
		t.Errorf("at %d a cut book tells of another past: %+v and %+v", version, list, less)
	}
	for _, o := range less {
		if !slices.ContainsFunc(list, func(p impl.BookObject) bool { return sameObject(o, p) }) {
			t.Errorf("at %d a cut book tells of %+v, which was not there", version, o)
		}
	}
}
