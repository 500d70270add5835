package tests

import (
	"fmt"
	"math/rand"
	"slices"
	"strings"
	"testing"

	"loop.example/wharflog/impl"
)

// A run draws writes and bundles for a book on its way; the same seed draws the same ones.
type run struct {
	dice *rand.Rand
	book impl.Book
}

func draw[T any](r *run, list ...T) T {
	return list[r.dice.Intn(len(list))]
}

// write is mostly about an object that is there, and mostly one that may be done.
func (r *run) write() impl.BookWrite {
	w := impl.BookWrite{Op: draw(r, 1, 1, 2, 3, 4, 4, 4, 5, 5), Kind: draw(r, "k", "l"), Name: draw(r, "a", "a.b", "b", "b-c", "c0")}
	if len(r.book.Objects) > 0 && w.Op != 1 && r.dice.Intn(4) > 0 {
		o := draw(r, r.book.Objects...)
		w.Kind, w.Name = o.Kind, o.Name
	}
	o, there := plainFind(r.book, w.Kind, w.Name)
	switch w.Op {
	case 1, 2:
		w.Text = draw(r, "", "x", "\n\"\xff", strings.Repeat("y", 300))
	case 4, 5:
		w.Hold = draw(r, "h1", "h2", "h3", "h4", "h5", "h6")
	}
	if w.Op == 1 && r.dice.Intn(2) == 0 {
		w.Hold = draw(r, "h1", "h6")
	}
	if w.Op == 5 && len(o.Holds) > 0 && r.dice.Intn(3) > 0 {
		w.Hold = draw(r, o.Holds...)
	}
	if w.Op != 1 && there && r.dice.Intn(3) == 0 {
		w.Seen = o.Version - draw(r, 0, 0, 0, 1)
	}
	return w
}

// wrong is a write that is often refused with code 2.
func (r *run) wrong() impl.BookWrite {
	w := r.write()
	switch r.dice.Intn(7) {
	case 0:
		w.Op += draw(r, -5, 5, 1, -1)
	case 1:
		w.Kind = draw(r, "", "K", strings.Repeat("k", 21))
	case 2:
		w.Name = draw(r, "", "a_", strings.Repeat("k", 20), strings.Repeat("k", 21))
	case 3:
		w.Seen = draw(r, -1, 1, 1000001)
	case 4:
		w.Text = draw(r, "t", strings.Repeat("t", 300), strings.Repeat("t", 301))
	case 5:
		w.Hold = draw(r, "", "h", "H", strings.Repeat("h", 20), strings.Repeat("h", 21))
	}
	return w
}

func (r *run) bundle() impl.BookBundle {
	var x impl.BookBundle
	for range draw(r, 0, 1, 2, 3) {
		o := impl.BookObject{Kind: draw(r, "k", "l"), Name: draw(r, "a", "b", "c", "d")}
		if len(r.book.Objects) > 0 && r.dice.Intn(3) > 0 {
			o = draw(r, r.book.Objects...)
		}
		at, _ := plainFind(r.book, o.Kind, o.Name)
		x.Wants = append(x.Wants, impl.BookWant{Kind: o.Kind, Name: o.Name, Version: at.Version + draw(r, 0, 0, 0, 0, 0, 1)})
	}
	on := run{r.dice, r.book}
	for most, tries := draw(r, 0, 1, 2, 3, 5, 10), 0; len(x.Writes) < most && tries < 20; tries++ {
		w := on.write()
		did := plainDo(on.book, w)
		if did.Code == 0 {
			on.book = did.Book
		}
		if did.Code == 0 || r.dice.Intn(8) == 0 {
			x.Writes = append(x.Writes, w)
		}
	}
	if len(x.Writes) > 0 && r.dice.Intn(10) == 0 {
		x.Writes[r.dice.Intn(len(x.Writes))] = r.wrong()
	}
	return x
}

// starts are books from which runs begin: nothing, a few objects, nearly too many, a history that is nearly full, versions that nearly end.
func starts() map[string]impl.Book {
	last := yard()
	last.Now, last.Floor = 999900, 999900
	return map[string]impl.Book{"nothing": {}, "yard": yard(), "shelf": shelf(), "full": crowded(100), "told": longStory(190, 190), "last": last}
}

// eachRun lets a book grow from each start, by what a step makes of it.
func eachRun(t *testing.T, seeds, steps int, step func(r *run)) {
	t.Helper()
	for name, start := range starts() {
		for seed := range seeds {
			r := &run{rand.New(rand.NewSource(int64(seed))), start}
			for i := range steps {
				step(r)
				if t.Failed() {
					t.Fatalf("from %s, seed %d, step %d", name, seed, i)
				}
			}
		}
	}
}

// countCodes tells whether a test saw each of these codes often enough to be worth something.
func countCodes(t *testing.T, seen map[int]int, codes ...int) {
	t.Helper()
	for _, code := range codes {
		if seen[code] < 20 {
			t.Errorf("the test is not worth much: code %d was seen %d times", code, seen[code])
		}
	}
}

func TestRunsOfWrites(t *testing.T) {
	codes := map[int]int{}
	eachRun(t, 3, 400, func(r *run) {
		w := r.write()
		if r.dice.Intn(5) == 0 {
			w = r.wrong()
		}
		want := plainDo(r.book, w)
		wantDid(t, "a write", r.book, w, want)
		codes[want.Code]++
		if want.Code == 0 {
			r.book = want.Book
		}
	})
	countCodes(t, codes, 0, 2, 3, 4, 5, 6, 7, 8)
}

// Promise 1.
func TestPromise1Writes(t *testing.T) {
	codes := map[int]int{}
	eachRun(t, 4, 500, func(r *run) {
		w := r.write()
		did := impl.BookDo(r.book, w)
		codes[did.Code]++
		if did.Code != 0 {
			if !sameBook(did.Book, r.book) {
				t.Errorf("code %d: another book: %+v", did.Code, did.Book)
			}
			return
		}
		if !impl.BookValid(did.Book) || did.Book.Now != r.book.Now+1 || did.Version != did.Book.Now {
			t.Errorf("%+v: valid %v, Now %d, Version %d", w, impl.BookValid(did.Book), did.Book.Now, did.Version)
		}
		others := func(b impl.Book) impl.Book {
			rest := slices.DeleteFunc(slices.Clone(b.Objects), func(o impl.BookObject) bool { return o.Kind == w.Kind && o.Name == w.Name })
			return impl.Book{Objects: rest, Tickets: b.Tickets}
		}
		if !sameBook(others(did.Book), others(r.book)) {
			t.Errorf("%+v changed another object", w)
		}
		told := len(did.Book.History) - 1
		kept := min(told, len(r.book.History))
		if !sameBook(impl.Book{History: did.Book.History[told-kept : told]}, impl.Book{History: r.book.History[len(r.book.History)-kept:]}) {
			t.Errorf("%+v changed what was told", w)
		}
		r.book = did.Book
	})
	countCodes(t, codes, 0, 3, 4, 5, 6, 7, 8)
}

// Promise 1, of books that no writes lead to: valid ones that tell strange stories, and others.
func TestPromise1StrangeBooks(t *testing.T) {
	codes := map[int]int{}
	eachStory(t, func(dice *rand.Rand, b impl.Book) {
		b = copyBook(b)
		spoil(dice, &b)
		r := run{dice, b}
		w := r.write()
		want := plainDo(b, w)
		codes[want.Code]++
		wantDid(t, "a strange book", b, w, want)
		if points := brokenPoints(want.Book); len(points) > 0 {
			t.Errorf("%+v leads to a book that breaks the points %v", w, points)
		}
	})
	countCodes(t, codes, 0, 1, 3, 4, 5, 6)
}

// Promise 2.
func TestPromise2Seen(t *testing.T) {
	codes := map[int]int{}
	eachRun(t, 3, 300, func(r *run) {
		r.book = growth(r)
		if len(r.book.Objects) == 0 {
			return
		}
		o := draw(r, r.book.Objects...)
		one, two := seeing(r, o), seeing(r, o)
		for range 2 {
			first := impl.BookDo(r.book, one)
			second := impl.BookDo(first.Book, two)
			codes[first.Code]++
			_, there := plainFind(first.Book, o.Kind, o.Name)
			if first.Code == 0 && (there && second.Code != 4 || !there && second.Code != 3) {
				t.Errorf("%+v, then %+v: code %d", one, two, second.Code)
			}
			if first.Code == 0 && there && second.Version != r.book.Now+1 {
				t.Errorf("%+v, then %+v: stale, and Version %d", one, two, second.Version)
			}
			one, two = two, one
		}
		one.Seen += draw(r, -1, 1, 1000)
		if did := impl.BookDo(r.book, one); one.Seen != 0 && did.Code != 4 {
			t.Errorf("%+v of version %d: code %d", one, o.Version, did.Code)
		}
	})
	countCodes(t, codes, 0, 5, 6)
}

// growth is the book of a run behind one more write, if it is done.
func growth(r *run) impl.Book {
	if did := impl.BookDo(r.book, r.write()); did.Code == 0 {
		return did.Book
	}
	return r.book
}

// seeing is a write of an object as it is.
func seeing(r *run, o impl.BookObject) impl.BookWrite {
	w := impl.BookWrite{Op: 2 + r.dice.Intn(4), Kind: o.Kind, Name: o.Name, Seen: o.Version}
	if w.Op >= 4 {
		w.Hold = draw(r, append(slices.Clone(o.Holds), "h0")...)
	}
	return w
}

// Promise 3.
func TestPromise3Bundles(t *testing.T) {
	codes, lengths := map[int]int{}, map[int]int{}
	eachRun(t, 3, 150, func(r *run) {
		x := r.bundle()
		want, number := plainAll(r.book, x)
		wantAll(t, "a bundle", r.book, x, want, number)
		codes[want.Code]++
		did, _ := impl.BookAll(r.book, x)
		if did.Code != 0 {
			if !sameBook(did.Book, r.book) || did.Version != 0 {
				t.Errorf("code %d, but something was done: %+v", did.Code, x)
			}
			return
		}
		lengths[len(x.Writes)]++
		on := r.book
		for i, w := range x.Writes {
			one := impl.BookDo(on, w)
			if one.Code != 0 {
				t.Errorf("done, but write %d has code %d: %+v", i, one.Code, x)
			}
			on = one.Book
		}
		if !sameBook(did.Book, on) || did.Version != on.Now || !impl.BookValid(did.Book) {
			t.Errorf("not what its writes do, one after the other: %+v", x)
		}
		r.book = did.Book
	})
	countCodes(t, codes, 0, 2, 3, 4, 5, 6, 8, 9)
	if lengths[0] == 0 || lengths[1] == 0 || lengths[10] == 0 {
		t.Errorf("the test is not worth much: bundles of %v writes", lengths)
	}
}

// Promise 4, of all books that writes lead to.
func TestPromise4OfWrites(t *testing.T) {
	seen := map[string]int{}
	eachRun(t, 4, 500, func(r *run) {
		before, w := r.book, r.write()
		did := impl.BookDo(before, w)
		if did.Code != 0 {
			return
		}
		r.book = did.Book
		was, there := plainFind(before, w.Kind, w.Name)
		is, still := plainFind(r.book, w.Kind, w.Name)
		what := fmt.Sprintf("%+v of %+v", w, was)
		for _, o := range before.Objects {
			p, ok := plainFind(r.book, o.Kind, o.Name)
			if ok && p.Born != o.Born {
				t.Errorf("%s: Born %d becomes %d", what, o.Born, p.Born)
			}
		}
		for i, o := range r.book.Objects {
			for _, p := range r.book.Objects[:i] {
				if p.Version == o.Version {
					t.Errorf("%s: two objects with Version %d", what, o.Version)
				}
			}
		}
		if still && (is.Version != r.book.Now || is.Version <= was.Version) {
			t.Errorf("%s: Version %d", what, is.Version)
		}
		switch {
		case was.Ending && w.Op != 5:
			t.Errorf("%s: done, though it is Ending", what)
		case was.Ending:
			seen["let go while it is Ending"]++
			if still != (len(was.Holds) > 1) || still && (is.Text != was.Text || !is.Ending) {
				t.Errorf("%s: there: %v: %+v", what, still, is)
			}
		case w.Op == 3:
			seen["ended"]++
			if still != (len(was.Holds) > 0) || still && !is.Ending {
				t.Errorf("%s: there: %v: %+v", what, still, is)
			}
		case !still || is.Ending:
			t.Errorf("%s: it goes, and was not ended", what)
		case !there:
			seen["made"]++
			if is.Born != r.book.Now {
				t.Errorf("%s: Born %d", what, is.Born)
			}
		}
	})
	if seen["let go while it is Ending"] < 100 || seen["ended"] < 100 || seen["made"] < 100 {
		t.Errorf("the test is not worth much: %v", seen)
	}
}
