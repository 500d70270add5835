package tests

import (
	"math"
	"math/rand"
	"slices"
	"testing"

	"loop.example/wharflog/impl"
)

func watching(kind, prefix string, from int) impl.BookWatch {
	return impl.BookWatch{Kind: kind, Prefix: prefix, From: from}
}

func newsOf(from int, changes ...impl.BookChange) impl.BookNews {
	return impl.BookNews{Changes: changes, From: from}
}

func sameChanges(a, b []impl.BookChange) bool {
	return sameBook(impl.Book{History: a}, impl.Book{History: b})
}

func sameNews(a, b impl.BookNews) bool {
	return a.Code == b.Code && a.From == b.From && sameChanges(a.Changes, b.Changes)
}

// wantNews holds what a watch sees next against what it is to be, and looks at its memory.
func wantNews(t *testing.T, what string, b impl.Book, w impl.BookWatch, most int, want impl.BookNews) {
	t.Helper()
	memoryKept(t, what, b, func(given impl.Book) impl.Book {
		got := impl.BookNext(given, w, most)
		if !sameNews(got, want) {
			t.Errorf("%s: %+v, most %d\ngives %+v\nwant  %+v", what, w, most, got, want)
		}
		return impl.Book{History: got.Changes}
	})
}

func TestNewsOfTheShelf(t *testing.T) {
	all := []int{11, 12, 13, 14, 15, 16, 17, 18}
	for _, c := range []struct {
		what     string
		watch    impl.BookWatch
		most     int
		versions []int
		from     int
	}{
		{"all", watching("", "", 10), 8, all, 18},
		{"all, and more may come", watching("", "", 10), 9, all, 18},
		{"all, and any number may come", watching("", "", 10), math.MaxInt, all, 18},
		{"all but one", watching("", "", 10), 7, all[:7], 17},
		{"one", watching("", "", 10), 1, all[:1], 11},
		{"a few", watching("", "", 10), 3, all[:3], 13},
		{"a few from between", watching("", "", 13), 3, all[3:6], 16},
		{"those that are left", watching("", "", 13), 5, all[3:], 18},
		{"but one of those that are left", watching("", "", 13), 4, all[3:7], 17},
		{"the last one", watching("", "", 17), 1, all[7:], 18},
		{"none is left", watching("", "", 18), 1, nil, 18},
		{"none is left, and many may come", watching("", "", 18), 500, nil, 18},
		{"a kind of which all are", watching("job", "", 10), 8, all, 18},
		{"a kind that nothing happens to", watching("disk", "", 10), 1, nil, 18},
		{"a kind that nothing happens to, later", watching("disk", "", 14), 3, nil, 18},
		{"a kind that there is not", watching("jo", "", 10), 3, nil, 18},
		{"a kind that is none", watching("Job", "", 10), 3, nil, 18},
		{"a prefix", watching("job", "a", 10), 5, []int{11, 13, 14, 16, 18}, 18},
		{"a prefix, one too few", watching("job", "a", 10), 4, []int{11, 13, 14, 16}, 16},
		{"a prefix, one that is gone last", watching("job", "a", 13), 2, []int{14, 16}, 16},
		{"a prefix, one that is made again", watching("job", "a", 16), 2, []int{18}, 18},
		{"a prefix of all kinds", watching("", "b", 10), 3, []int{12, 17}, 18},
		{"others come behind the last one that is told", watching("job", "b", 10), 2, []int{12, 17}, 18},
		{"others come between, and one more", watching("job", "b", 10), 1, []int{12}, 12},
		{"from what was told", watching("job", "b", 12), 1, []int{17}, 18},
		{"from between", watching("job", "b", 14), 1, []int{17}, 18},
		{"one, and it is all", watching("job", "c", 10), 1, []int{15}, 18},
		{"one, just ahead", watching("job", "c", 14), 1, []int{15}, 18},
		{"one, it is at From", watching("job", "c", 15), 1, nil, 18},
		{"a prefix that is a name and more", watching("job", "aa", 10), 2, nil, 18},
		{"a prefix that is no name", watching("", "\xff", 10), 2, nil, 18},
	} {
		var want []impl.BookChange
		for _, version := range c.versions {
			want = append(want, shelf().History[version-11])
		}
		wantNews(t, c.what, shelf(), c.watch, c.most, newsOf(c.from, want...))
	}
}

func TestNewsOfNamesThatBeginAlike(t *testing.T) {
	var b impl.Book
	for i := range drawer().Objects {
		o := drawer().Objects[i]
		o.Version, o.Born, o.Ending = 1+i, 1+i, false
		b.Now, b.Objects, b.History = 1+i, append(b.Objects, o), append(b.History, told(o))
	}
	wantPoints(t, "begin alike", b)
	for _, c := range []struct {
		kind, prefix string
		versions     []int
	}{
		{"k", "ab", []int{6, 7}}, {"k", "a.", []int{5}}, {"kk", "", []int{11, 12}}, {"", "z", []int{12}}, {"", "k", []int{1}},
		{"k", "c", nil}, {"", "aaaaaaaaaaaaaaaaaaaa", []int{13}}, {"", "aaaaaaaaaaaaaaaaaaaaa", nil}, {"k", "", []int{2, 3, 4, 5, 6, 7, 8, 9}},
	} {
		var want []impl.BookChange
		for _, version := range c.versions {
			want = append(want, b.History[version-1])
		}
		wantNews(t, "begin alike", b, watching(c.kind, c.prefix, 0), 20, newsOf(13, want...))
	}
	for _, kind := range []string{"", "a", "k", "k0", "kk", "kkk", "l", "K"} {
		for _, prefix := range []string{"", "-", "a", "a-", "ab", "abc", "abcd", "b", "z", "~"} {
			for _, most := range []int{1, 2, 5, 13} {
				w := watching(kind, prefix, 2)
				wantNews(t, "begin alike", b, w, most, plainNext(b, w, most))
			}
		}
	}
}

func TestNewsOfSmallBooks(t *testing.T) {
	for _, most := range []int{1, 2, 200, math.MaxInt} {
		wantNews(t, "nothing", impl.Book{}, watching("", "", 0), most, newsOf(0))
		wantNews(t, "nothing, of a kind", impl.Book{}, watching("k", "n", 0), most, newsOf(0))
		wantNews(t, "no history", yard(), watching("", "", 20), most, newsOf(20))
		wantNews(t, "the last version", atEnd(yard()), watching("k", "", 1000000), most, newsOf(1000000))
		wantNews(t, "empty lists", impl.Book{Objects: []impl.BookObject{}, History: []impl.BookChange{}}, watching("", "", 0), most, newsOf(0))
	}
}

func TestNewsOfLongHistories(t *testing.T) {
	for _, now := range []int{200, 201, 399, 400, 777, 1000000} {
		b := longStory(200, now)
		for _, most := range []int{1, 2, 199, 200, 201, math.MaxInt} {
			for _, behind := range []int{0, 1, 100, 198, 199, 200} {
				upTo := 200
				if most < 200-behind {
					upTo = behind + most
				}
				want := newsOf(b.Floor+upTo, b.History[behind:upTo]...)
				wantNews(t, "a full history", b, watching("k", "n", b.Floor+behind), most, want)
			}
		}
		wantNews(t, "a full history, of none", b, watching("k", "o", now-200), 1, newsOf(now))
	}
}

func TestCodesOfWatches(t *testing.T) {
	for _, c := range []struct {
		what  string
		book  impl.Book
		froms []int
		mosts []int
		code  int
	}{
		{"most below 1", shelf(), []int{10, 14, 18}, []int{0, -1, math.MinInt}, 1},
		{"From below 0", shelf(), []int{-1, -10, math.MinInt}, []int{1, 5}, 1},
		{"From above Now", shelf(), []int{19, 20, 211, 1000000, math.MaxInt}, []int{1, 5}, 1},
		{"From below Floor", shelf(), []int{0, 1, 8, 9}, []int{1, 5, math.MaxInt}, 2},
		{"From below Floor and most below 1", shelf(), []int{0, 9}, []int{0, -1}, 1},
		{"no history, From below Floor", yard(), []int{0, 19}, []int{1, 5}, 2},
		{"no history, From above Now", yard(), []int{21}, []int{1, 5}, 1},
		{"no history, most below 1", yard(), []int{19, 20}, []int{0}, 1},
		{"nothing, From above Now", impl.Book{}, []int{1, math.MaxInt}, []int{1}, 1},
		{"nothing, From below 0", impl.Book{}, []int{-1, math.MinInt}, []int{1}, 1},
		{"nothing, most below 1", impl.Book{}, []int{0}, []int{0}, 1},
		{"a full history, From below Floor", longStory(200, 333), []int{0, 132}, []int{1, 300}, 2},
		{"the last version, From above Now", atEnd(yard()), []int{1000001}, []int{1}, 1},
		{"not valid", broken(shelf()), []int{-1, 0, 9, 10, 14, 18, 19}, []int{-1, 0, 1, 5}, 1},
	} {
		for _, from := range c.froms {
			for _, most := range c.mosts {
				for _, kind := range []string{"", "job", "none"} {
					wantNews(t, c.what, c.book, watching(kind, "", from), most, impl.BookNews{Code: c.code})
				}
			}
		}
	}
	for what, b := range notValid() {
		for _, from := range []int{-1, 0, b.Floor - 1, b.Floor, b.Now, b.Now + 1, 12} {
			wantNews(t, what, b, watching("", "", from), 3, impl.BookNews{Code: 1})
		}
	}
}

func TestNewsOfStrangeBooks(t *testing.T) {
	codes, left := map[int]int{}, 0
	eachStory(t, func(dice *rand.Rand, b impl.Book) {
		b = copyBook(b)
		spoil(dice, &b)
		r := run{dice, b}
		w := watching(draw(&r, "", "k", "l"), draw(&r, "", "a", "b"), b.Floor-1+dice.Intn(max(0, b.Now-b.Floor)+3))
		most := draw(&r, 0, 1, 1, 2, 3, 10, 300)
		want := plainNext(b, w, most)
		wantNews(t, "a strange book", b, w, most, want)
		codes[want.Code]++
		if want.Code == 0 && want.From < b.Now {
			left++
		}
	})
	countCodes(t, codes, 0, 1, 2)
	if left < 100 {
		t.Errorf("the test is not worth much: %d news with more left", left)
	}
}

// Promise 6, of a book that stays as it is: from each first From, for each kind of watch, whatever most is.
func TestPromise6WatchingABook(t *testing.T) {
	calls := map[string]int{}
	eachRun(t, 2, 300, func(r *run) {
		r.book = growth(r)
		if r.dice.Intn(15) > 0 {
			return
		}
		for _, most := range []int{1, 1 + r.dice.Intn(4), 7, len(r.book.History) + 1, math.MaxInt} {
			w := watching(draw(r, "", "", "k", "l", "m"), draw(r, "", "", "a", "b", "b-", "z"), r.book.Floor+r.dice.Intn(r.book.Now-r.book.Floor+1))
			for kind, n := range wantWatched(t, r.book, w, most) {
				calls[kind] += n
			}
		}
	})
	for _, kind := range []string{"more are left", "none is left", "nothing was told"} {
		if calls[kind] < 100 {
			t.Errorf("the test is not worth much: %v", calls)
		}
	}
}

// wantWatched goes on with a watch until it is at Now, and counts what its news were like.
func wantWatched(t *testing.T, b impl.Book, w impl.BookWatch, most int) map[string]int {
	t.Helper()
	want, calls := changesOf(b.History, w), map[string]int{}
	var heard []impl.BookChange
	for on := w; ; {
		n := impl.BookNext(b, on, most)
		heard = append(heard, n.Changes...)
		if n.Code != 0 || len(n.Changes) > most || n.From < on.From || n.From == on.From && on.From != b.Now {
			t.Errorf("%+v from %d, most %d: %+v", w, on.From, most, n)
			return calls
		}
		switch {
		case len(heard) < len(want):
			calls["more are left"]++
			if len(n.Changes) != most || n.From != n.Changes[most-1].Version {
				t.Errorf("%+v from %d, most %d: more are left, but %+v", w, on.From, most, n)
			}
		case n.From != b.Now:
			t.Errorf("%+v from %d, most %d: none is left, but From is %d of %d", w, on.From, most, n.From, b.Now)
		case len(n.Changes) == 0:
			calls["nothing was told"]++
		default:
			calls["none is left"]++
		}
		if on.From == b.Now || t.Failed() {
			break
		}
		on.From = n.From
	}
	if !sameChanges(heard, want) {
		t.Errorf("%+v, most %d: heard %+v\nwant %+v", w, most, heard, want)
	}
	return calls
}

// A diary is all changes of one run, in order, whatever its book forgets.
type diary struct {
	of      *run
	changes []impl.BookChange
}

// grow lets the book of a run grow, and begins anew with each run.
func (d *diary) grow(r *run) {
	if d.of != r {
		d.of, d.changes = r, slices.Clone(r.book.History)
	}
	before := r.book.Now
	r.book = growth(r)
	if r.book.Now > before {
		d.changes = append(d.changes, r.book.History[len(r.book.History)-1])
	}
}

// A listener goes on with a watch while a book is written, and keeps what it heard since it began.
type listener struct {
	watch impl.BookWatch
	from  int
	heard []impl.BookChange
}

// Promise 6, of a book that is written and forgets meanwhile.
func TestPromise6WatchingWrites(t *testing.T) {
	codes, heard := map[int]int{}, 0
	var log diary
	listeners := map[*run][]*listener{}
	eachRun(t, 3, 500, func(r *run) {
		log.grow(r)
		if listeners[r] == nil {
			for _, w := range []impl.BookWatch{watching("", "", 0), watching("k", "", 0), watching("l", "b", 0), watching("", "a", 0), watching("", "zz", 0), watching("none", "", 0)} {
				w.From = r.book.Now
				listeners[r] = append(listeners[r], &listener{watch: w, from: w.From})
			}
		}
		if r.dice.Intn(120) == 0 {
			r.book = impl.BookCut(r.book, r.book.Now-r.dice.Intn(40))
		}
		for _, l := range listeners[r] {
			if r.dice.Intn(6) > 0 {
				continue
			}
			n := impl.BookNext(r.book, l.watch, draw(r, 1, 2, 3, 5, 1000))
			codes[n.Code]++
			if n.Code != 0 {
				if n.Code != 2 || l.watch.From >= r.book.Floor || len(n.Changes) > 0 || n.From != 0 {
					t.Errorf("%+v of %d to %d: %+v", l.watch, r.book.Floor, r.book.Now, n)
				}
				l.watch.From, l.from, l.heard = r.book.Now, r.book.Now, nil
				continue
			}
			l.heard = append(l.heard, n.Changes...)
			l.watch.From = n.From
			heard += len(n.Changes)
			wanted := changesOf(log.changes, watching(l.watch.Kind, l.watch.Prefix, l.from))
			wanted = slices.DeleteFunc(wanted, func(c impl.BookChange) bool { return c.Version > n.From })
			if !sameChanges(l.heard, wanted) {
				t.Errorf("%+v: from %d on it heard %+v\nwant %+v", l.watch, l.from, l.heard, wanted)
			}
		}
	})
	countCodes(t, codes, 0, 2)
	if heard < 2000 {
		t.Errorf("the test is not worth much: %d changes were heard", heard)
	}
}

// Promise 11, of watches.
func TestPromise11WatchesOfCuts(t *testing.T) {
	codes := map[int]int{}
	eachRun(t, 2, 250, func(r *run) {
		r.book = growth(r)
		cut := impl.BookCut(r.book, r.book.Floor+r.dice.Intn(r.book.Now-r.book.Floor+2))
		for _, from := range []int{cut.Floor - 1, cut.Floor, cut.Floor + 1, cut.Floor + r.dice.Intn(cut.Now-cut.Floor+1), cut.Now, cut.Now + 1} {
			w := watching(draw(r, "", "k", "l"), draw(r, "", "a", "b"), from)
			most := draw(r, 1, 2, 3, 10, 500)
			before, behind := impl.BookNext(r.book, w, most), impl.BookNext(cut, w, most)
			codes[behind.Code]++
			if from >= cut.Floor && !sameNews(before, behind) {
				t.Errorf("cut at %d of %d to %d: %+v sees\n%+v\nand saw\n%+v", cut.Floor, r.book.Floor, r.book.Now, w, behind, before)
			}
			if from < cut.Floor && from >= 0 && behind.Code != 2 {
				t.Errorf("cut at %d: %+v: code %d", cut.Floor, w, behind.Code)
			}
		}
		if r.dice.Intn(20) == 0 {
			r.book = cut
		}
	})
	countCodes(t, codes, 0, 1, 2)
}

// A watch of a full history forgets nothing that it has still to tell, one step from the edge.
func TestWatchesAtTheFloor(t *testing.T) {
	b := longStory(200, 200)
	w := watching("", "", 0)
	if n := impl.BookNext(b, w, 1); n.Code != 0 || n.From != 1 {
		t.Errorf("at Floor 0: %+v", n)
	}
	b = impl.BookDo(b, update("n", "x")).Book
	if b.Floor != 1 {
		t.Fatalf("Floor %d", b.Floor)
	}
	wantNews(t, "behind one write", b, w, 1, impl.BookNews{Code: 2})
	wantNews(t, "behind one write, at Floor", b, watching("", "", 1), 1, newsOf(2, b.History[0]))
}
