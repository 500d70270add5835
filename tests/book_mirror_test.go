package tests

import (
	"math"
	"math/rand"
	"slices"
	"testing"

	"loop.example/wharflog/impl"
)

func sameMirror(m, n impl.BookMirror) bool {
	return m.Kind == n.Kind && m.Prefix == n.Prefix && m.At == n.At && m.Seen == n.Seen && sameObjects(m.Objects, n.Objects)
}

// wantTaken holds a mirror that takes news against what it is to be, and looks at its memory.
func wantTaken(t *testing.T, what string, m impl.BookMirror, n impl.BookNews, want impl.BookMirror, code int) {
	t.Helper()
	memoryKept(t, what, impl.Book{Objects: m.Objects, History: n.Changes}, func(given impl.Book) impl.Book {
		m, n := m, n
		m.Objects, n.Changes = given.Objects, given.History
		got, c := impl.BookTake(m, n)
		if c != code || !sameMirror(got, want) {
			t.Errorf("%s: %+v\ntakes %+v\ngives %d, %+v\nwant  %d, %+v", what, m, n, c, got, code, want)
		}
		return impl.Book{Objects: got.Objects}
	})
}

// wantStepped holds a step of a mirror against what it is to be, and looks at its memory.
func wantStepped(t *testing.T, what string, b impl.Book, m impl.BookMirror, most int, want impl.BookMirror, code int) {
	t.Helper()
	memoryKeptOf(t, what, []impl.Book{b, {Objects: m.Objects}}, func(given []impl.Book) impl.Book {
		m := m
		m.Objects = given[1].Objects
		got, c := impl.BookStep(given[0], m, most)
		if c != code || !sameMirror(got, want) {
			t.Errorf("%s: %+v\nof %d to %d, most %d\ngives %d, %+v\nwant  %d, %+v", what, m, b.Floor, b.Now, most, c, got, code, want)
		}
		return impl.Book{Objects: got.Objects}
	})
}

// wantRelisted holds a mirror that lists anew against what it is to be, and looks at its memory.
func wantRelisted(t *testing.T, what string, b impl.Book, m impl.BookMirror, want impl.BookMirror) {
	t.Helper()
	memoryKeptOf(t, what, []impl.Book{b, {Objects: m.Objects}}, func(given []impl.Book) impl.Book {
		m := m
		m.Objects = given[1].Objects
		got := impl.BookRelist(given[0], m)
		if !sameMirror(got, want) {
			t.Errorf("%s: %+v\ngives %+v\nwant  %+v", what, m, got, want)
		}
		return impl.Book{Objects: got.Objects}
	})
}

// mirrored is a mirror of the kind k at version 10 that took 4 changes.
func mirrored(objects ...impl.BookObject) impl.BookMirror {
	return impl.BookMirror{Kind: "k", At: 10, Seen: 4, Objects: objects}
}

// then is the mirror with other objects, behind so many changes more, at a version.
func then(m impl.BookMirror, at, more int, objects ...impl.BookObject) impl.BookMirror {
	m.At, m.Seen, m.Objects = at, m.Seen+more, objects
	return m
}

// k is an object of the kind k.
func k(name string, version int, holds ...string) impl.BookObject {
	return thing("k", name, version, 1, holds...)
}

func TestTakingOneChange(t *testing.T) {
	b, d, f := k("b", 3), k("d", 5, "h"), k("f", 4)
	m := mirrored(b, d, f)
	for _, c := range []struct {
		what    string
		change  impl.BookChange
		objects []impl.BookObject
	}{
		{"ahead of all", told(k("a", 12)), []impl.BookObject{k("a", 12), b, d, f}},
		{"between the first two", told(k("c", 12)), []impl.BookObject{b, k("c", 12), d, f}},
		{"between the last two", told(k("e", 12, "g", "h")), []impl.BookObject{b, d, k("e", 12, "g", "h"), f}},
		{"behind all", told(k("g", 12)), []impl.BookObject{b, d, f, k("g", 12)}},
		{"in the place of the first", told(k("b", 12)), []impl.BookObject{k("b", 12), d, f}},
		{"in the place of one between", told(saying(k("d", 12), "new")), []impl.BookObject{b, saying(k("d", 12), "new"), f}},
		{"in the place of the last", told(ending(k("f", 12, "h"))), []impl.BookObject{b, d, ending(k("f", 12, "h"))}},
		{"one that begins like another", told(k("b-", 12)), []impl.BookObject{b, k("b-", 12), d, f}},
		{"a beginning of another", told(k("", 12)), []impl.BookObject{k("", 12), b, d, f}},
		{"a lesser kind, a greater name", told(thing("j", "z", 12, 1)), []impl.BookObject{thing("j", "z", 12, 1), b, d, f}},
		{"a greater kind, a lesser name", told(thing("l", "a", 12, 1)), []impl.BookObject{b, d, f, thing("l", "a", 12, 1)}},
		{"a longer kind with a name that is there", told(thing("kk", "d", 12, 1)), []impl.BookObject{b, d, f, thing("kk", "d", 12, 1)}},
		{"a shorter kind with a name that is there", told(thing("", "d", 12, 1)), []impl.BookObject{thing("", "d", 12, 1), b, d, f}},
		{"the first is gone", gone(k("b", 12)), []impl.BookObject{d, f}},
		{"one between is gone", gone(k("d", 12)), []impl.BookObject{b, f}},
		{"the last is gone", gone(k("f", 12)), []impl.BookObject{b, d}},
		{"one that is not there is gone", gone(k("c", 12)), []impl.BookObject{b, d, f}},
		{"one of another kind is gone", gone(thing("l", "d", 12, 1)), []impl.BookObject{b, d, f}},
		{"gone, whatever the object is", impl.BookChange{Version: 12, Gone: true, Object: k("d", 5, "h")}, []impl.BookObject{b, f}},
		{"there, whatever the object is", told(ending(k("d", 12))), []impl.BookObject{b, ending(k("d", 12)), f}},
		{"the version of the change counts", impl.BookChange{Version: 12, Object: k("d", 1)}, []impl.BookObject{b, k("d", 1), f}},
		{"one that has not changed but for its version", told(k("d", 12, "h")), []impl.BookObject{b, k("d", 12, "h"), f}},
	} {
		wantTaken(t, c.what, m, newsOf(12, c.change), then(m, 12, 1, c.objects...), 0)
		wantTaken(t, c.what+", From is greater", m, newsOf(20, c.change), then(m, 20, 1, c.objects...), 0)
		wantTaken(t, c.what+", From is less", m, newsOf(11, c.change), then(m, 12, 1, c.objects...), 0)
		wantTaken(t, c.what+", taken already", then(m, 12, 0, c.objects...), newsOf(12, c.change), then(m, 12, 0, c.objects...), 0)
		wantTaken(t, c.what+", of long ago", then(m, 15, 0, b, d, f), newsOf(15, c.change), then(m, 15, 0, b, d, f), 0)
	}
	one := k("c", 12, "h")
	wantTaken(t, "into nothing", impl.BookMirror{}, newsOf(12, told(one)), impl.BookMirror{At: 12, Seen: 1, Objects: []impl.BookObject{one}}, 0)
	wantTaken(t, "gone from nothing", impl.BookMirror{}, newsOf(12, gone(one)), impl.BookMirror{At: 12, Seen: 1}, 0)
	wantTaken(t, "the only one is gone", mirrored(one), newsOf(12, gone(one)), then(mirrored(), 12, 1), 0)
}

func TestTakingSeveralChanges(t *testing.T) {
	b, d := k("b", 3), k("d", 5, "h")
	m := mirrored(b, d)
	for _, c := range []struct {
		what string
		news impl.BookNews
		want impl.BookMirror
	}{
		{"none", newsOf(10), m},
		{"none, and From goes on", newsOf(17), then(m, 17, 0, b, d)},
		{"three", newsOf(13, told(k("a", 11)), told(k("c", 12)), told(k("e", 13))), then(m, 13, 3, k("a", 11), b, k("c", 12), d, k("e", 13))},
		{"three, the greatest first", newsOf(13, told(k("e", 11)), told(k("c", 12)), told(k("a", 13))), then(m, 13, 3, k("a", 13), b, k("c", 12), d, k("e", 11))},
		{"with versions between", newsOf(30, told(k("a", 14)), told(k("c", 27))), then(m, 30, 2, k("a", 14), b, k("c", 27), d)},
		{"made and gone", newsOf(12, told(k("c", 11)), gone(k("c", 12))), then(m, 12, 2, b, d)},
		{"made, changed, gone and made", newsOf(14, told(k("c", 11)), told(k("c", 12)), gone(k("c", 13)), told(k("c", 14))), then(m, 14, 4, b, k("c", 14), d)},
		{"gone and made", newsOf(12, gone(k("b", 11)), told(k("b", 12))), then(m, 12, 2, k("b", 12), d)},
		{"changed twice", newsOf(12, told(k("d", 11)), told(k("d", 12, "i"))), then(m, 12, 2, b, k("d", 12, "i"))},
		{"all gone", newsOf(12, gone(k("d", 11)), gone(k("b", 12))), then(m, 12, 2)},
		{"some that were taken", newsOf(12, told(k("a", 9)), gone(k("b", 10)), told(k("c", 11)), told(k("e", 12))), then(m, 12, 2, b, k("c", 11), d, k("e", 12))},
		{"one at At", newsOf(11, told(k("a", 10)), told(k("c", 11))), then(m, 11, 1, b, k("c", 11), d)},
		{"all were taken", newsOf(10, told(k("a", 8)), gone(k("b", 9)), told(k("c", 10))), m},
		{"all were taken, and From goes on", newsOf(11, gone(k("d", 8)), told(k("c", 10))), then(m, 11, 0, b, d)},
		{"versions below 0 count as taken", newsOf(11, told(k("a", math.MinInt)), told(k("c", -1)), told(k("e", 0))), then(m, 11, 0, b, d)},
		{"of any kind and name", newsOf(12, told(thing("l", "a", 11, 1)), told(thing("", "", 12, 1))), then(m, 12, 2, thing("", "", 12, 1), b, d, thing("l", "a", 11, 1))},
		{"the last above From", newsOf(10, told(k("a", 11)), told(k("c", 12))), then(m, 12, 2, k("a", 11), b, k("c", 12), d)},
	} {
		wantTaken(t, c.what, m, c.news, c.want, 0)
	}
	low := impl.BookMirror{Prefix: "p", At: -7, Seen: -3}
	wantTaken(t, "At below 0", low, newsOf(-7, told(k("a", -8)), told(k("b", -6)), told(k("c", 5))), then(low, 5, 2, k("b", -6), k("c", 5)), 0)
	end := then(m, math.MaxInt, 0, b)
	wantTaken(t, "At the greatest number", end, newsOf(math.MaxInt, told(k("a", math.MaxInt))), end, 0)
}

// A mirror may be anything: the place is ahead of the first that is not less, though it is not in order, and all of the same kind and name go.
func TestTakingIntoMirrorsOutOfOrder(t *testing.T) {
	for _, c := range []struct {
		what   string
		names  string
		change impl.BookChange
		want   string
	}{
		{"ahead of the first that is not less", "fab", told(k("e", 12)), "Efab"},
		{"not less at the end alone", "bacf", told(k("e", 12)), "bacEf"},
		{"all are less", "bac", told(k("e", 12)), "bacE"},
		{"twice", "aeef", told(k("e", 12)), "aEf"},
		{"twice, far away", "eafe", told(k("e", 12)), "Eaf"},
		{"behind one that is greater", "fae", told(k("e", 12)), "Efa"},
		{"in its own place, though a lesser one follows", "aebf", told(k("e", 12)), "aEbf"},
		{"its place at the end, which goes away", "abe", told(k("e", 12)), "abE"},
		{"nothing but itself", "eee", told(k("e", 12)), "E"},
		{"gone, all of them", "efeae", gone(k("e", 12)), "fa"},
		{"gone, nothing is left", "eee", gone(k("e", 12)), ""},
		{"gone, not there", "fab", gone(k("e", 12)), "fab"},
	} {
		row := func(names string) []impl.BookObject {
			var list []impl.BookObject
			for _, name := range names {
				if name == 'E' { // the new one
					list = append(list, k("e", 12))
				} else {
					list = append(list, k(string(name), 1, "h"))
				}
			}
			return list
		}
		m := mirrored(row(c.names)...)
		wantTaken(t, c.what, m, newsOf(12, c.change), then(m, 12, 1, row(c.want)...), 0)
	}
}

func TestCodesOfTaking(t *testing.T) {
	m := mirrored(k("b", 3), k("d", 5, "h"))
	a, b, c := told(k("a", 11)), gone(k("b", 12)), told(k("c", 13))
	coded := func(code int, n impl.BookNews) impl.BookNews {
		n.Code = code
		return n
	}
	for _, x := range []struct {
		what string
		news impl.BookNews
		code int
	}{
		{"the code of a watch", impl.BookNews{Code: 1}, 1},
		{"the other code of a watch", impl.BookNews{Code: 2}, 1},
		{"a code that there is not", coded(7, newsOf(13, a, b, c)), 1},
		{"a code below 0", coded(-1, newsOf(13, a, b, c)), 1},
		{"a code, and From is great", coded(2, newsOf(99)), 1},
		{"a code, and From is below At", coded(2, newsOf(9, a, b, c)), 1},
		{"a code, and changes that do not ascend", coded(2, newsOf(13, c, b)), 1},
		{"a code and all", coded(1, newsOf(9, c, b)), 1},
		{"From just below At", newsOf(9, a, b, c), 2},
		{"From below At, and no changes", newsOf(9), 2},
		{"From below At, and changes that were taken", newsOf(2, told(k("a", 1)), told(k("b", 2))), 2},
		{"From 0", newsOf(0), 2},
		{"From far below At", newsOf(math.MinInt, a), 2},
		{"turned around", newsOf(13, b, a), 2},
		{"turned around behind others", newsOf(13, a, c, b), 2},
		{"turned around ahead of others", newsOf(13, b, a, c), 2},
		{"one version twice", newsOf(13, a, a), 2},
		{"one version twice behind others", newsOf(13, a, b, c, c), 2},
		{"one version of two", newsOf(13, a, told(k("z", 11))), 2},
		{"turned around, all taken already", newsOf(13, told(k("a", 5)), told(k("b", 4))), 2},
		{"turned around at At", newsOf(13, a, told(k("b", 10))), 2},
		{"one that was taken behind one that was not", newsOf(13, a, told(k("z", 9)), b), 2},
		{"below 0 and turned around", newsOf(13, told(k("z", -1)), told(k("z", -2))), 2},
		{"it wraps round", newsOf(13, told(k("z", math.MaxInt)), told(k("z", math.MinInt))), 2},
		{"From below At, and turned around", newsOf(9, b, a), 2},
	} {
		wantTaken(t, x.what, m, x.news, m, x.code)
		wantTaken(t, x.what+", out of order", then(m, 10, 0, k("f", 1), k("a", 2, "h"), k("f", 3)), x.news, then(m, 10, 0, k("f", 1), k("a", 2, "h"), k("f", 3)), x.code)
	}
	wantTaken(t, "a code, by nothing", impl.BookMirror{}, impl.BookNews{Code: 3}, impl.BookMirror{}, 1)
	wantTaken(t, "nothing, by nothing", impl.BookMirror{}, impl.BookNews{}, impl.BookMirror{}, 0)
	wantTaken(t, "From below 0, by nothing", impl.BookMirror{}, newsOf(-1), impl.BookMirror{}, 2)
	wantTaken(t, "all that there is to wrap round", then(m, math.MaxInt, 0), newsOf(math.MinInt), then(m, math.MaxInt, 0), 2)
}

// jobs is a mirror of the jobs of the shelf.
func jobs(prefix string, at, seen int, objects ...impl.BookObject) impl.BookMirror {
	return impl.BookMirror{Kind: "job", Prefix: prefix, At: at, Seen: seen, Objects: objects}
}

func TestStepsOnTheShelf(t *testing.T) {
	j := func(name string, version, born int, holds ...string) impl.BookObject {
		return thing("job", name, version, born, holds...)
	}
	was := j("b", 9, 4)
	for _, c := range []struct {
		what string
		from impl.BookMirror
		most int
		want impl.BookMirror
	}{
		{"one", jobs("", 10, 5, was), 1, jobs("", 11, 6, j("a", 11, 11), was)},
		{"a few", jobs("", 10, 5, was), 4, jobs("", 14, 9, ending(j("a", 14, 11, "h")), j("b", 12, 4))},
		{"until one is gone", jobs("", 14, 9, ending(j("a", 14, 11, "h")), j("b", 12, 4)), 2, jobs("", 16, 11, j("b", 12, 4), j("c", 15, 15))},
		{"all", jobs("", 10, 5, was), 8, jobs("", 18, 13, shelf().Objects[2:]...)},
		{"more than all", jobs("", 10, 0, was), math.MaxInt, jobs("", 18, 8, shelf().Objects[2:]...)},
		{"all but one", jobs("", 10, 5, was), 7, jobs("", 17, 12, j("c", 15, 15))},
		{"none is left", jobs("", 18, 5, shelf().Objects[2:]...), 3, jobs("", 18, 5, shelf().Objects[2:]...)},
		{"a prefix", jobs("b", 10, 0, was), 1, jobs("b", 12, 1, j("b", 12, 4))},
		{"a prefix, the last", jobs("b", 12, 1, j("b", 12, 4)), 1, jobs("b", 18, 2)},
		{"a prefix that nothing happens to", jobs("z", 11, 1), 1, jobs("z", 18, 1)},
		{"a kind that nothing happens to", impl.BookMirror{Kind: "disk", At: 10, Objects: shelf().Objects[:2]}, 1, impl.BookMirror{Kind: "disk", At: 18, Objects: shelf().Objects[:2]}},
		{"all kinds", impl.BookMirror{At: 16, Objects: []impl.BookObject{shelf().Objects[0], j("b", 12, 4), j("c", 15, 15)}}, 5,
			impl.BookMirror{At: 18, Seen: 2, Objects: []impl.BookObject{shelf().Objects[0], shelf().Objects[2], shelf().Objects[3]}}},
		{"one that was wrong stays so where nothing happens", jobs("", 17, 0, j("a", 1, 1), j("x", 2, 2, "h")), 5, jobs("", 18, 1, j("a", 18, 18, "x", "y"), j("x", 2, 2, "h"))},
	} {
		wantStepped(t, c.what, shelf(), c.from, c.most, c.want, 0)
	}
}

func TestCodesOfSteps(t *testing.T) {
	wrong := []impl.BookObject{thing("job", "z", 2, 1, "h"), thing("job", "a", 1, 1), thing("job", "z", 3, 1)}
	cut := impl.BookCut(shelf(), 15)
	for _, c := range []struct {
		what string
		book impl.Book
		ats  []int
		most int
		code int
	}{
		{"most 0", shelf(), []int{10, 15, 18}, 0, 1},
		{"most below 0", shelf(), []int{10, 15, 18}, math.MinInt, 1},
		{"At below 0", shelf(), []int{-1, math.MinInt}, 1, 1},
		{"At above Now", shelf(), []int{19, 1000000, math.MaxInt}, 1, 1},
		{"not valid", broken(shelf()), []int{-1, 0, 9, 10, 18, 19}, 1, 1},
		{"most 0, and At below Floor", shelf(), []int{0, 9}, 0, 1},
		{"nothing, At above Now", impl.Book{}, []int{1}, 1, 1},
		{"At below Floor", shelf(), []int{0, 1, 9}, 1, 2},
		{"At below Floor, and all may come", shelf(), []int{0, 1, 9}, math.MaxInt, 2},
		{"behind a cut above At", cut, []int{10, 11, 14}, 3, 2},
		{"behind a cut at Now", impl.BookCut(shelf(), 18), []int{10, 17}, 3, 2},
	} {
		for _, at := range c.ats {
			for _, kind := range []string{"job", "", "disk", "none"} {
				for _, prefix := range []string{"", "a", "z"} {
					m := impl.BookMirror{Kind: kind, Prefix: prefix, At: at, Seen: 3, Objects: wrong}
					want := m
					if c.code == 2 {
						want.At = 18
						want.Objects, _ = plainListed(c.book, kind, prefix)
					}
					wantStepped(t, c.what, c.book, m, c.most, want, c.code)
				}
			}
		}
	}
	wantStepped(t, "at the cut", cut, jobs("", 15, 3), 2, jobs("", 17, 5), 0)
	for what, b := range notValid() {
		for _, at := range []int{-1, 0, b.Floor, b.Now, 15} {
			m := jobs("a", at, 3, wrong...)
			wantStepped(t, what, b, m, 2, m, 1)
		}
	}
}

func TestRelisting(t *testing.T) {
	wrong := []impl.BookObject{thing("k", "z", 2, 1, "h"), thing("k", "a", 1, 1)}
	for _, at := range []int{0, -1, 3, 40, math.MaxInt} {
		m := impl.BookMirror{Kind: "k", Prefix: "ab", At: at, Seen: 9, Objects: wrong}
		wantRelisted(t, "a kind and prefix", drawer(), m, impl.BookMirror{Kind: "k", Prefix: "ab", At: 40, Seen: 9, Objects: drawer().Objects[5:7]})
		m = impl.BookMirror{Kind: "kk", At: at, Seen: -1, Objects: wrong}
		wantRelisted(t, "a kind", drawer(), m, impl.BookMirror{Kind: "kk", At: 40, Seen: -1, Objects: drawer().Objects[10:12]})
		m = impl.BookMirror{At: at, Objects: wrong}
		wantRelisted(t, "all", drawer(), m, impl.BookMirror{At: 40, Objects: drawer().Objects})
		m = impl.BookMirror{Kind: "none", Prefix: "\xff", At: at, Objects: wrong}
		wantRelisted(t, "none", drawer(), m, impl.BookMirror{Kind: "none", Prefix: "\xff", At: 40})
		m = impl.BookMirror{Kind: "job", At: at, Seen: 3, Objects: wrong}
		wantRelisted(t, "a history", shelf(), m, impl.BookMirror{Kind: "job", At: 18, Seen: 3, Objects: shelf().Objects[2:]})
		wantRelisted(t, "an empty book", impl.Book{}, m, impl.BookMirror{Kind: "job", Seen: 3})
		for what, b := range notValid() {
			wantRelisted(t, what, b, m, impl.BookMirror{Kind: "job", Seen: 3})
		}
	}
	wantRelisted(t, "100 objects", crowded(100), impl.BookMirror{}, impl.BookMirror{At: 300, Objects: crowded(100).Objects})
}

// heap draws objects that are in no order, as a mirror may have them.
func heap(r *run, most int) []impl.BookObject {
	var list []impl.BookObject
	for range r.dice.Intn(most + 1) {
		o := thing(draw(r, "k", "k", "l", ""), draw(r, "a", "b", "c", "d", "b-c"), r.dice.Intn(20), 1)
		o.Holds = draw(r, nil, []string{"h"}, []string{"y", "x"})
		list = append(list, o)
	}
	return list
}

func TestTakingAnything(t *testing.T) {
	codes := map[int]int{}
	r := &run{dice: rand.New(rand.NewSource(4))}
	for range 4000 {
		m := impl.BookMirror{Kind: draw(r, "", "k"), Prefix: draw(r, "", "a"), At: r.dice.Intn(12) - 2, Seen: r.dice.Intn(5), Objects: heap(r, 6)}
		if r.dice.Intn(2) == 0 {
			slices.SortFunc(m.Objects, func(o, p impl.BookObject) int { return boolInt(lessObject(p, o)) - boolInt(lessObject(o, p)) })
		}
		n := impl.BookNews{Code: draw(r, 0, 0, 0, 0, 0, 0, 0, 0, 1, 2), From: r.dice.Intn(16) - 1}
		version := r.dice.Intn(10) - 2
		for _, o := range heap(r, 5) {
			n.Changes = append(n.Changes, impl.BookChange{Version: version, Gone: r.dice.Intn(3) == 0, Object: o})
			version += draw(r, 1, 1, 1, 1, 1, 2, 2, 3, 0, -1)
		}
		want, code := plainTake(m, n)
		codes[code]++
		wantTaken(t, "anything", m, n, want, code)
		if t.Failed() {
			return
		}
	}
	countCodes(t, codes, 0, 1, 2)
}

func boolInt(b bool) int {
	if b {
		return 1
	}
	return 0
}

func TestStepsInStrangeBooks(t *testing.T) {
	codes := map[int]int{}
	eachStory(t, func(dice *rand.Rand, b impl.Book) {
		b = copyBook(b)
		spoil(dice, &b)
		r := &run{dice, b}
		m := impl.BookMirror{Kind: draw(r, "", "k", "l"), Prefix: draw(r, "", "a", "b"), At: b.Floor - 1 + dice.Intn(max(0, b.Now-b.Floor)+3), Objects: heap(r, 4)}
		most := draw(r, 0, 1, 1, 2, 3, 10, 300)
		want, code := plainStep(b, m, most)
		codes[code]++
		wantStepped(t, "a strange book", b, m, most, want, code)
		wantRelisted(t, "a strange book", b, m, plainRelist(b, m))
	})
	countCodes(t, codes, 0, 1, 2)
}
