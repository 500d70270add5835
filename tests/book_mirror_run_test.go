package tests

import (
	"math"
	"slices"
	"testing"

	"loop.example/wharflog/impl"
)

// A viewer has a mirror while a book is written: whether it is right, and how many changes it was to take, are known from the diary.
type viewer struct {
	mirror impl.BookMirror
	due    int
}

// viewers are those of one run, with what its lists were, and all its changes.
type viewers struct {
	of  *run
	all []*viewer
	was past
	log diary
}

// grow lets the book of a run grow, and now and then forget; with each run there are new viewers, who list first.
func (v *viewers) grow(t *testing.T, r *run) {
	t.Helper()
	if v.of != r {
		v.of, v.all = r, nil
		for _, m := range []impl.BookMirror{{}, {Kind: "k"}, {Kind: "l", Prefix: "b"}, {Prefix: "a"}, {Kind: "k", Prefix: "a."}, {Kind: "none"}, {Prefix: "zz"}} {
			v.all = append(v.all, &viewer{mirror: impl.BookRelist(r.book, m)})
		}
	}
	v.was.note(t, r)
	v.log.grow(r)
	v.was.note(t, r)
	if r.dice.Intn(100) == 0 {
		r.book = impl.BookCut(r.book, r.book.Now-r.dice.Intn(30))
	}
}

// counted are the changes above a version and up to another that a mirror looks at.
func (v *viewers) counted(m impl.BookMirror, above, upTo int) int {
	n := 0
	for _, c := range changesOf(v.log.changes, watching(m.Kind, m.Prefix, above)) {
		if c.Version <= upTo {
			n++
		}
	}
	return n
}

// wantRight wants a mirror to be what BookList was at its At, and to have taken no change twice and none too few.
func (v *viewers) wantRight(t *testing.T, what string, x *viewer) {
	t.Helper()
	list, noted := v.was.lists[x.mirror.At]
	if !noted {
		t.Fatalf("%s: the test knows nothing of version %d", what, x.mirror.At)
	}
	var wanted []impl.BookObject
	for _, o := range list {
		if looksAt(x.mirror.Kind, x.mirror.Prefix, o) {
			wanted = append(wanted, o)
		}
	}
	if !sameObjects(x.mirror.Objects, wanted) {
		t.Errorf("%s: %+v\nis not what the list was: %+v", what, x.mirror, wanted)
	}
	if x.mirror.Seen != x.due {
		t.Errorf("%s: %+v\nhas taken another number of changes than the %d that there were", what, x.mirror, x.due)
	}
}

// step lets a viewer step once, and tells the code.
func (v *viewers) step(t *testing.T, r *run, x *viewer, most int) int {
	t.Helper()
	before := x.mirror
	after, code := impl.BookStep(r.book, before, most)
	switch {
	case code == 0:
		x.due += v.counted(before, before.At, after.At)
		if before.At < r.book.Floor || after.At < before.At || after.At == before.At && before.At != r.book.Now {
			t.Errorf("a step from %d of %d to %d, most %d: At %d", before.At, r.book.Floor, r.book.Now, most, after.At)
		}
		if after.Seen-before.Seen > most {
			t.Errorf("a step of at most %d takes %d", most, after.Seen-before.Seen)
		}
	case code != 2 || before.At >= r.book.Floor:
		t.Errorf("a step from %d of %d to %d, most %d: code %d", before.At, r.book.Floor, r.book.Now, most, code)
	case after.At != r.book.Now:
		t.Errorf("listed anew, but At %d of %d", after.At, r.book.Now)
	}
	x.mirror = after
	v.wantRight(t, "a step", x)
	return code
}

// Promises 7 and 8, of mirrors that list and step now and then while the book is written and forgets.
func TestPromise7And8Steps(t *testing.T) {
	codes, between := map[int]int{}, 0
	var v viewers
	eachRun(t, 3, 500, func(r *run) {
		v.grow(t, r)
		for _, x := range v.all {
			if r.dice.Intn(8) > 0 {
				continue
			}
			code := v.step(t, r, x, draw(r, 1, 1, 2, 3, 10, 1000))
			codes[code]++
			if x.mirror.At < r.book.Now {
				between++
			}
		}
	})
	countCodes(t, codes, 0, 2)
	if between < 300 {
		t.Errorf("the test is not worth much: %d mirrors were between", between)
	}
}

// Promise 7, until At is Now.
func TestPromise7UntilNow(t *testing.T) {
	steps := map[int]int{}
	var v viewers
	eachRun(t, 2, 300, func(r *run) {
		v.grow(t, r)
		if r.dice.Intn(40) > 0 {
			return
		}
		for _, x := range v.all {
			most, n := draw(r, 1, 2, 3, 50, math.MaxInt), 0
			for first := true; first || x.mirror.At < r.book.Now; first = false {
				v.step(t, r, x, most)
				if n++; n > 300 || t.Failed() {
					t.Fatalf("%d steps, and At is %d of %d", n, x.mirror.At, r.book.Now)
				}
			}
			list, now := impl.BookList(r.book, x.mirror.Kind, x.mirror.Prefix)
			if now != x.mirror.At || !sameObjects(list, x.mirror.Objects) {
				t.Errorf("at Now the mirror %+v\nis not the list: %+v", x.mirror, list)
			}
			steps[min(n, 5)]++
		}
	})
	if steps[1] < 50 || steps[2] < 10 || steps[5] < 10 {
		t.Errorf("the test is not worth much: %v", steps)
	}
}

// Promise 7, of the mirror that nobody has listed: where a book begins with nothing, it is right.
func TestPromise7FromNothing(t *testing.T) {
	var v viewers
	eachRun(t, 2, 150, func(r *run) {
		v.grow(t, r)
		if _, fromNothing := v.was.lists[0]; !fromNothing || r.book.Floor > 0 {
			return
		}
		x := &viewer{mirror: impl.BookMirror{Kind: draw(r, "", "k", "l"), Prefix: draw(r, "", "a", "b")}}
		for x.mirror.At < r.book.Now && !t.Failed() {
			v.step(t, r, x, draw(r, 1, 3, 20))
		}
	})
}

// A step that has code 1 changes nothing, and what comes behind it is as if it had not been.
func TestPromise7StepsWithCode1(t *testing.T) {
	var v viewers
	eachRun(t, 1, 300, func(r *run) {
		v.grow(t, r)
		for _, x := range v.all {
			if r.dice.Intn(10) > 0 {
				continue
			}
			wantStepped(t, "most below 1", r.book, x.mirror, draw(r, 0, -1, math.MinInt), x.mirror, 1)
			wantStepped(t, "not valid", broken(r.book), x.mirror, 3, x.mirror, 1)
			ahead := x.mirror
			ahead.At = r.book.Now + 1
			wantStepped(t, "At above Now", r.book, ahead, 3, ahead, 1)
			want, code := plainStep(r.book, x.mirror, 3)
			wantStepped(t, "behind all that", r.book, x.mirror, 3, want, code)
			v.step(t, r, x, 3)
		}
	})
}

// Promise 8, of news that come twice, late, and with changes that were taken.
func TestPromise8NewsThatWereTaken(t *testing.T) {
	seen := map[string]int{}
	var v viewers
	old := map[*viewer][]impl.BookNews{}
	eachRun(t, 2, 400, func(r *run) {
		v.grow(t, r)
		for _, x := range v.all {
			if r.dice.Intn(6) > 0 {
				continue
			}
			if x.mirror.At < r.book.Floor {
				x.mirror = impl.BookRelist(r.book, x.mirror)
				continue
			}
			// From may be below At: then the news begin with changes that were taken.
			from := draw(r, x.mirror.At, max(r.book.Floor, x.mirror.At-r.dice.Intn(8)))
			n := impl.BookNext(r.book, watching(x.mirror.Kind, x.mirror.Prefix, from), draw(r, 1, 2, 5, 1000))
			before := x.mirror
			after, code := impl.BookTake(before, n)
			if (code == 2) != (n.From < before.At) || code == 1 {
				t.Errorf("%+v\ntakes %+v: code %d", before, n, code)
			}
			x.mirror, x.due = after, x.due+v.counted(before, before.At, after.At)
			v.wantRight(t, "news", x)
			if code == 0 {
				wantTaken(t, "the same news again", after, n, after, 0)
				seen["again"]++
				if len(n.Changes) > 0 && n.Changes[0].Version <= before.At && n.From > before.At {
					seen["partly"]++
				}
			}
			for _, late := range old[x] {
				if late.From < after.At {
					wantTaken(t, "late news", after, late, after, 2)
					seen["late"]++
				}
			}
			old[x] = append(old[x], n)
			old[x] = old[x][max(0, len(old[x])-5):]
		}
	})
	if seen["again"] < 500 || seen["partly"] < 100 || seen["late"] < 500 {
		t.Errorf("the test is not worth much: %v", seen)
	}
}

// Promise 8: Seen is never more than the changes that there were, however news come.
func TestPromise8Seen(t *testing.T) {
	var news []impl.BookNews
	var v viewers
	taken := 0
	eachRun(t, 2, 200, func(r *run) {
		if v.of != r {
			news = nil
		}
		v.grow(t, r)
		from := r.book.Floor + r.dice.Intn(r.book.Now-r.book.Floor+1)
		n := impl.BookNext(r.book, watching("", "", from), draw(r, 1, 3, 500))
		if r.dice.Intn(5) == 0 {
			n.Changes = append(n.Changes, n.Changes...)
		} else if r.dice.Intn(5) == 0 {
			slices.Reverse(n.Changes)
		}
		news = append(news, n)
		m := impl.BookMirror{}
		for range 6 {
			before, code := m, 0
			m, code = impl.BookTake(m, draw(r, news...))
			if m.Seen < before.Seen || m.At < before.At || code != 0 && !sameMirror(m, before) {
				t.Errorf("code %d: %+v\nbecomes %+v", code, before, m)
			}
		}
		taken += m.Seen
		if m.Seen > v.counted(m, 0, m.At) || m.Seen > r.book.Now {
			t.Errorf("%+v\nhas taken more changes than there were up to %d", m, r.book.Now)
		}
	})
	if taken < 1000 {
		t.Errorf("the test is not worth much: %d changes were taken", taken)
	}
}
