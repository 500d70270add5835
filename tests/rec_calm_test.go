package tests

import (
	"fmt"
	"math"
	"math/rand"
	"runtime"
	"slices"
	"sync"
	"testing"
	"time"

	"loop.example/wharflog/impl"
)

// ends lets the given recorders be down, and all others up.
func (s *saga) ends(down ...int) {
	s.t.Helper()
	for i, r := range s.w.Recorders {
		isDown := slices.Contains(down, r.Number)
		switch {
		case isDown:
			s.happen(event(impl.RecEvFall, i))
		case !r.Up:
			s.happen(event(impl.RecEvRise, i))
		}
	}
}

// wantLively is promise 20 of a saga's world: the wish of the recorder at a place is in each book of those that are up.
func (s *saga) wantLively(what string, at int, wish string) {
	s.t.Helper()
	if !s.isQuorum() {
		s.t.Fatalf("%s: the promise does not speak of this world", what)
	}
	full := len(s.w.Recorders[at].Wishes) == 20
	s.happen(impl.RecEvent{Kind: impl.RecEvWish, A: at, Text: wish})
	s.is(what, impl.RecCalm(s.w, 200))
	for _, r := range s.w.Recorders {
		if r.Up && !full && !slices.Contains(impl.RecBook(r), wish) {
			s.t.Errorf("%s: %d of %d knows %q", what, r.Number, r.Of, impl.RecBook(r))
		}
	}
}

// isQuorum is what promise 20 asks of a world, ahead of the wish.
func (s *saga) isQuorum() bool {
	up, most, texts := 0, 0, map[string]bool{}
	see := func(list []impl.RecSlot) {
		for _, sl := range list {
			texts[sl.Text] = true
		}
	}
	for _, r := range s.w.Recorders {
		up, most = up+boolInt(r.Up), max(most, len(r.Disk.Slots), len(r.Safe.Slots))
		see(r.Disk.Slots)
		see(r.Safe.Slots)
		for _, wish := range r.Wishes {
			texts[wish] = true
		}
		for _, m := range slices.Concat(r.Held, s.w.Flight) {
			texts[m.Text] = true
			see(m.Slots)
		}
	}
	delete(texts, "")
	return 2*up > len(s.w.Recorders) && most <= 20 && len(texts) < 40
}

// drawDown are the numbers of as many as may be down of n, or fewer.
func drawDown(dice *rand.Rand, n int) []int {
	order := dice.Perm(n)
	var list []int
	for _, i := range order[:dice.Intn((n+1)/2)] {
		list = append(list, i+1)
	}
	return list
}

// Promise 20 of drawn worlds.
func TestPromise20Liveness(t *testing.T) {
	seen := map[string]int{}
	for run := range 500 {
		dice := rand.New(rand.NewSource(int64(2000 + run)))
		n := 1 + run%5
		s := newSaga(t, dice, n, 18)
		for range oneOf(dice, 0, 50, 150, 300) {
			s.happen(s.event())
			if dice.Intn(20) == 0 {
				s.round()
			}
		}
		down := drawDown(dice, n)
		s.ends(down...)
		seen[fmt.Sprintf("%d down of %d", len(down), n)]++
		at := dice.Intn(n)
		for slices.Contains(down, at+1) {
			at = dice.Intn(n)
		}
		s.wantLively(fmt.Sprintf("run %d, down are %v of %d", run, down, n), at, oneOf(dice, "last", "t1", long(100)))
	}
	wantSeen(t, seen, 5, "0 down of 1", "0 down of 2", "1 down of 3", "1 down of 4", "0 down of 5", "1 down of 5", "2 down of 5")
}

// Each one and each two down of five, of which one may lead.
func TestPromise20OneAndTwoDown(t *testing.T) {
	for a := 1; a <= 5; a++ {
		for b := a; b <= 5; b++ {
			s := newSaga(t, fewDice(), 5, 1)
			s.happen(impl.RecEvent{Kind: impl.RecEvWish, A: 4, Text: "early"})
			s.calm(20)
			s.ends(a, b)
			for at := range s.w.Recorders {
				if s.w.Recorders[at].Up {
					s.wantLively(fmt.Sprint("down are ", a, b), at, fmt.Sprint("wish ", at))
				}
			}
			s.ends()
			s.wantLively("all up again", 0, "late")
			for _, r := range s.w.Recorders {
				if got := impl.RecBook(r); !slices.Equal(got, impl.RecBook(s.w.Recorders[0])) || len(got) < 4 {
					t.Errorf("%d and %d had been down: %d knows %q", a, b, r.Number, got)
				}
			}
		}
	}
}

// fewDice are for sagas whose events are not drawn.
func fewDice() *rand.Rand {
	return rand.New(rand.NewSource(5))
}

// Two try at once, and each refuses the other; then one of them leads.
func TestPromise20TwoTrying(t *testing.T) {
	for n := 2; n <= 5; n++ {
		for more := range 12 {
			s := newSaga(t, fewDice(), n, 1)
			ticks := 0
			for ; !s.w.Recorders[0].Trying || !s.w.Recorders[1].Trying; ticks++ {
				s.happen(event(impl.RecEvTick, 0))
				for ticks < 10 && len(s.w.Flight) > 0 {
					s.happen(event(impl.RecEvLose, 0))
				}
			}
			if ticks != 11 || s.w.Recorders[0].Ballot == s.w.Recorders[1].Ballot {
				t.Fatalf("%d ticks: %+v", ticks, s.w.Recorders)
			}
			for range more {
				s.happen(event(impl.RecEvTick, 0))
			}
			s.wantLively(fmt.Sprintf("%d, %d ticks", n, more), more%n, "wish")
		}
	}
}

// Two lead at once, one cut off; neither the text of the one nor that of the other takes the place of what is fixed.
func TestTwoLeadAtOnce(t *testing.T) {
	s := newSaga(t, fewDice(), 3, 1)
	s.calm(12)
	if !s.w.Recorders[0].Lead {
		t.Fatalf("%+v", s.w.Recorders[0])
	}
	s.happen(impl.RecEvent{Kind: impl.RecEvWish, A: 0, Text: "of the old one"})
	s.happen(impl.RecEvent{Kind: impl.RecEvWish, A: 1, Text: "of the new one"})
	for range 20 {
		s.happen(event(impl.RecEvTick, 0))
		for range len(s.w.Flight) {
			m := s.w.Flight[0]
			s.happen(event(map[bool]int{true: impl.RecEvLose, false: impl.RecEvBring}[m.From == 1 || m.To == 1], 0))
		}
	}
	if rs := s.w.Recorders; !rs[0].Lead || !rs[1].Lead || rs[0].Ballot >= rs[1].Ballot {
		t.Fatalf("%+v", rs)
	}
	if want := []impl.RecFix{fix(1, "of the new one")}; !same(s.w.Fixed, want) {
		t.Errorf("%+v", s.w.Fixed)
	}
	s.wantLively("all together again", 2, "wish")
	for _, r := range s.w.Recorders {
		if got := impl.RecBook(r); got[0] != "of the new one" || !slices.Equal(got, impl.RecBook(s.w.Recorders[0])) {
			t.Errorf("%d knows %q", r.Number, got)
		}
	}
}

// As much as promise 20 speaks of: twenty slots with each, and forty texts with the wish.
func TestPromise20Full(t *testing.T) {
	s := newSaga(t, fewDice(), 5, 1)
	for i := range 20 {
		s.happen(impl.RecEvent{Kind: impl.RecEvWish, A: i % 5, Text: fmt.Sprint("slot ", i)})
	}
	s.is("twenty slots", impl.RecCalm(s.w, 60))
	for i := range 19 {
		s.happen(impl.RecEvent{Kind: impl.RecEvWish, A: i / 10, Text: fmt.Sprint("wish ", i)})
	}
	s.ends(3, 5)
	s.wantLively("twenty slots, nineteen wishes", 1, "the last")
	for _, i := range []int{0, 1, 3} {
		if got := len(impl.RecBook(s.w.Recorders[i])); got != 40 {
			t.Errorf("%d knows %d", i+1, got)
		}
	}
}

// Promise 22, and rounds below 0 and above RecMaxCalm.
func TestPromise22Rounds(t *testing.T) {
	dice := rand.New(rand.NewSource(22))
	worlds := []impl.RecWorld{impl.RecNewWorld(1), impl.RecNewWorld(3), impl.RecNewWorld(5), busy(), downAll(busy()), crowdedWorld(), drawWorld(dice), drawWorld(dice)}
	for i, w := range worlds {
		for _, pair := range [][2]int{{0, 0}, {0, 1}, {1, 0}, {1, 1}, {3, 5}, {20, 7}, {0, 1000}, {1000, 0}, {999, 1}, {1, 999}, {500, 500}} {
			got := impl.RecCalm(impl.RecCalm(w, pair[0]), pair[1])
			if want := impl.RecCalm(w, pair[0]+pair[1]); !same(got, want) {
				t.Errorf("world %d: %d and %d rounds are not %d", i, pair[0], pair[1], pair[0]+pair[1])
			}
		}
		most := impl.RecCalm(w, 1000)
		wantWorld(t, "1000 rounds", most)
		for _, rounds := range []int{1001, 2000, math.MaxInt} {
			if got := impl.RecCalm(w, rounds); !same(got, most) {
				t.Errorf("world %d: %d rounds are not 1000", i, rounds)
			}
		}
		for _, rounds := range []int{0, -1, -1000, math.MinInt} {
			if got := impl.RecCalm(w, rounds); !same(got, w) {
				t.Errorf("world %d: %d rounds change it", i, rounds)
			}
			if got := impl.RecCalm(impl.RecCalm(w, 3), rounds); !same(got, impl.RecCalm(w, 3)) {
				t.Errorf("world %d: 3 and %d rounds are not 3", i, rounds)
			}
		}
	}
}

// One recorder counts the rounds by what it heard, whether it tries or leads.
func TestRoundsAreCounted(t *testing.T) {
	lone := impl.RecNewWorld(1)
	lone.Recorders[0] = impl.Recorder{Number: 1, Of: 1, Up: true, Safe: disk(1, 0), Disk: disk(1, 0), Lead: true, Ballot: 1}
	for _, rounds := range []int{0, 1, 2, 999, 1000} {
		want := plainOf(lone)
		want.Recorders[0].Heard = rounds
		if got := impl.RecCalm(lone, rounds); !same(got, want) {
			t.Errorf("%d rounds: %+v", rounds, got)
		}
	}
	lone.Recorders[0].Heard = 0
	if got := impl.RecCalm(lone, 1001).Recorders[0].Heard; got != 1000 {
		t.Errorf("1001 rounds: heard %d", got)
	}
}

// A round is a tick and as many messages as are in flight then, one after the other.
func TestRoundsAreEvents(t *testing.T) {
	dice := rand.New(rand.NewSource(23))
	worlds := []impl.RecWorld{busy(), downAll(busy()), crowdedWorld(), impl.RecNewWorld(5)}
	for range 12 {
		worlds = append(worlds, drawWorld(dice))
	}
	for i, w := range worlds {
		want := w
		for round := 1; round <= 3; round++ {
			want = impl.RecDo(want, event(impl.RecEvTick, 0))
			for range len(want.Flight) {
				want = impl.RecDo(want, event(impl.RecEvBring, 0))
			}
			if got := impl.RecCalm(w, round); !same(got, want) {
				t.Errorf("world %d, %d rounds:\n%+v and not\n%+v", i, round, got, want)
			}
		}
		listsKept(t, fmt.Sprint("world ", i), w, func(w impl.RecWorld) impl.RecWorld { return impl.RecCalm(w, 3) })
	}
}

// What a call answers is the same each time, on one processor and on many, and for many callers of one world at once.
func TestAnswersDoNotHangOnGoroutines(t *testing.T) {
	defer runtime.GOMAXPROCS(runtime.GOMAXPROCS(0))
	dice := rand.New(rand.NewSource(24))
	for _, w := range []impl.RecWorld{busy(), crowdedWorld(), impl.RecCalm(impl.RecNewWorld(5), 9), drawWorld(dice), drawWorld(dice)} {
		tick, calm := plainRecDo(w, event(impl.RecEvTick, 0)), plainCalm(w, 2)
		given := roomyOf(w)
		before := wholeOf(given)
		for _, processors := range []int{1, 2, 16} {
			runtime.GOMAXPROCS(processors)
			var callers sync.WaitGroup
			for range 8 {
				callers.Go(func() {
					for range 10 {
						if !same(impl.RecDo(given, event(impl.RecEvTick, 0)), tick) || !same(impl.RecCalm(given, 2), calm) {
							t.Errorf("on %d processors: another answer", processors)
						}
					}
				})
			}
			callers.Wait()
		}
		if !same(before, wholeOf(given)) {
			t.Error("something was written into an argument or behind its end")
		}
	}
}

// Behind a call no goroutine is left, not even one that had something to send that there was no room for.
func TestNoGoroutineIsLeft(t *testing.T) {
	full := crowdedWorld()
	full.Flight = manyMessages(600, 1, 2)
	before := runtime.NumGoroutine()
	for range 50 {
		for _, w := range []impl.RecWorld{busy(), full, downAll(busy()), impl.RecNewWorld(5), {}} {
			impl.RecDo(w, event(impl.RecEvTick, 0))
			impl.RecDo(w, event(impl.RecEvBring, 0))
			impl.RecCalm(w, 3)
			impl.RecAgree(w)
		}
	}
	wantNoMore(t, before)
}

// wantNoMore wants that there are no more goroutines than before.
func wantNoMore(t *testing.T, before int) {
	t.Helper()
	// One that has done all may still be on its way out.
	for wait := 0; runtime.NumGoroutine() > before && wait < 200; wait++ {
		time.Sleep(10 * time.Millisecond)
	}
	if left := runtime.NumGoroutine() - before; left > 0 {
		t.Errorf("%d are left", left)
	}
}
