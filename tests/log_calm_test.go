package tests

import (
	"fmt"
	"math"
	"math/rand"
	"runtime"
	"sync"
	"testing"

	"loop.example/wharflog/impl"
)

// calmLogs are worlds for calm rounds.
func calmLogs() []impl.LogWorld {
	dice := rand.New(rand.NewSource(28))
	down, full := court(), court()
	down.Rec, full.Asked = downAll(down.Rec), manyAsked(12)
	return []impl.LogWorld{impl.LogNew(1), impl.LogNew(3), impl.LogNew(5), court(), down, full, drawLog(dice), drawLog(dice)}
}

type calmGiven struct {
	W      impl.LogWorld
	Rounds int
}

func calmOf(g calmGiven) impl.LogWorld {
	return impl.LogCalm(g.W, g.Rounds)
}

// Rounds are the recorders' own, and each is one event more; nothing else changes.
func TestLogRounds(t *testing.T) {
	for i, w := range calmLogs() {
		for rounds, many := range map[int]int{math.MinInt: 0, -1000: 0, -1: 0, 0: 0, 1: 1, 2: 2, 3: 3, 25: 25, 999: 999, 1000: 1000, 1001: 1000, 2000: 1000, math.MaxInt: 1000} {
			want := plainOf(w)
			want.Rec, want.Now = impl.RecCalm(w.Rec, many), w.Now+many
			got := impl.LogCalm(w, rounds)
			if !same(got, want) {
				t.Errorf("world %d, %d rounds:\n%+v and not\n%+v", i, rounds, got, want)
			}
			wantLog(t, fmt.Sprintf("world %d, %d rounds", i, rounds), got)
			if many <= 3 {
				if plain := plainLogCalm(w, rounds); !same(got, plain) {
					t.Errorf("world %d, %d rounds:\n%+v, and the plain one tells\n%+v", i, rounds, got, plain)
				}
				listsKept(t, fmt.Sprintf("world %d, %d rounds", i, rounds), calmGiven{w, rounds}, calmOf)
			}
		}
	}
}

// Promise 28: rounds one after the other.
func TestPromise28Rounds(t *testing.T) {
	for i, w := range calmLogs() {
		for _, pair := range [][2]int{{0, 0}, {0, 1}, {1, 0}, {1, 1}, {3, 5}, {20, 7}, {0, 1000}, {1000, 0}, {999, 1}, {1, 999}, {500, 500}} {
			got := impl.LogCalm(impl.LogCalm(w, pair[0]), pair[1])
			if want := impl.LogCalm(w, pair[0]+pair[1]); !same(got, want) {
				t.Errorf("world %d: %d and %d rounds are not %d", i, pair[0], pair[1], pair[0]+pair[1])
			}
		}
	}
}

// A round is a tick and all that is in flight then; as one event, though as several it would be more.
func TestLogRoundsAndEvents(t *testing.T) {
	for i, w := range calmLogs() {
		many := w
		many.Rec = impl.RecDo(many.Rec, event(impl.RecEvTick, 0))
		events := 1
		for range len(many.Rec.Flight) {
			many.Rec = impl.RecDo(many.Rec, event(impl.RecEvBring, 0))
			events++
		}
		step := impl.LogDo(w, impl.LogEvent{Kind: impl.RecEvTick})
		for range events - 1 {
			step = impl.LogDo(step, impl.LogEvent{Kind: impl.RecEvBring})
		}
		got := impl.LogCalm(w, 1)
		if !same(got.Rec, many.Rec) || !same(step.Rec, many.Rec) || got.Now != w.Now+1 || step.Now != w.Now+events || !same(got.Asked, w.Asked) {
			t.Errorf("world %d: %d events: Now is %d and %d", i, events, got.Now, step.Now)
		}
	}
}

// eachLogCall makes each call of chapters 22 and 23 that may have goroutines, and tells what they answered.
func eachLogCall(w impl.LogWorld) []any {
	answers := []any{impl.LogCalm(w, 2), impl.LogFixed(w), impl.LogHistory(w), impl.LogRight(w)}
	for kind := range 14 {
		for at := range 2 {
			answers = append(answers, impl.LogDo(w, impl.LogEvent{Kind: kind, A: at, B: 1, Call: one("eve", 1, end("x"))}))
		}
	}
	return append(answers, impl.LogDo(w, askingAt(0, courtCalls()[3])), impl.LogDo(w, hearingAt(0, 3)))
}

// What a call answers is the same each time, on one processor and on many, and for many callers of one world at once.
func TestLogAnswersDoNotHangOnGoroutines(t *testing.T) {
	defer runtime.GOMAXPROCS(runtime.GOMAXPROCS(0))
	for i, w := range calmLogs() {
		given := roomyOf(w)
		before := wholeOf(given)
		want := fmt.Sprintf("%+v", eachLogCall(w))
		for _, processors := range []int{1, 2, 16} {
			runtime.GOMAXPROCS(processors)
			var callers sync.WaitGroup
			for range 6 {
				callers.Go(func() {
					if got := fmt.Sprintf("%+v", eachLogCall(given)); got != want {
						t.Errorf("world %d, on %d processors: another answer", i, processors)
					}
				})
			}
			callers.Wait()
		}
		if !same(before, wholeOf(given)) {
			t.Errorf("world %d: something was written into an argument or behind its end", i)
		}
	}
}

// Behind a call no goroutine is left, whether or not something came of it.
func TestNoGoroutineOfALogIsLeft(t *testing.T) {
	before := runtime.NumGoroutine()
	for range 20 {
		for _, w := range append(calmLogs(), impl.LogWorld{}) {
			eachLogCall(w)
		}
	}
	wantNoMore(t, before)
}
