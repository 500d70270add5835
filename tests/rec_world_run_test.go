package tests

import (
	"fmt"
	"math/rand"
	"slices"
	"testing"

	"loop.example/wharflog/impl"
)

// drawWorld is a world that is ok, whether or not any events lead to it: its disks often have the same, so that most of them tell a text.
func drawWorld(dice *rand.Rand) impl.RecWorld {
	n := 1 + dice.Intn(5)
	w := impl.RecWorld{}
	common := drawDisk(dice)
	for number := 1; number <= n; number++ {
		r := waiting(dice, drawNumbered(dice, number, n))
		if dice.Intn(3) > 0 {
			r.Safe = plainOf(common)
		}
		w.Recorders = append(w.Recorders, r)
	}
	w.Flight = drawFlight(dice, w)
	for place := 1; place <= 60; place++ {
		if dice.Intn(8) == 0 {
			w.Fixed = append(w.Fixed, fix(place, drawText(dice)))
		}
	}
	return w
}

func drawFlight(dice *rand.Rand, w impl.RecWorld) []impl.RecMessage {
	n := len(w.Recorders)
	flight := manyMessages(oneOf(dice, 0, 0, 0, 1, 5, 560, 580, 590), n, 1+dice.Intn(n))
	for range oneOf(dice, 0, 1, 2, 5, 10) {
		if m := drawMessage(dice, oneOf(dice, w.Recorders...)); soundMessage(m, n) {
			flight = append(flight, m)
		}
	}
	return flight
}

// drawEvent is mostly about messages and recorders that are there.
func drawEvent(dice *rand.Rand, w impl.RecWorld) impl.RecEvent {
	e := impl.RecEvent{Kind: 1 + dice.Intn(7), Text: oneOf(dice, drawText(dice), "w19", "w20", long(101))}
	there := len(w.Flight)
	if e.Kind >= impl.RecEvFall {
		there = len(w.Recorders)
	}
	if there > 0 {
		e.A = dice.Intn(there)
	}
	switch dice.Intn(30) {
	case 0:
		e.A = oneOf(dice, -1, there, there+1)
	case 1:
		e.Kind = oneOf(dice, -1, 0, 8, 12)
	}
	return e
}

// Promise 15 of RecDo and RecCalm, of any world that is ok.
func TestPromise15Worlds(t *testing.T) {
	dice := rand.New(rand.NewSource(1517))
	seen := map[string]int{}
	for run := range 700 {
		w := drawWorld(dice)
		wantWorld(t, "drawn", w)
		for step := range 4 {
			e := drawEvent(dice, w)
			what := fmt.Sprintf("run %d, step %d: %+v", run, step, e)
			got, want := impl.RecDo(w, e), plainRecDo(w, e)
			if !same(got, want) {
				t.Fatalf("%s:\n%+v and not\n%+v, of\n%+v", what, got, want, w)
			}
			wantWorld(t, what, got)
			if step == 0 {
				wantTold(t, what, got)
				listsKept(t, what, worldGiven{w, e}, doOf)
			}
			countEvent(seen, w, e, got)
			w = got
		}
		if run%6 == 0 {
			wantRounds(t, w, dice.Intn(4))
		}
	}
	wantSeen(t, seen, 30, "kind 1", "kind 2", "kind 3", "kind 4", "kind 5", "kind 6", "kind 7", "nothing happens", "fixed by a tick", "fixed by a message",
		"no room for all", "no room for one more", "the first of most", "known otherwise", "they agree", "they do not")
}

// wantTold looks at all that RecMajor and RecAgree tell of a world.
func wantTold(t *testing.T, what string, w impl.RecWorld) {
	t.Helper()
	for place := 0; place <= 61; place += 1 + place%7 {
		text, is := impl.RecMajor(w, place)
		if plain, told := plainMajor(w, place); plain != text || told != is {
			t.Errorf("%s, place %d: %q %v and not %q %v", what, place, text, is, plain, told)
		}
	}
	if got, want := impl.RecAgree(w), plainAgree(w); got != want {
		t.Errorf("%s: they agree: %v", what, got)
	}
}

func wantRounds(t *testing.T, w impl.RecWorld, rounds int) {
	t.Helper()
	got, want := impl.RecCalm(w, rounds), plainCalm(w, rounds)
	if !same(got, want) {
		t.Fatalf("%d rounds:\n%+v and not\n%+v, of\n%+v", rounds, got, want, w)
	}
	wantWorld(t, fmt.Sprint(rounds, " rounds"), got)
	listsKept(t, fmt.Sprint(rounds, " rounds"), w, func(w impl.RecWorld) impl.RecWorld { return impl.RecCalm(w, rounds) })
}

func countEvent(seen map[string]int, w impl.RecWorld, e impl.RecEvent, got impl.RecWorld) {
	count := func(what string, is bool) { seen[what] += boolInt(is) }
	agree := impl.RecAgree(got)
	count("they agree", agree)
	count("they do not", !agree)
	if same(w, got) {
		seen["nothing happens"]++
		count("no room for one more", e.Kind == impl.RecEvDouble && len(w.Flight) == 600)
		return
	}
	seen[fmt.Sprint("kind ", e.Kind)]++
	count("fixed by a tick", e.Kind == impl.RecEvTick && len(got.Fixed) > len(w.Fixed))
	count("fixed by a message", e.Kind == impl.RecEvBring && len(got.Fixed) > len(w.Fixed))
	_, sent := ticked(w)
	count("no room for all", e.Kind == impl.RecEvTick && len(w.Flight)+len(sent) > 600)
	for place := 1; place <= 60; place++ {
		_, had := plainFixed(w, place)
		fixed, has := plainFixed(got, place)
		if !had && has {
			_, most := plainMost(got, place)
			first, known := plainFirst(got, place)
			count("the first of most", most && known && first != fixed)
			count("known otherwise", !most && plainOtherwise(got, place, first))
		}
	}
}

// plainOtherwise says whether somebody knows another text.
func plainOtherwise(w impl.RecWorld, place int, text string) bool {
	return slices.ContainsFunc(w.Recorders, func(r impl.Recorder) bool { return r.Disk.Known >= place && r.Disk.Slots[place-1].Text != text })
}

// A saga is what becomes of a new world: the texts that were handed in, and who led under which ballot. For a while one is cut off: what
// should be brought to it or is from it is lost.
type saga struct {
	t       *testing.T
	dice    *rand.Rand
	w       impl.RecWorld
	texts   int
	ticks   int
	cut     int
	handed  map[string]bool
	leaders map[int]int
}

// newSaga has a world of n, so many different wishes to come, and so many ticks of a hundred events: the more, the sooner others try.
func newSaga(t *testing.T, dice *rand.Rand, n, texts int) *saga {
	return &saga{t, dice, impl.RecNewWorld(n), texts, oneOf(dice, 22, 30, 42), 0, map[string]bool{"": true}, map[int]int{}}
}

func (s *saga) event() impl.RecEvent {
	n := len(s.w.Recorders)
	kind := s.dice.Intn(100) - s.ticks
	switch {
	case kind < 0:
		return event(impl.RecEvTick, s.dice.Intn(3))
	case kind < 3:
		return event(impl.RecEvFall, s.dice.Intn(n))
	case kind < 10:
		return event(impl.RecEvRise, s.dice.Intn(n))
	case kind < 16:
		return impl.RecEvent{Kind: impl.RecEvWish, A: s.dice.Intn(n), Text: fmt.Sprint("t", s.dice.Intn(s.texts))}
	case kind < 20:
		return event(impl.RecEvDouble, s.dice.Intn(len(s.w.Flight)+1))
	case kind < 24:
		return event(impl.RecEvLose, s.dice.Intn(len(s.w.Flight)+1))
	case kind < 28:
		return s.bringing(max(0, len(s.w.Flight)-1))
	case kind < 29:
		return event(s.dice.Intn(10), s.dice.Intn(10)-2)
	}
	return s.bringing(s.dice.Intn(1 + len(s.w.Flight)/3))
}

func (s *saga) bringing(at int) impl.RecEvent {
	if s.dice.Intn(80) == 0 {
		s.cut = max(0, s.dice.Intn(2+len(s.w.Recorders))-1)
	}
	if at < len(s.w.Flight) && s.cut > 0 && (s.w.Flight[at].To == s.cut || s.w.Flight[at].From == s.cut) {
		return event(impl.RecEvLose, at)
	}
	return event(impl.RecEvBring, at)
}

func (s *saga) happen(e impl.RecEvent) {
	s.t.Helper()
	if e.Kind == impl.RecEvWish && e.A >= 0 && e.A < len(s.w.Recorders) && s.w.Recorders[e.A].Up {
		s.handed[e.Text] = true
	}
	s.is(fmt.Sprintf("%+v", e), impl.RecDo(s.w, e))
}

// round lets all tick and brings all that is in flight, but what is cut off.
func (s *saga) round() {
	s.t.Helper()
	s.happen(event(impl.RecEvTick, 0))
	for range len(s.w.Flight) {
		s.happen(s.bringing(0))
	}
}

func (s *saga) calm(rounds int) {
	s.t.Helper()
	for range rounds {
		s.is("a round", impl.RecCalm(s.w, 1))
	}
}

// is looks at what the world has become: promises 15, 17, 18, 19 and 21.
func (s *saga) is(what string, w impl.RecWorld) {
	s.t.Helper()
	wantWorld(s.t, what, w)
	for _, f := range s.w.Fixed {
		if text, has := plainFixed(w, f.Index); !has || text != f.Text {
			s.t.Fatalf("%s: %+v was fixed, and now %q %v is", what, f, text, has)
		}
	}
	if !impl.RecAgree(w) || !plainAgree(w) {
		s.t.Fatalf("%s: they do not agree: %+v", what, w)
	}
	for _, r := range w.Recorders {
		if other, led := s.leaders[r.Ballot]; r.Lead && led && other != r.Number {
			s.t.Fatalf("%s: %d and %d lead under %d", what, other, r.Number, r.Ballot)
		}
		if r.Lead {
			s.leaders[r.Ballot] = r.Number
		}
		for _, text := range impl.RecBook(r) {
			if !s.handed[text] {
				s.t.Fatalf("%s: %q was not handed in", what, text)
			}
		}
	}
	s.w = w
}

// Promises 15, 17, 18, 19 and 21 after every event of drawn runs; and each event is what the plain one tells.
func TestPromises17To19And21(t *testing.T) {
	seen := map[string]int{}
	for run := range 300 {
		dice := rand.New(rand.NewSource(int64(1700 + run)))
		s := newSaga(t, dice, 1+run%5, 12)
		s.calm(oneOf(dice, 0, 0, 7, 8, 9, 10, 12))
		for step := range oneOf(dice, 150, 150, 150, 500) {
			e := s.event()
			if want := plainRecDo(s.w, e); (step+run)%5 == 0 && !same(impl.RecDo(s.w, e), want) {
				t.Fatalf("run %d, step %d: %+v: not what the plain one tells", run, step, e)
			}
			before := s.w
			s.happen(e)
			countSaga(seen, before, s.w, e)
			if dice.Intn(15) == 0 {
				s.round()
			}
		}
		seen["led under"] += len(s.leaders)
		seen["fixed"] += len(s.w.Fixed)
	}
	wantSeen(t, seen, 30, "led under", "fixed", "fixed by a tick", "known by a message", "lost by a fall", "two lead at once", "two try at once",
		"one down", "two down", "most down", "doubled", "lost", "more fixed than known")
}

func countSaga(seen map[string]int, before, w impl.RecWorld, e impl.RecEvent) {
	count := func(what string, is bool) { seen[what] += boolInt(is) }
	leads, tries, down, most, known, was := 0, 0, 0, 0, 0, 0
	for i, r := range w.Recorders {
		leads, tries, down = leads+boolInt(r.Lead), tries+boolInt(r.Trying), down+boolInt(!r.Up)
		most, known, was = max(most, r.Disk.Known), known+r.Disk.Known, was+before.Recorders[i].Disk.Known
	}
	count("two lead at once", leads > 1)
	count("two try at once", tries > 1)
	count("one down", down == 1)
	count("two down", down == 2)
	count("most down", 2*down > len(w.Recorders))
	count("more fixed than known", len(w.Fixed) > most)
	count("fixed by a tick", e.Kind == impl.RecEvTick && len(w.Fixed) > len(before.Fixed))
	count("fixed by a message", e.Kind == impl.RecEvBring && len(w.Fixed) > len(before.Fixed))
	count("known by a message", e.Kind == impl.RecEvBring && known > was)
	count("lost by a fall", e.Kind == impl.RecEvFall && known < was)
	count("doubled", len(w.Flight) == len(before.Flight)+1 && e.Kind == impl.RecEvDouble)
	count("lost", len(w.Flight) == len(before.Flight)-1 && e.Kind == impl.RecEvLose)
}
