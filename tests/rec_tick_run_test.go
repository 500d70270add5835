package tests

import (
	"fmt"
	"math/rand"
	"slices"
	"testing"

	"loop.example/wharflog/impl"
)

// drawWaiting is a valid recorder, often one that waited nearly long enough, and often one that a tick makes lead.
func drawWaiting(dice *rand.Rand) impl.Recorder {
	return waiting(dice, drawRecorder(dice))
}

func waiting(dice *rand.Rand, r impl.Recorder) impl.Recorder {
	if r.Up {
		limit := 4 + 3*r.Number
		r.Heard = oneOf(dice, r.Heard, limit-1, limit, limit+1)
		if r.Trying && dice.Intn(2) == 0 {
			r.Ballot = r.Disk.Promise
		}
		if texts := r.Disk.Slots; len(texts) > 0 && len(r.Wishes) > 0 {
			if text := oneOf(dice, texts...).Text; text != "" && !slices.Contains(r.Wishes, text) {
				r.Wishes[dice.Intn(len(r.Wishes))] = text
			}
		}
	}
	return r
}

// A recStep is one of the five functions: what it gives, and what the plain one gives.
type recStep struct {
	name      string
	got, want tickTold
	kept      func(t *testing.T, what string)
}

func drawStep(dice *rand.Rand, r impl.Recorder) recStep {
	alone := func(name string, does, plain func(impl.Recorder) impl.Recorder) recStep {
		return recStep{name, tickTold{R: does(r)}, tickTold{R: plain(r)}, func(t *testing.T, what string) { listsKept(t, what, r, does) }}
	}
	switch dice.Intn(10) {
	case 0:
		return alone("fall", impl.RecFall, plainRecFall)
	case 1:
		return alone("rise", impl.RecRise, plainRecRise)
	case 2:
		text := oneOf(dice, drawText(dice), "w19", "w20", long(101))
		wish := func(r impl.Recorder) impl.Recorder { return impl.RecWish(r, text) }
		return alone("wish", wish, func(r impl.Recorder) impl.Recorder { return plainRecWish(r, text) })
	case 3, 4, 5:
		m := drawMessage(dice, r)
		take := func(r impl.Recorder) impl.Recorder { return impl.RecTake(r, m) }
		return alone("take", take, func(r impl.Recorder) impl.Recorder { return plainRecTake(r, m) })
	}
	plain, told := plainRecTick(r)
	return recStep{"tick", tickOf(r), tickTold{plain, told}, func(t *testing.T, what string) { listsKept(t, what, r, tickOf) }}
}

// Promises 15 and 16 over runs of all that a recorder does.
func TestPromises15And16(t *testing.T) {
	dice := rand.New(rand.NewSource(1516))
	seen := map[string]int{}
	for run := range 5000 {
		r := drawWaiting(dice)
		if broken := brokenSentences(r); len(broken) > 0 {
			t.Fatalf("drawn, and it breaks %q: %+v", broken, r)
		}
		for step := range 6 {
			s := drawStep(dice, r)
			what := fmt.Sprintf("run %d, step %d, a %s", run, step, s.name)
			if !same(s.got, s.want) {
				t.Fatalf("%s:\n%+v and not\n%+v, of\n%+v", what, s.got, s.want, r)
			}
			wantSentOk(t, what, r, s.got)
			wantDisks(t, what, s.name, r, s.got.R)
			if step == 0 {
				s.kept(t, what)
			}
			countStep(seen, s, r)
			r = s.got.R
		}
	}
	wantSeen(t, seen, 40, "fall", "rise", "wish", "take", "tick", "a tick while down", "a fall while down", "a rise while up", "a rise while down",
		"400 sent", "leads by a tick", "promises itself", "tries by a tick", "tries anew", "no ballot any more", "known goes on by a tick", "brought in by a tick",
		"no room for a wish", "a wish gone by a tick", "a promise lost", "a known place lost", "a slot lost", "a fall while it leads", "a fall while it tries")
}

// wantDisks is promise 16 of one step: a fall brings back what was safe, and nothing else goes back.
func wantDisks(t *testing.T, what, name string, r, got impl.Recorder) {
	t.Helper()
	safe := r.Safe
	switch {
	case name == "fall":
		if !same(got.Disk, r.Safe) {
			t.Errorf("%s: the Disk is %+v and was safe as %+v", what, got.Disk, r.Safe)
		}
	case got.Disk.Promise < r.Disk.Promise || got.Disk.Known < r.Disk.Known:
		t.Errorf("%s: the Disk goes back from %+v to %+v", what, r.Disk, got.Disk)
	case !same(got.Disk.Slots[:r.Disk.Known], r.Disk.Slots[:r.Disk.Known]):
		t.Errorf("%s: what was known is another thing now", what)
	case name == "tick" && r.Up:
		safe = r.Disk
	}
	if !same(got.Safe, safe) {
		t.Errorf("%s: safe is %+v and not %+v", what, got.Safe, safe)
	}
}

func countStep(seen map[string]int, s recStep, r impl.Recorder) {
	got := s.got.R
	seen[s.name]++
	count := func(what string, is bool) { seen[what] += boolInt(is) }
	switch s.name {
	case "tick":
		count("a tick while down", !r.Up)
		count("400 sent", len(r.Held) == 400)
		count("leads by a tick", got.Lead && !r.Lead)
		count("promises itself", got.Trying && len(got.Yes) > len(r.Yes))
		count("tries by a tick", got.Trying && !r.Trying)
		count("tries anew", r.Trying && got.Trying && got.Ballot > r.Ballot)
		count("no ballot any more", r.Heard > 1 && got.Heard == 0 && !got.Trying)
		count("known goes on by a tick", got.Disk.Known > r.Disk.Known)
		count("brought in by a tick", r.Lead && len(got.Disk.Slots) > len(r.Disk.Slots))
		count("no room for a wish", got.Lead && len(got.Disk.Slots) == 60 && len(got.Wishes) > 2)
		count("a wish gone by a tick", len(got.Wishes) < len(r.Wishes))
	case "fall":
		count("a fall while down", !r.Up)
		count("a promise lost", got.Disk.Promise < r.Disk.Promise)
		count("a known place lost", got.Disk.Known < r.Disk.Known)
		count("a slot lost", len(got.Disk.Slots) < len(r.Disk.Slots))
		count("a fall while it leads", r.Lead)
		count("a fall while it tries", r.Trying)
	case "rise":
		count("a rise while up", r.Up)
		count("a rise while down", !r.Up)
	}
}

// Recorders that may be anything: nothing of those that are not valid, and nothing is sent then.
func TestTickOfAnyRecorder(t *testing.T) {
	dice := rand.New(rand.NewSource(17))
	valid := 0
	roles := []func() impl.Recorder{idle, leading, trying, fallen}
	for range 12000 {
		r := oneOf(dice, roles...)()
		for range dice.Intn(3) {
			drawPart(dice, &r)
		}
		plain, told := plainRecTick(r)
		if got := tickOf(r); !same(got, tickTold{plain, told}) {
			t.Fatalf("a tick of %+v:\n%+v and not\n%+v %+v", r, got, plain, told)
		}
		if got, want := impl.RecFall(r), plainRecFall(r); !same(got, want) {
			t.Fatalf("a fall of %+v:\n%+v and not\n%+v", r, got, want)
		}
		if got, want := impl.RecRise(r), plainRecRise(r); !same(got, want) {
			t.Fatalf("a rise of %+v:\n%+v and not\n%+v", r, got, want)
		}
		valid += boolInt(len(brokenSentences(r)) == 0)
	}
	if valid < 3000 || valid > 9000 {
		t.Errorf("%d were valid", valid)
	}
}

// A pack is recorders, and the messages between them; leaders and texts are whatever was seen of them.
type pack struct {
	t       *testing.T
	rs      []impl.Recorder
	flight  []impl.RecMessage
	leaders map[int]int
	texts   map[int]string
}

func newPack(t *testing.T, of int) *pack {
	p := &pack{t: t, leaders: map[int]int{}, texts: map[int]string{}}
	for number := 1; number <= of; number++ {
		p.rs = append(p.rs, impl.RecNew(number, of))
	}
	return p
}

func (p *pack) tick(i int) {
	got := tickOf(p.rs[i])
	for _, m := range got.Sent {
		p.wantSafe(got.R, m)
	}
	p.flight = append(p.flight, got.Sent...)
	p.is(i, got.R)
}

// wantSafe: whatever a recorder tells of its disk would be there behind a fall.
func (p *pack) wantSafe(r impl.Recorder, m impl.RecMessage) {
	p.t.Helper()
	told := m.Kind == 1 || m.Kind == 2 || m.Kind == 4 || m.Kind == 9
	if told && r.Safe.Promise < m.Ballot {
		p.t.Errorf("sent %+v, and safe is %+v", m, r.Safe)
	}
	if m.Kind == 4 && m.Index > r.Safe.Known && (m.Index > len(r.Safe.Slots) || r.Safe.Slots[m.Index-1].Ballot < m.Ballot) {
		p.t.Errorf("sent %+v, and safe is %+v", m, r.Safe)
	}
	for i, s := range m.Slots {
		if i >= len(r.Safe.Slots) || r.Safe.Slots[i].Ballot < s.Ballot && i >= r.Safe.Known {
			p.t.Errorf("sent %+v, and safe is %+v", m, r.Safe)
		}
	}
}

// is looks at one that changed: nobody else led under its ballot, and what it knows is what all know.
func (p *pack) is(i int, r impl.Recorder) {
	p.t.Helper()
	if !impl.RecValid(r) {
		p.t.Fatalf("not valid: %+v", r)
	}
	if r.Lead {
		if other, led := p.leaders[r.Ballot]; led && other != r.Number {
			p.t.Fatalf("%d and %d led under %d", other, r.Number, r.Ballot)
		}
		p.leaders[r.Ballot] = r.Number
	}
	for place, text := range impl.RecBook(r) {
		if other, there := p.texts[place]; there && other != text {
			p.t.Fatalf("place %d is %q and %q", place+1, other, text)
		}
		p.texts[place] = text
	}
	p.rs[i] = r
}

func (p *pack) bring(at int) {
	m := p.flight[at]
	p.flight = slices.Delete(p.flight, at, at+1)
	p.is(m.To-1, impl.RecTake(p.rs[m.To-1], m))
}

// calm is a round in which all tick and all is brought.
func (p *pack) calm() {
	for i := range p.rs {
		p.tick(i)
	}
	for range len(p.flight) {
		p.bring(0)
	}
}

func (p *pack) happen(dice *rand.Rand, wishes int) {
	i := dice.Intn(len(p.rs))
	kind := dice.Intn(40)
	switch {
	case kind < 12:
		p.tick(i)
	case kind == 12:
		p.is(i, impl.RecFall(p.rs[i]))
	case kind <= 15:
		p.is(i, impl.RecRise(p.rs[i]))
	case kind == 16:
		p.is(i, impl.RecWish(p.rs[i], fmt.Sprint("t", dice.Intn(wishes))))
	case kind == 17:
		p.calm()
	case len(p.flight) == 0:
	case kind == 18:
		p.flight = append(p.flight, oneOf(dice, p.flight...))
	case kind <= 20:
		p.flight = slices.Delete(p.flight, 0, 1)
	default:
		p.bring(dice.Intn(min(len(p.flight), 10)))
	}
}

// Whatever falls, is lost, doubled or late: one leader a ballot, one book, nothing told that is not safe; and at rest all wishes come in.
func TestPacksThatFall(t *testing.T) {
	dice := rand.New(rand.NewSource(161))
	led, known := 0, 0
	for run := range 400 {
		p := newPack(t, 1+run%5)
		for range 800 {
			p.happen(dice, 15)
		}
		led, known = led+len(p.leaders), known+len(p.texts)
		for i, r := range p.rs {
			p.is(i, impl.RecRise(r))
		}
		p.is(0, impl.RecWish(p.rs[0], "last"))
		for range 100 {
			p.calm()
		}
		for _, r := range p.rs {
			if !slices.Contains(impl.RecBook(r), "last") || len(r.Wishes) > 0 {
				t.Errorf("run %d: number %d of %d knows %q and wishes %q", run, r.Number, r.Of, impl.RecBook(r), r.Wishes)
			}
		}
	}
	if led < 1000 || known < 2000 {
		t.Errorf("%d ballots were led under, %d places known ahead of the rest", led, known)
	}
}
