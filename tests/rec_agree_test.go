package tests

import (
	"fmt"
	"math"
	"slices"
	"testing"

	"loop.example/wharflog/impl"
)

type majorGiven struct {
	W impl.RecWorld
	I int
}

type majorTold struct {
	Text string
	Is   bool
}

func majorOf(g majorGiven) majorTold {
	text, is := impl.RecMajor(g.W, g.I)
	return majorTold{text, is}
}

func wantMajor(t *testing.T, what string, w impl.RecWorld, index int, want majorTold) {
	t.Helper()
	wantWorld(t, what, w)
	if text, is := plainMajor(w, index); text != want.Text || is != want.Is {
		t.Errorf("%s, place %d: the plain one tells %q %v", what, index, text, is)
	}
	if text, is := impl.RecMajor(w, index); text != want.Text || is != want.Is {
		t.Errorf("%s, place %d: %q %v and not %q %v", what, index, text, is, want.Text, want.Is)
	}
	listsKept(t, what, majorGiven{w, index}, majorOf)
}

func wantAgreed(t *testing.T, what string, w impl.RecWorld, want bool) {
	t.Helper()
	wantWorld(t, what, w)
	if got := plainAgree(w); got != want {
		t.Errorf("%s: the plain one tells %v", what, got)
	}
	if got := impl.RecAgree(w); got != want {
		t.Errorf("%s: they agree: %v", what, got)
	}
	listsKept(t, what, w, impl.RecAgree)
}

// safely is a world of recorders with these safe slots, one list each; the disks are empty.
func safely(lists ...[]impl.RecSlot) impl.RecWorld {
	w := impl.RecNewWorld(len(lists))
	for i, list := range lists {
		w.Recorders[i].Safe = disk(1000000, 0, list...)
	}
	return w
}

// knowing is a world of recorders that know these texts, and nothing of it is safe.
func knowing(lists ...[]string) impl.RecWorld {
	w := impl.RecNewWorld(len(lists))
	for i, list := range lists {
		w.Recorders[i].Disk = disk(9, len(list))
		for _, text := range list {
			w.Recorders[i].Disk.Slots = append(w.Recorders[i].Disk.Slots, slot(i+1, text))
		}
	}
	return w
}

func having(w impl.RecWorld, fixed ...impl.RecFix) impl.RecWorld {
	w = plainOf(w)
	w.Fixed = fixed
	return w
}

func fix(index int, text string) impl.RecFix {
	return impl.RecFix{Index: index, Text: text}
}

func text(list ...string) []string {
	return list
}

// somewhere is a list of slots with one of them at a place, and empty ones ahead.
func somewhere(place int, s impl.RecSlot) []impl.RecSlot {
	return append(make([]impl.RecSlot, place-1), s)
}

func TestMajor(t *testing.T) {
	a5, a6, b5, none := slots(slot(5, "a")), slots(slot(6, "a")), slots(slot(5, "b")), slots(slot(0, ""))
	is, not := majorTold{"a", true}, majorTold{}
	for _, c := range []struct {
		what string
		w    impl.RecWorld
		want majorTold
	}{
		{"the only one", safely(a5), is},
		{"the only one, nothing", safely(nil), not},
		{"the only one, empty", safely(none), not},
		{"one of two", safely(a5, nil), not},
		{"the other of two", safely(nil, a5), not},
		{"two of two", safely(a5, a5), is},
		{"one of three", safely(nil, a5, nil), not},
		{"the first two of three", safely(a5, a5, nil), is},
		{"the last two of three", safely(nil, a5, a5), is},
		{"two of three, the third otherwise", safely(b5, a5, a5), is},
		{"two of three, another one between", safely(a5, b5, a5), is},
		{"three of three", safely(a5, a5, a5), is},
		{"one of four", safely(a5, nil, nil, nil), not},
		{"two of four", safely(a5, a5, nil, nil), not},
		{"two of four, and two", safely(a5, b5, a5, b5), not},
		{"three of four", safely(a5, a5, nil, a5), is},
		{"two of five", safely(a5, nil, nil, nil, a5), not},
		{"two of five, and two, and one", safely(b5, a5, none, b5, a5), not},
		{"three of five", safely(nil, a5, a5, nil, a5), is},
		{"three of five, the others otherwise", safely(b5, b5, a5, a5, a5), is},
		{"four of five", safely(a5, a5, a5, nil, a5), is},
		{"five of five", safely(a5, a5, a5, a5, a5), is},
		{"one text, two ballots", safely(a5, a6), not},
		{"one text, two ballots of three", safely(a5, a6, a5), is},
		{"one text, three of five with two ballots", safely(a5, a6, a5, nil, nil), not},
		{"one text, four of five with two ballots", safely(a5, a6, a6, a5, nil), not},
		{"one text, five of five with two ballots", safely(a5, a6, a6, a5, a6), is},
		{"one ballot, two texts", safely(a5, b5), not},
		{"one ballot, two texts of three", safely(a5, b5, nil), not},
		{"ballots of 0", safely(none, none, none), not},
		{"ballots of 0, but one", safely(none, a5, none), not},
		{"ballots of 0, but two", safely(none, a5, a5), is},
		{"an empty text", safely(slots(slot(1, "")), slots(slot(1, "")), nil), majorTold{"", true}},
		{"an empty text and empty slots", safely(slots(slot(1, "")), none, none), not},
		{"the greatest ballot and text", safely(slots(slot(1000000, long(100))), slots(slot(1000000, long(100)))), majorTold{long(100), true}},
		{"nothing", impl.RecNewWorld(5), not},
	} {
		wantMajor(t, c.what, c.w, 1, c.want)
		wantMajor(t, c.what+", all down", downAll(c.w), 1, c.want)
		onDisk := plainOf(c.w)
		for i, r := range c.w.Recorders {
			onDisk.Recorders[i].Disk, onDisk.Recorders[i].Safe = r.Safe, impl.RecDisk{}
		}
		wantMajor(t, c.what+", on disks that are not safe", onDisk, 1, not)
	}
}

// Each place by itself: what most have there, and nothing at all places around it.
func TestMajorPlaces(t *testing.T) {
	for _, place := range []int{1, 2, 30, 59, 60} {
		list := somewhere(place, slot(3, "x"))
		w := safely(list, list, nil)
		for _, index := range []int{math.MinInt, -60, -1, 0, 1, 2, 29, 30, 31, 58, 59, 60, 61, 62, math.MaxInt} {
			want := majorTold{}
			if index == place {
				want = majorTold{"x", true}
			}
			wantMajor(t, fmt.Sprint("at ", place), w, index, want)
		}
	}
	w := safely(manySlots(60, 4), manySlots(60, 4), manySlots(30, 4))
	for index := -1; index <= 61; index++ {
		want := majorTold{}
		if index >= 1 && index <= 60 {
			want = majorTold{manySlots(60, 4)[index-1].Text, true}
		}
		wantMajor(t, "all places", w, index, want)
	}
	shifted := safely(slots(slot(1, "x"), slot(1, "y")), slots(slot(1, "y"), slot(1, "x")))
	for index := -1; index <= 3; index++ {
		wantMajor(t, "at other places", shifted, index, majorTold{})
	}
}

func TestAgree(t *testing.T) {
	most := safely(somewhere(2, slot(3, "x")), somewhere(2, slot(3, "x")), nil)
	half := safely(somewhere(2, slot(3, "x")), somewhere(2, slot(3, "x")), nil, nil)
	both := knowing(text("a", "b"), text("a"), text())
	both.Recorders[1].Safe, both.Recorders[2].Safe = disk(9, 0, slot(1, "a"), slot(0, ""), slot(2, "c")), disk(9, 0, slot(7, "a"), slot(0, ""), slot(2, "c"))
	for _, c := range []struct {
		what string
		w    impl.RecWorld
		want bool
	}{
		{"new", impl.RecNewWorld(3), true},
		{"one, new", impl.RecNewWorld(1), true},
		{"more is fixed than anybody knows", having(impl.RecNewWorld(3), fix(1, "a"), fix(60, "b")), true},
		{"known, not fixed", knowing(text("a"), text(), text()), false},
		{"known by the last, not fixed", knowing(text(), text(), text("a")), false},
		{"known and fixed", having(knowing(text("a"), text()), fix(1, "a")), true},
		{"known otherwise", having(knowing(text("a"), text()), fix(1, "b")), false},
		{"known by two", having(knowing(text("a", "b"), text("a")), fix(1, "a"), fix(2, "b")), true},
		{"known by two, otherwise by one", having(knowing(text("a", "b"), text("b")), fix(1, "a"), fix(2, "b")), false},
		{"known by two, otherwise at the second place", having(knowing(text("a", "b"), text("a", "c")), fix(1, "a"), fix(2, "b")), false},
		{"the second not fixed", having(knowing(text("a", "b")), fix(1, "a")), false},
		{"the second fixed alone", having(knowing(text("a", "b")), fix(2, "b")), false},
		{"fixed at other places", having(knowing(text("a")), fix(2, "a")), false},
		{"an empty text, not fixed", knowing(text("")), false},
		{"an empty text, fixed", having(knowing(text("")), fix(1, "")), true},
		{"an empty text, fixed otherwise", having(knowing(text("")), fix(1, "a")), false},
		{"all places", having(knowing(text("f0", "f1", "f2")), manyFixed(60)...), true},
		{"most have it, not fixed", most, false},
		{"most have it, fixed", having(most, fix(2, "x")), true},
		{"most have it, fixed otherwise", having(most, fix(2, "y")), false},
		{"most have it, fixed elsewhere", having(most, fix(1, "x"), fix(3, "x")), false},
		{"half have it", half, true},
		{"half have it, fixed otherwise", having(half, fix(2, "y")), true},
		{"most have it at the last place", safely(manySlots(60, 1), manySlots(60, 1)), false},
		{"most have it at the last place, which is not fixed", having(safely(somewhere(60, slot(1, "z")), somewhere(60, slot(1, "z"))), manyFixed(59)...), false},
		{"most have it at the last place, fixed", having(safely(somewhere(60, slot(1, "z")), somewhere(60, slot(1, "z"))), fix(60, "z")), true},
		{"most have an empty text, not fixed", safely(slots(slot(1, "")), slots(slot(1, ""))), false},
		{"most have an empty text, fixed", having(safely(slots(slot(1, "")), slots(slot(1, ""))), fix(1, "")), true},
		{"known and safe, nothing fixed", both, false},
		{"known and safe, what is known fixed", having(both, fix(1, "a"), fix(2, "b")), false},
		{"known and safe, what is safe fixed", having(both, fix(1, "a"), fix(3, "c")), false},
		{"known and safe, all fixed", having(both, fix(1, "a"), fix(2, "b"), fix(3, "c")), true},
	} {
		wantAgreed(t, c.what, c.w, c.want)
		wantAgreed(t, c.what+", all down", downAll(c.w), c.want)
	}
}

// What is on a disk behind Known is nobody's knowledge.
func TestAgreeLooksAtWhatIsKnown(t *testing.T) {
	w := knowing(text("a", "b", "c"), text("a"))
	w.Recorders[0].Disk.Known = 1
	wantAgreed(t, "behind Known", having(w, fix(1, "a"), fix(3, "other")), true)
	w.Recorders[0].Disk.Known = 2
	wantAgreed(t, "at Known", having(w, fix(1, "a"), fix(3, "other")), false)
}

// A noting is a world with what is fixed in it, and what is fixed when it is noted.
type noting struct {
	what string
	w    impl.RecWorld
	want []impl.RecFix
}

func notings() []noting {
	a5, a6, b5 := slots(slot(5, "a")), slots(slot(6, "a")), slots(slot(5, "b"))
	most := func(w impl.RecWorld, lists ...[]impl.RecSlot) impl.RecWorld {
		for i, list := range lists {
			w.Recorders[i].Safe = disk(1000000, 0, list...)
		}
		return w
	}
	return []noting{
		{"nothing", impl.RecNewWorld(3), nil},
		{"most have it", safely(a5, nil, a5), []impl.RecFix{fix(1, "a")}},
		{"half have it", safely(a5, nil, a5, nil), nil},
		{"two ballots", safely(a5, a6, nil), nil},
		{"two ballots, and most have one of them", safely(a5, a6, a6), []impl.RecFix{fix(1, "a")}},
		{"two texts", safely(a5, b5, nil), nil},
		{"most have an empty slot", safely(slots(slot(0, "")), slots(slot(0, ""))), nil},
		{"most have an empty text", safely(slots(slot(2, "")), slots(slot(2, ""))), []impl.RecFix{fix(1, "")}},
		{"at the last place", safely(somewhere(60, slot(1, "z")), somewhere(60, slot(1, "z"))), []impl.RecFix{fix(60, "z")}},
		{"at some places", safely(slots(slot(1, "x"), slot(0, ""), slot(3, "y")), slots(slot(1, "x"), slot(2, "n"), slot(3, "y"))), []impl.RecFix{fix(1, "x"), fix(3, "y")}},
		{"known by one", knowing(text(), text("k"), text()), []impl.RecFix{fix(1, "k")}},
		{"an empty text is known", knowing(text(""), text()), []impl.RecFix{fix(1, "")}},
		{"known otherwise: the first", knowing(text(), text("k"), text("l")), []impl.RecFix{fix(1, "k")}},
		{"known otherwise, further by the last", knowing(text(), text("k"), text("l", "m")), []impl.RecFix{fix(1, "k"), fix(2, "m")}},
		{"known otherwise, further by the first", knowing(text("k", "n"), text("l", "m", "o")), []impl.RecFix{fix(1, "k"), fix(2, "n"), fix(3, "o")}},
		{"most are ahead of who knows", most(knowing(text("k"), text(), text()), a5, a5), []impl.RecFix{fix(1, "a")}},
		{"half are not", most(knowing(text("k"), text()), a5), []impl.RecFix{fix(1, "k")}},
		{"most with an empty text are ahead of who knows", most(knowing(text("k"), text()), slots(slot(1, "")), slots(slot(1, ""))), []impl.RecFix{fix(1, "")}},
		{"each for its place", most(knowing(text("k", "l", "m"), text(), text()), nil, somewhere(2, slot(5, "x")), somewhere(2, slot(5, "x"))), []impl.RecFix{fix(1, "k"), fix(2, "x"), fix(3, "m")}},
		{"fixed already", having(safely(a5, a5), fix(1, "f")), []impl.RecFix{fix(1, "f")}},
		{"fixed already, with an empty text", having(safely(a5, a5), fix(1, "")), []impl.RecFix{fix(1, "")}},
		{"fixed already, and known otherwise", having(knowing(text("k"), text("l")), fix(1, "f")), []impl.RecFix{fix(1, "f")}},
		{"fixed, and nobody tells it", having(impl.RecNewWorld(2), fix(7, "f")), []impl.RecFix{fix(7, "f")}},
		{"between what is fixed", having(knowing(text("k", "l", "m", "n")), fix(1, "e"), fix(3, "f"), fix(9, "g")),
			[]impl.RecFix{fix(1, "e"), fix(2, "l"), fix(3, "f"), fix(4, "n"), fix(9, "g")}},
		{"ahead of what is fixed", having(safely(a5, a5), fix(2, "f")), []impl.RecFix{fix(1, "a"), fix(2, "f")}},
		{"behind what is fixed", having(safely(somewhere(9, slot(1, "x")), somewhere(9, slot(1, "x"))), fix(8, "f")), []impl.RecFix{fix(8, "f"), fix(9, "x")}},
		{"all places", having(safely(manySlots(60, 1), manySlots(60, 1)), manyFixed(60)...), manyFixed(60)},
	}
}

// What is noted, behind which events. All are down or up and take nothing in, so that their disks stay as they are.
func TestNotes(t *testing.T) {
	for _, c := range notings() {
		down := downAll(c.w)
		down.Flight = []impl.RecMessage{{Kind: impl.RecWished, From: 1, To: 1, Text: "w"}}
		want := having(down, c.want...)
		wantDo(t, c.what+", a tick", down, event(impl.RecEvTick, 0), want)
		want.Flight = nil
		wantDo(t, c.what+", a message to one that is down", down, event(impl.RecEvBring, 0), want)
		if got := impl.RecCalm(down, 1); !same(got, want) {
			t.Errorf("%s, a round: %+v", c.what, got.Fixed)
		}
		up := plainOf(c.w)
		up.Flight = []impl.RecMessage{{Kind: impl.RecWished, From: 1, To: 1}, {Kind: impl.RecRefuse, From: 1, To: 1}}
		want = having(up, c.want...)
		want.Flight = up.Flight[:1]
		wantDo(t, c.what+", a message", up, event(impl.RecEvBring, 1), want)
		wantNotNoted(t, c.what, up)
		wantNotNoted(t, c.what+", down", down)
	}
}

// wantNotNoted: all other events leave Fixed as it is.
func wantNotNoted(t *testing.T, what string, w impl.RecWorld) {
	t.Helper()
	for kind := 0; kind <= 8; kind++ {
		for a := -1; a <= len(w.Recorders); a++ {
			happens := kind == impl.RecEvBring && a >= 0 && a < len(w.Flight)
			if kind == impl.RecEvTick || happens {
				continue
			}
			if got := impl.RecDo(w, impl.RecEvent{Kind: kind, A: a, Text: "t"}); !same(got.Fixed, w.Fixed) {
				t.Errorf("%s, kind %d of %d: fixed is %+v", what, kind, a, got.Fixed)
			}
		}
	}
}

// A tick makes disks safe ahead of the note, and a message makes a place known ahead of it.
func TestNotedBehindTheEvent(t *testing.T) {
	w := impl.RecNewWorld(3)
	w.Recorders[0].Disk, w.Recorders[2].Disk = disk(5, 0, slot(5, "a")), disk(5, 0, slot(5, "a"))
	if got := impl.RecDo(w, event(impl.RecEvTick, 0)); !same(got.Fixed, []impl.RecFix{fix(1, "a")}) {
		t.Errorf("a tick: %+v", got.Fixed)
	}
	w.Flight = []impl.RecMessage{{Kind: impl.RecChosen, From: 1, To: 3, Ballot: 5, Index: 1, Text: "b"}}
	if got := impl.RecDo(w, event(impl.RecEvBring, 0)); !same(got.Fixed, []impl.RecFix{fix(1, "b")}) {
		t.Errorf("a message: %+v", got.Fixed)
	}
	w.Recorders[0].Safe, w.Recorders[2].Safe = w.Recorders[0].Disk, w.Recorders[2].Disk
	if got := impl.RecDo(w, event(impl.RecEvBring, 0)); !same(got.Fixed, []impl.RecFix{fix(1, "a")}) || impl.RecAgree(got) {
		t.Errorf("a message that tells another text: %+v", got.Fixed)
	}
	w = knowing(text("k"), text("k"))
	w = impl.RecDo(impl.RecDo(w, event(impl.RecEvTick, 0)), event(impl.RecEvFall, 0))
	if !same(w.Fixed, []impl.RecFix{fix(1, "k")}) {
		t.Errorf("a fall: %+v", w.Fixed)
	}
}

// Of one round, each message is noted by itself: the first that makes a place known tells it.
func TestNotedMessageByMessage(t *testing.T) {
	for _, order := range [][]int{{1, 2, 3}, {3, 2, 1}, {2, 1, 3}} {
		w := impl.RecNewWorld(3)
		for i := range w.Recorders {
			w.Recorders[i].Disk.Promise = 5
		}
		for _, to := range order {
			w.Flight = append(w.Flight, impl.RecMessage{Kind: impl.RecChosen, From: 1, To: to, Ballot: 5, Index: 1, Text: fmt.Sprint("from ", to)})
		}
		want := []impl.RecFix{fix(1, fmt.Sprint("from ", order[0]))}
		if got := impl.RecCalm(w, 1); !same(got.Fixed, want) || len(got.Flight) != 0 || !same(got, plainCalm(w, 1)) {
			t.Errorf("%v: %+v", order, got.Fixed)
		}
	}
}

func TestNotingsAgree(t *testing.T) {
	agreed := 0
	for _, c := range notings() {
		w := impl.RecDo(downAll(c.w), event(impl.RecEvTick, 0))
		if got := impl.RecAgree(w); got != plainAgree(w) {
			t.Errorf("%s: they agree: %v", c.what, got)
		}
		agreed += boolInt(impl.RecAgree(w))
		if !slices.IsSortedFunc(w.Fixed, func(f, g impl.RecFix) int { return f.Index - g.Index }) {
			t.Errorf("%s: %+v", c.what, w.Fixed)
		}
	}
	if agreed < 10 || agreed == len(notings()) {
		t.Errorf("%d agreed", agreed)
	}
}
