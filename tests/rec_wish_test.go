package tests

import (
	"strings"
	"testing"

	"loop.example/wharflog/impl"
)

type wishGiven struct {
	R    impl.Recorder
	Text string
}

func wishOf(g wishGiven) impl.Recorder {
	return impl.RecWish(g.R, g.Text)
}

// Each wish comes once by RecWish and once by a message, whoever it is from.
func TestWishes(t *testing.T) {
	wishes := func(list ...string) change { return func(r *impl.Recorder) { r.Wishes = list } }
	both := func(first, second change) change { return func(r *impl.Recorder) { first(r); second(r) } }
	known := hasDisk(5, 2, slot(3, "a"), slot(5, "b"), slot(5, "c"))
	for _, c := range []struct {
		what  string
		first change
		text  string
		taken bool
	}{
		{"ordinary", wishes("w", "v"), "z", true},
		{"ahead by order", wishes("w", "v"), "a0", true},
		{"none yet", wishes(), "z", true},
		{"no bytes", wishes("w", "v"), "", false},
		{"no bytes, none yet", wishes(), "", false},
		{"no bytes, a slot without text", both(wishes(), hasDisk(5, 1, slot(1, ""))), "", false},
		{"one byte", wishes("w", "v"), "\x00", true},
		{"any bytes", wishes("w", "v"), "\xff\n\"", true},
		{"99 bytes", wishes("w", "v"), long(99), true},
		{"100 bytes", wishes("w", "v"), long(100), true},
		{"101 bytes", wishes("w", "v"), long(101), false},
		{"100 bytes, runes of two", wishes("w", "v"), strings.Repeat("ü", 50), true},
		{"102 bytes, runes of two", wishes("w", "v"), strings.Repeat("ü", 51), false},
		{"the first of them", wishes("w", "v"), "w", false},
		{"the last of them", wishes("w", "v"), "v", false},
		{"the beginning of one", wishes("wv", "v"), "w", true},
		{"longer than one", wishes("w", "v"), "wv", true},
		{"19 of them", wishes(manyWishes(19)...), "z", true},
		{"20 of them", wishes(manyWishes(20)...), "z", false},
		{"20 of them, one again", wishes(manyWishes(20)...), "w3", false},
		{"the first known slot's", both(wishes("w"), known), "a", false},
		{"the last known slot's", both(wishes("w"), known), "b", false},
		{"the first slot's above Known", both(wishes("w"), known), "c", true},
		{"nothing known", both(wishes("w"), both(known, hasKnown(0))), "a", true},
		{"all 60 known", both(wishes("w"), hasDisk(5, 60, manySlots(60, 4)...)), "s59", false},
		{"all 60 known but the last", both(wishes("w"), hasDisk(5, 59, manySlots(60, 4)...)), "s59", true},
		{"Safe knows it, and the Disk does not", both(wishes("w"), func(r *impl.Recorder) { r.Safe, r.Disk = disk(5, 1, slot(1, "z")), disk(5, 0) }), "z", true},
	} {
		for _, from := range []func() impl.Recorder{idle, leading, trying} {
			r := from()
			c.first(&r)
			want := plainOf(r)
			if c.taken {
				want.Wishes = append(want.Wishes, c.text)
			}
			wantWished(t, c.what, r, c.text, want)
			if len(c.text) > 100 {
				continue
			}
			for number := 1; number <= 3; number++ {
				m := impl.RecMessage{Kind: 8, From: number, To: 2, Text: c.text}
				wantRecTaking(t, c.what+", by a message", r, m, want)
				wantFullHeld(t, c.what+", by a message", r, m, want)
				wantNotTaken(t, c.what+", by a message", r, m)
				m = noisy(m)
				m.Ballot, m.Text = 9, c.text
				wantRecTaking(t, c.what+", by a message with more", r, m, want)
			}
		}
	}
}

func wantWished(t *testing.T, what string, r impl.Recorder, text string, want impl.Recorder) {
	t.Helper()
	if broken := brokenSentences(r); len(broken) > 0 {
		t.Errorf("%s: the case breaks %q", what, broken)
	}
	if plain := plainRecWish(r, text); !same(plain, want) {
		t.Errorf("%s: the plain one tells\n%+v and not\n%+v", what, plain, want)
	}
	got := impl.RecWish(r, text)
	if !same(got, want) {
		t.Errorf("%s:\n%+v and not\n%+v", what, got, want)
	}
	wantHeldAnew(t, what, r, got)
	listsKept(t, what, wishGiven{r, text}, wishOf)
}

func TestWishOfOneThatIsNotUp(t *testing.T) {
	for _, text := range []string{"", "z", "a", long(100), long(101)} {
		wantWished(t, "not up", fallen(), text, fallen())
		wantWished(t, "not up, nothing on its disks", impl.Recorder{Number: 1, Of: 1}, text, impl.Recorder{Number: 1, Of: 1})
	}
}

// A message whose text is too long is not ok, and changes nothing.
func TestWishedTooLong(t *testing.T) {
	m := impl.RecMessage{Kind: 8, From: 1, To: 2, Text: long(101)}
	if got := impl.RecTake(idle(), m); !same(got, idle()) {
		t.Errorf("%+v", got)
	}
}

// The wishes are in the order in which they came, and each is there once.
func TestWishesInOrder(t *testing.T) {
	r := impl.RecNew(1, 3)
	for range 2 {
		for i := 24; i >= 0; i-- {
			r = impl.RecWish(r, manyWishes(25)[i])
		}
	}
	want := manyWishes(25)[5:]
	for i, w := range r.Wishes {
		if len(r.Wishes) != 20 || w != want[19-i] {
			t.Fatalf("%q", r.Wishes)
		}
	}
}

func TestBookOfARecorder(t *testing.T) {
	for _, c := range []struct {
		what string
		r    impl.Recorder
		want []string
	}{
		{"quiet", idle(), []string{"a", "b"}},
		{"leads", leading(), []string{"a", "b"}},
		{"tries", trying(), []string{"a", "b"}},
		{"not up", fallen(), []string{"a", "b"}},
		{"new", impl.RecNew(1, 1), nil},
		{"nothing", impl.Recorder{}, nil},
		{"a text that is empty", impl.Recorder{Number: 1, Of: 1, Disk: disk(1, 2, slot(1, ""), slot(1, ""), slot(1, "c"))}, []string{"", ""}},
		{"nothing known", impl.Recorder{Number: 1, Of: 1, Disk: disk(1, 0, slot(1, "c")), Safe: disk(1, 1, slot(1, "c"))}, nil},
		{"one text twice", impl.Recorder{Number: 1, Of: 1, Disk: disk(1, 2, slot(1, "c"), slot(1, "c"))}, []string{"c", "c"}},
		{"not valid", impl.Recorder{Number: 2, Of: 1, Disk: disk(1, 1, slot(1, "c"))}, nil},
		{"Known behind Slots", impl.Recorder{Number: 1, Of: 1, Disk: disk(1, 2, slot(1, "c"))}, nil},
		{"Known below 0", impl.Recorder{Number: 1, Of: 1, Disk: disk(1, -1, slot(1, "c"))}, nil},
	} {
		if got := impl.RecBook(c.r); !same(got, c.want) || !same(plainRecBook(c.r), c.want) {
			t.Errorf("%s: %q and not %q", c.what, got, c.want)
		}
		listsKept(t, c.what, c.r, impl.RecBook)
	}
	all := impl.Recorder{Number: 1, Of: 1, Disk: disk(1, 60, manySlots(60, 1)...)}
	if got := impl.RecBook(all); len(got) != 60 || got[59] != "s59" {
		t.Errorf("60 known: %q", got)
	}
}
