package tests

import (
	"testing"

	"loop.example/wharflog/impl"
)

// someRecorders are valid ones of each role, up and down, some with a Safe disk that is behind or ahead of the other one.
func someRecorders() map[string]impl.Recorder {
	ahead := idle()
	ahead.Safe, ahead.Disk = disk(9, 3, manySlots(3, 9)...), disk(2, 0)
	full := leading()
	full.Safe, full.Disk = disk(1000000, 60, manySlots(60, 5)...), disk(1000000, 0, manySlots(60, 5)...)
	full.Held, full.Wishes, full.Heard = manyMessages(400, 2, 3), manyWishes(20), 1000000
	none := trying()
	none.Safe, none.Disk.Slots, none.Disk.Known = disk(0, 0), nil, 0
	alike := fallen()
	alike.Disk = plainOf(alike.Safe)
	return map[string]impl.Recorder{
		"quiet": idle(), "leads": leading(), "tries": trying(), "down": fallen(), "down, its disks alike": alike,
		"new": impl.RecNew(3, 5), "new and down": {Number: 3, Of: 5}, "the only one": impl.RecNew(1, 1),
		"Safe is ahead": ahead, "full": full, "nothing is safe": none,
		"down, full": {Number: 5, Of: 5, Safe: full.Safe, Disk: full.Disk}, "down, nothing is safe": {Number: 2, Of: 2, Disk: idle().Disk},
	}
}

func TestFalls(t *testing.T) {
	for what, r := range someRecorders() {
		want := impl.Recorder{Number: r.Number, Of: r.Of, Safe: r.Safe, Disk: r.Safe}
		got := impl.RecFall(r)
		if !same(got, want) || !same(plainRecFall(r), want) {
			t.Errorf("%s: %+v and not %+v", what, got, want)
		}
		wantSentences(t, what, got)
		if again := impl.RecFall(got); !same(again, want) {
			t.Errorf("%s, twice: %+v", what, again)
		}
		listsKept(t, what, r, impl.RecFall)
	}
}

func TestRises(t *testing.T) {
	for what, r := range someRecorders() {
		want := plainOf(r)
		want.Up = true
		got := impl.RecRise(r)
		if !same(got, want) || !same(plainRecRise(r), want) {
			t.Errorf("%s: %+v and not %+v", what, got, want)
		}
		wantSentences(t, what, got)
		if again := impl.RecRise(got); !same(again, want) {
			t.Errorf("%s, twice: %+v", what, again)
		}
		listsKept(t, what, r, impl.RecRise)
	}
}

// One that fell and rose goes on from what was safe, and from nothing else.
func TestFallenAndRisen(t *testing.T) {
	for what, r := range someRecorders() {
		want := impl.RecNew(r.Number, r.Of)
		want.Safe, want.Disk = r.Safe, r.Safe
		if got := impl.RecRise(impl.RecFall(r)); !same(got, want) {
			t.Errorf("%s: %+v and not %+v", what, got, want)
		}
	}
}
