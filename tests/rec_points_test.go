package tests

import (
	"reflect"
	"testing"

	"loop.example/wharflog/impl"
)

// This file says once more, sentence by sentence and with plain loops, what ok slots, disks and messages and valid recorders are.
// Its numbers are the document's own and not the program's constants.

// The sentences of "A recorder is valid if".
const (
	pNumber = "Of and Number"
	pDisks  = "Safe and Disk"
	pHeld   = "Held"
	pWishes = "Wishes"
	pHeard  = "Heard"
	pWho    = "Yes and From"
	pBest   = "Best"
	pAcks   = "Acks by Index"
	pBoth   = "not both"
	pBallot = "Ballot"
	pTries  = "while Trying"
	pLeads  = "while it Leads"
	pQuiet  = "quiet"
	pDown   = "not Up"
)

// brokenSentences tells which sentences a recorder breaks; each is looked at whatever the others say.
func brokenSentences(r impl.Recorder) []string {
	one, none := r.Lead != r.Trying, !r.Lead && !r.Trying
	var broken []string
	for _, s := range []struct {
		name string
		held bool
	}{
		{pNumber, r.Of >= 1 && r.Of <= 5 && r.Number >= 1 && r.Number <= r.Of},
		{pDisks, soundDisk(r.Safe) && soundDisk(r.Disk)},
		{pHeld, soundHeld(r)},
		{pWishes, soundWishes(r.Wishes)},
		{pHeard, r.Heard >= 0 && r.Heard <= 1000000},
		{pWho, soundNumbers(r.Yes, r.Of) && soundFroms(r.Acks, r.Of)},
		{pBest, soundSlots(r.Best)},
		{pAcks, soundIndexes(r.Acks)},
		{pBoth, !(r.Lead && r.Trying)},
		{pBallot, !one || r.Ballot >= 1 && r.Ballot <= r.Disk.Promise},
		{pTries, !r.Trying || len(r.Acks) == 0},
		{pLeads, !r.Lead || len(r.Yes)+len(r.Best) == 0},
		{pQuiet, !none || r.Ballot == 0 && len(r.Yes)+len(r.Best)+len(r.Acks) == 0},
		{pDown, r.Up || none && len(r.Held)+len(r.Wishes) == 0 && r.Heard == 0},
	} {
		if !s.held {
			broken = append(broken, s.name)
		}
	}
	return broken
}

func soundSlots(slots []impl.RecSlot) bool {
	for _, s := range slots {
		if s.Ballot < 0 || s.Ballot > 1000000 || len(s.Text) > 100 || s.Ballot == 0 && s.Text != "" {
			return false
		}
	}
	return len(slots) <= 60
}

func soundDisk(d impl.RecDisk) bool {
	if d.Promise < 0 || d.Promise > 1000000 || !soundSlots(d.Slots) || d.Known < 0 || d.Known > len(d.Slots) {
		return false
	}
	for i, s := range d.Slots {
		if s.Ballot > d.Promise || i < d.Known && s.Ballot == 0 {
			return false
		}
	}
	return true
}

func soundMessage(m impl.RecMessage, of int) bool {
	return m.Kind >= 1 && m.Kind <= 9 && m.From >= 1 && m.From <= of && m.To >= 1 && m.To <= of &&
		m.Ballot >= 0 && m.Ballot <= 1000000 && m.Index >= 0 && m.Index <= 60 && m.Known >= 0 && m.Known <= 60 &&
		len(m.Text) <= 100 && soundSlots(m.Slots)
}

func soundHeld(r impl.Recorder) bool {
	for _, m := range r.Held {
		if !soundMessage(m, r.Of) || m.From != r.Number {
			return false
		}
	}
	return len(r.Held) <= 400
}

func soundWishes(wishes []string) bool {
	there := map[string]bool{}
	for _, w := range wishes {
		if there[w] || len(w) < 1 || len(w) > 100 {
			return false
		}
		there[w] = true
	}
	return len(wishes) <= 20
}

func soundNumbers(numbers []int, of int) bool {
	for i, n := range numbers {
		if n < 1 || n > of || i > 0 && numbers[i-1] >= n {
			return false
		}
	}
	return true
}

func soundFroms(acks []impl.RecAck, of int) bool {
	for _, a := range acks {
		if !soundNumbers(a.From, of) {
			return false
		}
	}
	return true
}

func soundIndexes(acks []impl.RecAck) bool {
	for i, a := range acks {
		if a.Index < 1 || a.Index > 60 || i > 0 && acks[i-1].Index >= a.Index {
			return false
		}
	}
	return true
}

// wantSentences looks whether a recorder breaks just these sentences, and whether RecValid says so.
func wantSentences(t *testing.T, what string, r impl.Recorder, sentences ...string) {
	t.Helper()
	if broken := brokenSentences(r); !reflect.DeepEqual(broken, sentences) {
		t.Errorf("%s: the case breaks %q, and not %q", what, broken, sentences)
	}
	if got := impl.RecValid(r); got != (len(sentences) == 0) {
		t.Errorf("%s: valid is %v; it breaks %q", what, got, sentences)
	}
}
