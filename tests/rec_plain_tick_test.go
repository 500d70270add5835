package tests

import "loop.example/wharflog/impl"

// This file says once more what ticks, falls and rises are, sentence by sentence, with plain loops over ballots, places and numbers.
// Its numbers are the document's own and not the program's constants.

// plainNextBallot goes through the ballots one by one.
func plainNextBallot(above, number, of int) int {
	if above < 0 || above > 1000000 || of < 1 || of > 5 || number < 1 || number > of {
		return 0
	}
	left := number
	if number == of {
		left = 0
	}
	for ballot := above + 1; ballot <= 1000000; ballot++ {
		if ballot%of == left {
			return ballot
		}
	}
	return 0
}

func plainRecTick(r impl.Recorder) (impl.Recorder, []impl.RecMessage) {
	if len(brokenSentences(r)) > 0 {
		return impl.Recorder{}, nil
	}
	r = plainOf(r)
	if !r.Up {
		return r, nil
	}
	sent := r.Held
	r.Held = nil
	r.Safe = plainOf(r.Disk)
	r.Wishes = plainUnknown(r.Wishes, r.Disk)
	if r.Heard < 1000000 {
		r.Heard++
	}
	if r.Trying && r.Safe.Promise == r.Ballot {
		r = plainPromise(r, r.Number, r.Disk.Slots)
	}
	if r.Lead {
		r = plainBringIn(plainTakeOwn(r))
		return r, append(sent, plainTold(r)...)
	}
	if r.Heard > 4+3*r.Number {
		r = plainTry(r)
	}
	return r, sent
}

// plainUnknown are the wishes that a disk does not know to be in the book.
func plainUnknown(wishes []string, d impl.RecDisk) []string {
	knows := map[string]bool{}
	for i, s := range d.Slots {
		if i+1 <= d.Known {
			knows[s.Text] = true
		}
	}
	var list []string
	for _, w := range wishes {
		if !knows[w] {
			list = append(list, w)
		}
	}
	return list
}

func plainTakeOwn(r impl.Recorder) impl.Recorder {
	for place := 1; place <= 60; place++ {
		if place <= len(r.Safe.Slots) && r.Safe.Slots[place-1].Ballot == r.Ballot {
			r = plainTook(r, r.Number, place)
		}
	}
	return r
}

func plainBringIn(r impl.Recorder) impl.Recorder {
	there := map[string]bool{}
	for _, s := range r.Disk.Slots {
		if s.Ballot > 0 {
			there[s.Text] = true
		}
	}
	for _, w := range r.Wishes {
		if !there[w] && len(r.Disk.Slots)+1 <= 60 {
			r.Disk.Slots = plainPutSlot(r.Disk.Slots, len(r.Disk.Slots)+1, slot(r.Ballot, w))
		}
	}
	return r
}

// plainTold is what a leader tells the others.
func plainTold(r impl.Recorder) []impl.RecMessage {
	var list []impl.RecMessage
	for place := r.Disk.Known; place <= len(r.Disk.Slots); place++ {
		for to := 1; to <= r.Of; to++ {
			switch {
			case to == r.Number:
			case place == r.Disk.Known:
				list = append(list, impl.RecMessage{Kind: 5, From: r.Number, To: to, Ballot: r.Ballot, Known: r.Disk.Known})
			default:
				list = append(list, impl.RecMessage{Kind: 3, From: r.Number, To: to, Ballot: r.Ballot, Index: place, Text: r.Disk.Slots[place-1].Text})
			}
		}
	}
	return list
}

func plainTry(r impl.Recorder) impl.Recorder {
	r = plainQuiet(r)
	r.Heard = 0
	if ballot := plainNextBallot(r.Disk.Promise, r.Number, r.Of); ballot != 0 {
		r.Disk.Promise, r.Ballot, r.Trying = ballot, ballot, true
		for to := 1; to <= r.Of; to++ {
			if to != r.Number {
				r = plainHold(r, impl.RecMessage{Kind: 1, To: to, Ballot: ballot})
			}
		}
	}
	return r
}

func plainRecFall(r impl.Recorder) impl.Recorder {
	if len(brokenSentences(r)) > 0 {
		return impl.Recorder{}
	}
	return impl.Recorder{Number: r.Number, Of: r.Of, Safe: plainOf(r.Safe), Disk: plainOf(r.Safe)}
}

func plainRecRise(r impl.Recorder) impl.Recorder {
	if len(brokenSentences(r)) > 0 {
		return impl.Recorder{}
	}
	r = plainOf(r)
	r.Up = true
	return r
}
