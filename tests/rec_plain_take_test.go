package tests

import "loop.example/wharflog/impl"

// This file says once more what recorders do with messages and wishes, row by row, with plain loops over places and numbers.
// Its numbers are the document's own and not the program's constants.

func plainRecTake(r impl.Recorder, m impl.RecMessage) impl.Recorder {
	if len(brokenSentences(r)) > 0 {
		return impl.Recorder{}
	}
	r = plainOf(r)
	if !r.Up || m.To != r.Number || !soundMessage(m, r.Of) {
		return r
	}
	below := m.Ballot < r.Disk.Promise || m.Kind == 1 && m.Ballot == r.Disk.Promise
	if below && (m.Kind == 1 || m.Kind == 3 || m.Kind == 5) {
		return plainHold(r, impl.RecMessage{Kind: 9, To: m.From, Ballot: r.Disk.Promise})
	}
	another := m.Ballot > 0 && m.From != r.Number
	tries, leads := r.Trying && r.Ballot == m.Ballot, r.Lead && r.Ballot == m.Ballot
	switch {
	case m.Kind == 1:
		r = plainFollow(r, m.Ballot)
		r = plainHold(r, impl.RecMessage{Kind: 2, To: m.From, Ballot: m.Ballot, Slots: r.Disk.Slots})
	case m.Kind == 2 && tries:
		r = plainPromise(r, m.From, m.Slots)
	case m.Kind == 3 && m.Index > 0 && another:
		r = plainFollow(r, m.Ballot)
		if m.Index > r.Disk.Known {
			r.Disk.Slots = plainPutSlot(r.Disk.Slots, m.Index, slot(m.Ballot, m.Text))
		}
		r = plainHold(r, impl.RecMessage{Kind: 4, To: m.From, Ballot: m.Ballot, Index: m.Index})
	case m.Kind == 4 && leads && m.Index > 0:
		r = plainTook(r, m.From, m.Index)
	case m.Kind == 5 && another:
		r = plainBeat(plainFollow(r, m.Ballot), m)
	case m.Kind == 6 && m.Index == r.Disk.Known+1 && m.Ballot > 0 && m.Ballot <= r.Disk.Promise:
		r.Disk.Slots = plainPutSlot(r.Disk.Slots, m.Index, slot(m.Ballot, m.Text))
		r.Disk.Known = m.Index
	case m.Kind == 7 && r.Lead && m.Index > 0:
		for _, index := range []int{m.Index, m.Index + 1, m.Index + 2, m.Index + 3, m.Index + 4} {
			if index <= r.Disk.Known {
				r = plainHold(r, impl.RecMessage{Kind: 6, To: m.From, Ballot: r.Ballot, Index: index, Text: r.Disk.Slots[index-1].Text})
			}
		}
	case m.Kind == 8:
		r = plainWish(r, m.Text)
	case m.Kind == 9 && (r.Lead || r.Trying) && m.Ballot > r.Ballot:
		r = plainQuiet(r)
		if m.Ballot > r.Disk.Promise {
			r.Disk.Promise = m.Ballot
		}
	}
	return r
}

func plainHold(r impl.Recorder, m impl.RecMessage) impl.Recorder {
	m.From = r.Number
	held := append([]impl.RecMessage{}, r.Held...)
	if len(held) < 400 {
		held = append(held, m)
	}
	r.Held = held
	return r
}

func plainQuiet(r impl.Recorder) impl.Recorder {
	return impl.Recorder{Number: r.Number, Of: r.Of, Up: r.Up, Safe: r.Safe, Disk: r.Disk, Held: r.Held, Wishes: r.Wishes, Heard: r.Heard}
}

func plainFollow(r impl.Recorder, ballot int) impl.Recorder {
	if ballot > r.Disk.Promise {
		r.Disk.Promise = ballot
	}
	if ballot != r.Ballot {
		r = plainQuiet(r)
	}
	r.Heard = 0
	return r
}

// plainPutSlot is a list that has this slot at a place.
func plainPutSlot(list []impl.RecSlot, place int, s impl.RecSlot) []impl.RecSlot {
	var put []impl.RecSlot
	for i := 1; i <= len(list) || i <= place; i++ {
		switch {
		case i == place:
			put = append(put, s)
		case i <= len(list):
			put = append(put, list[i-1])
		default:
			put = append(put, slot(0, ""))
		}
	}
	return put
}

func plainWith(numbers []int, of, number int) []int {
	there := map[int]bool{number: true}
	for _, n := range numbers {
		there[n] = true
	}
	var list []int
	for n := 1; n <= of; n++ {
		if there[n] {
			list = append(list, n)
		}
	}
	return list
}

func plainPromise(r impl.Recorder, from int, list []impl.RecSlot) impl.Recorder {
	best := append([]impl.RecSlot{}, r.Best...)
	for i, s := range list {
		if i >= len(best) {
			best = append(best, s)
		} else if s.Ballot > best[i].Ballot {
			best[i] = s
		}
	}
	r.Yes, r.Best = plainWith(r.Yes, r.Of, from), best
	if len(r.Yes) <= r.Of-len(r.Yes) {
		return r
	}
	r.Lead, r.Trying, r.Yes, r.Best, r.Acks = true, false, nil, nil, nil
	for i, s := range best {
		if i+1 > r.Disk.Known {
			r.Disk.Slots = plainPutSlot(r.Disk.Slots, i+1, slot(r.Ballot, s.Text))
		}
	}
	return r
}

func plainTook(r impl.Recorder, from, index int) impl.Recorder {
	froms := map[int][]int{}
	for _, a := range r.Acks {
		froms[a.Index] = plainWith(a.From, r.Of, 0)
	}
	froms[index] = plainWith(froms[index], r.Of, from)
	r.Acks = nil
	for i := 1; i <= 60; i++ {
		list, there := froms[i]
		if !there {
			continue
		}
		r.Acks = append(r.Acks, impl.RecAck{Index: i, From: list})
		most := len(list) > r.Of-len(list)
		if i == r.Disk.Known+1 && most && i <= len(r.Disk.Slots) && r.Disk.Slots[i-1].Ballot == r.Ballot {
			r.Disk.Known = i
		}
	}
	return r
}

func plainBeat(r impl.Recorder, m impl.RecMessage) impl.Recorder {
	for i, s := range r.Disk.Slots {
		if i == r.Disk.Known && i < m.Known && s.Ballot == m.Ballot {
			r.Disk.Known = i + 1
		}
	}
	if r.Disk.Known < m.Known {
		r = plainHold(r, impl.RecMessage{Kind: 7, To: m.From, Ballot: m.Ballot, Index: r.Disk.Known + 1})
	}
	for _, w := range r.Wishes {
		r = plainHold(r, impl.RecMessage{Kind: 8, To: m.From, Text: w})
	}
	return r
}

func plainRecWish(r impl.Recorder, text string) impl.Recorder {
	if len(brokenSentences(r)) > 0 {
		return impl.Recorder{}
	}
	if !r.Up {
		return r
	}
	return plainWish(plainOf(r), text)
}

func plainWish(r impl.Recorder, text string) impl.Recorder {
	if len(text) < 1 || len(text) > 100 || len(r.Wishes) >= 20 {
		return r
	}
	for _, w := range r.Wishes {
		if w == text {
			return r
		}
	}
	for i, s := range r.Disk.Slots {
		if i+1 <= r.Disk.Known && s.Text == text {
			return r
		}
	}
	r.Wishes = append(append([]string{}, r.Wishes...), text)
	return r
}

func plainRecBook(r impl.Recorder) []string {
	var texts []string
	for i, s := range r.Disk.Slots {
		if i < r.Disk.Known && len(brokenSentences(r)) == 0 {
			texts = append(texts, s.Text)
		}
	}
	return texts
}
