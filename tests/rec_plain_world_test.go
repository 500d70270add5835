package tests

import (
	"slices"

	"loop.example/wharflog/impl"
)

// This file says once more what ok worlds, events, calm rounds and agreement are, with plain loops over recorders, messages and places.
// Its numbers are the document's own and not the program's constants.

// The sentences of "A world is ok if".
const (
	wMany      = "how many Recorders"
	wValid     = "each valid"
	wNumbers   = "Numbers from 1"
	wOf        = "Of"
	wFlight    = "how many in Flight"
	wMessages  = "each message ok"
	wAscending = "Fixed ascending"
	wIndex     = "Index of Fixed"
	wText      = "Text of Fixed"
)

// brokenWorld tells which sentences a world breaks; each is looked at whatever the others say.
func brokenWorld(w impl.RecWorld) []string {
	there := map[string]bool{wMany: len(w.Recorders) < 1 || len(w.Recorders) > 5, wFlight: len(w.Flight) > 600}
	for i, r := range w.Recorders {
		there[wValid] = there[wValid] || len(brokenSentences(r)) > 0
		there[wNumbers] = there[wNumbers] || r.Number != i+1
		there[wOf] = there[wOf] || r.Of != len(w.Recorders)
	}
	for _, m := range w.Flight {
		there[wMessages] = there[wMessages] || !soundMessage(m, len(w.Recorders))
	}
	for i, f := range w.Fixed {
		there[wAscending] = there[wAscending] || i > 0 && w.Fixed[i-1].Index >= f.Index
		there[wIndex] = there[wIndex] || f.Index < 1 || f.Index > 60
		there[wText] = there[wText] || len(f.Text) > 100
	}
	var list []string
	for _, s := range []string{wMany, wValid, wNumbers, wOf, wFlight, wMessages, wAscending, wIndex, wText} {
		if there[s] {
			list = append(list, s)
		}
	}
	return list
}

func plainNewWorld(n int) impl.RecWorld {
	w := impl.RecWorld{}
	for number := 1; number <= n && n <= 5; number++ {
		w.Recorders = append(w.Recorders, impl.Recorder{Number: number, Of: n, Up: true})
	}
	return w
}

func plainRecDo(w impl.RecWorld, e impl.RecEvent) impl.RecWorld {
	if len(brokenWorld(w)) > 0 {
		return impl.RecWorld{}
	}
	return plainEvent(plainOf(w), e)
}

// plainEvent is an event of a world that is ok and nobody else's.
func plainEvent(w impl.RecWorld, e impl.RecEvent) impl.RecWorld {
	isMessage, isRecorder := e.A >= 0 && e.A < len(w.Flight), e.A >= 0 && e.A < len(w.Recorders)
	switch {
	case e.Kind == 1:
		for i, r := range w.Recorders {
			var sent []impl.RecMessage
			w.Recorders[i], sent = plainRecTick(r)
			for _, m := range sent {
				w = plainFly(w, m)
			}
		}
		return plainNote(w)
	case e.Kind == 2 && isMessage:
		m := w.Flight[e.A]
		w = plainLose(w, e.A)
		w.Recorders[m.To-1] = plainRecTake(w.Recorders[m.To-1], m)
		return plainNote(w)
	case e.Kind == 3 && isMessage:
		return plainFly(w, w.Flight[e.A])
	case e.Kind == 4 && isMessage:
		return plainLose(w, e.A)
	case e.Kind == 5 && isRecorder:
		w.Recorders[e.A] = plainRecFall(w.Recorders[e.A])
	case e.Kind == 6 && isRecorder:
		w.Recorders[e.A] = plainRecRise(w.Recorders[e.A])
	case e.Kind == 7 && isRecorder:
		w.Recorders[e.A] = plainRecWish(w.Recorders[e.A], e.Text)
	}
	return w
}

func plainFly(w impl.RecWorld, m impl.RecMessage) impl.RecWorld {
	if len(w.Flight)+1 <= 600 {
		w.Flight = append(w.Flight, m)
	}
	return w
}

func plainLose(w impl.RecWorld, at int) impl.RecWorld {
	w.Flight = slices.Concat(w.Flight[:at], w.Flight[at+1:])
	return w
}

// plainNote goes from place to place.
func plainNote(w impl.RecWorld) impl.RecWorld {
	for place := 1; place <= 60; place++ {
		if _, has := plainFixed(w, place); has {
			continue
		}
		text, is := plainMost(w, place)
		if !is {
			text, is = plainFirst(w, place)
		}
		if is {
			w.Fixed = append(w.Fixed, impl.RecFix{Index: place, Text: text})
		}
	}
	slices.SortFunc(w.Fixed, func(f, g impl.RecFix) int { return f.Index - g.Index })
	return w
}

func plainFixed(w impl.RecWorld, place int) (string, bool) {
	for _, f := range w.Fixed {
		if f.Index == place {
			return f.Text, true
		}
	}
	return "", false
}

// plainFirst is what the first recorder has that knows a place.
func plainFirst(w impl.RecWorld, place int) (string, bool) {
	for _, r := range w.Recorders {
		if r.Disk.Known >= place {
			return r.Disk.Slots[place-1].Text, true
		}
	}
	return "", false
}

// plainMost holds each safe slot of a place against those of all recorders.
func plainMost(w impl.RecWorld, place int) (string, bool) {
	var there []impl.RecSlot
	for _, r := range w.Recorders {
		if place >= 1 && place <= len(r.Safe.Slots) {
			there = append(there, r.Safe.Slots[place-1])
		}
	}
	for _, s := range there {
		many := 0
		for _, other := range there {
			many += boolInt(s == other)
		}
		if s.Ballot > 0 && many > len(w.Recorders)-many {
			return s.Text, true
		}
	}
	return "", false
}

func plainMajor(w impl.RecWorld, place int) (string, bool) {
	if len(brokenWorld(w)) > 0 {
		return "", false
	}
	return plainMost(w, place)
}

func plainAgree(w impl.RecWorld) bool {
	if len(brokenWorld(w)) > 0 {
		return false
	}
	for _, r := range w.Recorders {
		for i, text := range plainRecBook(r) {
			if fixed, has := plainFixed(w, i+1); !has || fixed != text {
				return false
			}
		}
	}
	for place := 1; place <= 60; place++ {
		if text, is := plainMost(w, place); is {
			if fixed, has := plainFixed(w, place); !has || fixed != text {
				return false
			}
		}
	}
	return true
}

func plainCalm(w impl.RecWorld, rounds int) impl.RecWorld {
	if len(brokenWorld(w)) > 0 {
		return impl.RecWorld{}
	}
	w = plainOf(w)
	for round := 1; round <= rounds && round <= 1000; round++ {
		w = plainEvent(w, impl.RecEvent{Kind: 1})
		for many := len(w.Flight); many > 0; many-- {
			w = plainEvent(w, impl.RecEvent{Kind: 2})
		}
	}
	return w
}
