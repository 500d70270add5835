package tests

import (
	"slices"

	"loop.example/wharflog/impl"
)

// This file says once more what ok worlds of calls, their events and calm rounds are, what is fixed in them, and what was heard,
// with plain loops and the document's own numbers. What BookAsk says is held against a plain reading elsewhere.

// The sentences of "A world is ok if".
const (
	lRec   = "Rec is"
	lNow   = "Now"
	lMany  = "how many are Asked"
	lForms = "calls with forms"
	lTwice = "no two with one form"
	lFrom  = "From"
	lSaid  = "Said while To is 0"
	lTo    = "To"
)

// brokenLog tells which sentences a world breaks; each is looked at whatever the others say.
func brokenLog(w impl.LogWorld) []string {
	there := map[string]bool{lRec: len(brokenWorld(w.Rec)) > 0, lNow: w.Now < 0, lMany: len(w.Asked) > 12}
	forms := map[string]bool{}
	for _, a := range w.Asked {
		form := plainLogForm(a.Call)
		there[lForms] = there[lForms] || form == ""
		there[lTwice] = there[lTwice] || form != "" && forms[form]
		forms[form] = true
		there[lFrom] = there[lFrom] || a.From < 0 || a.From > w.Now
		there[lSaid] = there[lSaid] || a.To == 0 && (a.Said.Code != 0 || a.Said.Version != 0 || a.Said.Again)
		there[lTo] = there[lTo] || a.To != 0 && (a.To <= a.From || a.To > w.Now)
	}
	var list []string
	for _, s := range []string{lRec, lNow, lMany, lForms, lTwice, lFrom, lSaid, lTo} {
		if there[s] {
			list = append(list, s)
		}
	}
	return list
}

// plainLogDo is LogDo.
func plainLogDo(w impl.LogWorld, e impl.LogEvent) impl.LogWorld {
	if len(brokenLog(w)) > 0 {
		return impl.LogWorld{}
	}
	w = plainOf(w)
	w.Now = w.Now + 1
	switch e.Kind {
	case 1, 2, 3, 4, 5, 6:
		w.Rec = plainRecDo(w.Rec, impl.RecEvent{Kind: e.Kind, A: e.A})
	case 11:
		return plainAskAt(w, e.A, e.Call)
	case 12:
		return plainHearAt(w, e.A, e.B)
	}
	return w
}

func plainAskAt(w impl.LogWorld, at int, c impl.BookCall) impl.LogWorld {
	form := plainLogForm(c)
	if at < 0 || at >= len(w.Rec.Recorders) || form == "" {
		return w
	}
	before := slices.ContainsFunc(w.Asked, func(a impl.LogAsked) bool { return plainLogForm(a.Call) == form })
	if !before && len(w.Asked) >= 12 {
		return w
	}
	if !before {
		w.Asked = append(w.Asked, impl.LogAsked{Call: plainOf(c), From: w.Now})
	}
	w.Rec = plainRecDo(w.Rec, impl.RecEvent{Kind: 7, A: at, Text: form})
	return w
}

func plainHearAt(w impl.LogWorld, at, place int) impl.LogWorld {
	if at < 0 || at >= len(w.Rec.Recorders) || !w.Rec.Recorders[at].Up || place < 0 || place >= len(w.Asked) || w.Asked[place].To != 0 {
		return w
	}
	a := &w.Asked[place]
	if s, has := plainSaid(plainRecBook(w.Rec.Recorders[at]), plainLogForm(a.Call), impl.BookAsk); has {
		a.To, a.Said = w.Now, s
	}
	return w
}

// plainLogCalm is LogCalm.
func plainLogCalm(w impl.LogWorld, rounds int) impl.LogWorld {
	if len(brokenLog(w)) > 0 {
		return impl.LogWorld{}
	}
	w = plainOf(w)
	for round := 1; round <= rounds && round <= 1000; round++ {
		w.Rec = plainCalm(w.Rec, 1)
		w.Now = w.Now + 1
	}
	return w
}

// plainLogFixed is LogFixed.
func plainLogFixed(w impl.LogWorld) []string {
	if len(brokenLog(w)) > 0 {
		return nil
	}
	var texts []string
	for place := 1; ; place++ {
		text, has := plainFixed(w.Rec, place)
		if !has {
			return texts
		}
		texts = append(texts, text)
	}
}

// plainHistory is LogHistory.
func plainHistory(w impl.LogWorld) []impl.BookHeard {
	if len(brokenLog(w)) > 0 {
		return nil
	}
	var list []impl.BookHeard
	for _, a := range plainOf(w).Asked {
		h := impl.BookHeard{From: a.From, To: a.To, Call: a.Call, Said: a.Said}
		if a.To == 0 {
			s, has := plainSaid(plainLogFixed(w), plainLogForm(a.Call), impl.BookAsk)
			if !has {
				continue
			}
			h.To, h.Said = w.Now+1, s
		}
		list = append(list, h)
	}
	return list
}

// plainRight is LogRight; it takes long where many calls were under way at once and no order fits.
func plainRight(w impl.LogWorld) bool {
	if len(brokenLog(w)) > 0 {
		return false
	}
	_, fits := plainLinear(impl.Book{}, plainHistory(w))
	return fits
}
