package tests

import (
	"fmt"
	"math/rand"
	"slices"
	"testing"

	"loop.example/wharflog/impl"
)

// A teller draws texts, one after the other, and keeps the book that they lead to.
type teller struct {
	run
	clients int
	texts   []string
}

// next is mostly a new call of a client, and a write that may be done.
func (l *teller) next() string {
	client := fmt.Sprintf("c%d", l.dice.Intn(l.clients))
	last, _ := ticketOf(l.book, client)
	c := one(client, max(1, last.Number+draw(&l.run, 1, 1, 1, 2, 10)), l.write())
	w := &c.Bundle.Writes[0]
	w.Text = w.Text[:min(len(w.Text), 5)]
	switch l.dice.Intn(14) {
	case 0:
		return draw(&l.run, notCalls()...)
	case 1:
		return scratched(l.dice, rawCall(c))
	case 2, 3:
		return draw(&l.run, append(l.texts, "")...)
	case 4:
		c.Number = max(1, last.Number-draw(&l.run, 0, 0, 1, 3))
	case 5:
		spoilCall(l.dice, &c)
	}
	return rawCall(c)
}

// tell draws one more text.
func (l *teller) tell() {
	text := l.next()
	if c, is := plainLogRead(text); is {
		l.book, _ = impl.BookAsk(l.book, c)
	}
	l.texts = append(l.texts, text)
}

func newTeller(seed int64, clients int) *teller {
	return &teller{run: run{dice: rand.New(rand.NewSource(seed))}, clients: clients}
}

// Promise 24, in short lists, each beginning of them: with the plain readings, and each text that is told.
func TestPromise24(t *testing.T) {
	codes, twice, others := map[int]int{}, 0, 0
	for seed := range 60 {
		l := newTeller(int64(seed), []int{1, 2, 5}[seed%3])
		for range 30 {
			ahead := slices.Clone(l.texts)
			l.tell()
			text := l.texts[len(l.texts)-1]
			wantState(t, "drawn", l.texts, l.book)
			c, is := plainLogRead(text)
			s, told := impl.LogSaid(l.texts, text)
			switch {
			case !is:
				others++
				wantNotSaid(t, "no call", l.texts, text)
			case slices.Contains(ahead, text):
				twice++
				if before, _ := impl.LogSaid(ahead, text); !told || before != s {
					t.Errorf("%q: %+v, and %+v when it came again", text, before, s)
				}
			default:
				_, want := impl.BookAsk(impl.LogState(ahead), c)
				codes[want.Code]++
				wantSaid(t, "a call", l.texts, text, saidTold{want, true})
				wantNotSaid(t, "a call that is not there yet", ahead, text)
			}
			if t.Failed() {
				t.Fatalf("seed %d, %d texts", seed, len(l.texts))
			}
		}
	}
	countCodes(t, codes, 0, 3, 4, 5, 6, 7, 8)
	if twice < 50 || others < 100 {
		t.Errorf("the test is not worth much: %d texts twice, %d no calls", twice, others)
	}
}

// Promise 24, in long lists with more clients than there is room for.
func TestPromise24LongLists(t *testing.T) {
	codes := map[int]int{}
	for seed := range 6 {
		l := newTeller(int64(100+seed), []int{3, 40, 80}[seed%3])
		for range 600 {
			l.tell()
		}
		wantPoints(t, "drawn", l.book)
		listsKept(t, "drawn", l.texts, impl.LogState)
		if got := impl.LogState(l.texts); !sameBook(got, l.book) {
			t.Errorf("seed %d:\n%+v\nwant\n%+v", seed, got, l.book)
		}
		for range 60 {
			text := draw(&l.run, l.texts...)
			want, is := plainSaid(l.texts, text, impl.BookAsk)
			if got := saidOf(saidGiven{l.texts, text}); got != (saidTold{want, is}) {
				t.Errorf("seed %d: %q: %+v, want %v, %+v", seed, text, got, is, want)
			}
			codes[want.Code]++
		}
	}
	countCodes(t, codes, 0, 3, 6)
}

// The book behind two lists is what the second one leads to from the book behind the first.
func TestStatesGoOn(t *testing.T) {
	for seed := range 20 {
		l := newTeller(int64(200+seed), 4)
		for range 60 {
			l.tell()
		}
		for at := range len(l.texts) + 1 {
			b := impl.LogState(l.texts[:at])
			for _, text := range l.texts[at:] {
				if c, is := impl.LogRead(text); is {
					b, _ = impl.BookAsk(b, c)
				}
			}
			if !sameBook(b, l.book) || !impl.BookValid(impl.LogState(l.texts[:at])) {
				t.Errorf("seed %d, from %d on:\n%+v\nwant\n%+v", seed, at, b, l.book)
			}
		}
	}
}
