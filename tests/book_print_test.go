package tests

import (
	"encoding/hex"
	"math"
	"math/big"
	"strings"
	"testing"

	"loop.example/wharflog/impl"
)

// sumOf is the sum of 64 bits of a text, by numbers that do not wrap, as 16 digits.
func sumOf(text string) string {
	sum, _ := new(big.Int).SetString("14695981039346656037", 10)
	factor, size := big.NewInt(1099511628211), new(big.Int).Lsh(big.NewInt(1), 64)
	for _, c := range []byte(text) {
		low := new(big.Int).Mod(sum, big.NewInt(256)).Int64()
		sum.Add(sum, big.NewInt((low^int64(c))-low))
		sum.Mod(sum.Mul(sum, factor), size)
	}
	digits := sum.Text(16)
	return strings.Repeat("0", 16-len(digits)) + digits
}

func allBytes() string {
	var all []byte
	for c := range 256 {
		all = append(all, byte(c))
	}
	return string(all)
}

// The forms of these bundles are written out by hand, and their sums were worked out ahead, by another program.
func TestPrints(t *testing.T) {
	for _, c := range []struct {
		x    impl.BookBundle
		form string
		sum  string
	}{
		{impl.BookBundle{}, "", "cbf29ce484222325"},
		{wants(want("a", 0)), "want k a 0\n", "e0176c7252826bf5"},
		{wants(want("a", 1)), "want k a 1\n", "e0140272527f8200"},
		{wants(want("a", math.MaxInt)), "want k a 9223372036854775807\n", "626dd649a09f261d"},
		{wants(want("a", 0), want("b", 12)), "want k a 0\nwant k b 12\n", "b12a2b7d0a1e5687"},
		{wants(want("b", 12), want("a", 0)), "want k b 12\nwant k a 0\n", "d7bef3b9151098e3"},
		{writes(create("a", "", "")), "write 1 k a 0 \"\" \n", "ff82849e5b750d4d"},
		{writes(create("a", "", "h")), "write 1 k a 0 \"\" h\n", "9e87a01566caae57"},
		{writes(create("a", "t", "h")), "write 1 k a 0 \"t\" h\n", "588c364d43cf8179"},
		{writes(update("a", "")), "write 2 k a 0 \"\" \n", "2a087d831937907e"},
		{writes(seen(7, update("a", "t u"))), "write 2 k a 7 \"t u\" \n", "0c7925449d34430a"},
		{writes(end("a")), "write 3 k a 0 \"\" \n", "f3f5d88451de705f"},
		{writes(seen(1000000, end("a"))), "write 3 k a 1000000 \"\" \n", "21b4738918bff4c6"},
		{writes(hold("a", "h")), "write 4 k a 0 \"\" h\n", "7459bf424d4fa59c"},
		{writes(seen(12, letGo("a", "h-1.x"))), "write 5 k a 12 \"\" h-1.x\n", "a7b384874eb4533a"},
		{writes(update("a", "\"\\\n\x00\x1f !~\x7f\x80\xff")), `write 2 k a 0 "\22\5c\0a\00\1f !~\7f\80\ff" ` + "\n", "928c153249dcacea"},
		{writes(update("a", `\22`)), `write 2 k a 0 "\5c22" ` + "\n", "2d1eea1a13389382"},
		{writes(update("a", "\u00e9")), `write 2 k a 0 "\c3\a9" ` + "\n", "9cdfaecf31d56766"},
		{writes(create(strings.Repeat("a", 20), "\r\t", "-.9")), `write 1 k aaaaaaaaaaaaaaaaaaaa 0 "\0d\09" -.9` + "\n", "a685c0bf02cc671d"},
		{writes(update("a", strings.Repeat("\xff", 300))), `write 2 k a 0 "` + strings.Repeat(`\ff`, 300) + `" ` + "\n", "ff9fefdbd1b85b0e"},
		{but(writes(create("a", "\"x", "h")), want("z", 0)), "want k z 0\n" + `write 1 k a 0 "\22x" h` + "\n", "bfac026b3016e55e"},
		{but(writes(create("a", "x", "h"), update("a", "y"), hold("a", "g"), end("a"), letGo("a", "g"), letGo("a", "h")), want("z", 0), impl.BookWant{Kind: "disk", Name: "a.b-c", Version: 3}),
			"want k z 0\nwant disk a.b-c 3\nwrite 1 k a 0 \"x\" h\nwrite 2 k a 0 \"y\" \nwrite 4 k a 0 \"\" g\nwrite 3 k a 0 \"\" \nwrite 5 k a 0 \"\" g\nwrite 5 k a 0 \"\" h\n", "db315111c8be8c4c"},
		{writes(update("a", allBytes())),
			`write 2 k a 0 "\00\01\02\03\04\05\06\07\08\09\0a\0b\0c\0d\0e\0f\10\11\12\13\14\15\16\17\18\19\1a\1b\1c\1d\1e\1f` +
				` !\22#$%&'()*+,-./0123456789:;<=>?@ABCDEFGHIJKLMNOPQRSTUVWXYZ[\5c]^_` + "`" + `abcdefghijklmnopqrstuvwxyz{|}~` +
				`\7f\80\81\82\83\84\85\86\87\88\89\8a\8b\8c\8d\8e\8f\90\91\92\93\94\95\96\97\98\99\9a\9b\9c\9d\9e\9f` +
				`\a0\a1\a2\a3\a4\a5\a6\a7\a8\a9\aa\ab\ac\ad\ae\af\b0\b1\b2\b3\b4\b5\b6\b7\b8\b9\ba\bb\bc\bd\be\bf` +
				`\c0\c1\c2\c3\c4\c5\c6\c7\c8\c9\ca\cb\cc\cd\ce\cf\d0\d1\d2\d3\d4\d5\d6\d7\d8\d9\da\db\dc\dd\de\df` +
				`\e0\e1\e2\e3\e4\e5\e6\e7\e8\e9\ea\eb\ec\ed\ee\ef\f0\f1\f2\f3\f4\f5\f6\f7\f8\f9\fa\fb\fc\fd\fe\ff" ` + "\n", "6efb3bc18a927454"},
	} {
		if sum := sumOf(c.form); sum != c.sum {
			t.Errorf("%q: the sum is %s, and was worked out as %s", c.form, sum, c.sum)
		}
		wantPrint(t, c.x, c.sum)
	}
}

// wantPrint asks a bundle of books in which it is done, refused, and in the place of another one; its Print is the same in all.
func wantPrint(t *testing.T, x impl.BookBundle, sum string) {
	t.Helper()
	if plain := hex.EncodeToString([]byte(plainPrint(x))); plain != sum {
		t.Errorf("%+v: the test's Print is %s, and was to be %s", x, plain, sum)
	}
	for _, b := range []impl.Book{{}, yard(), shelf(), resting(7, thing("k", "a", 7, 7, "h")), atEnd(yard())} {
		c := call("ann", 2, x)
		behind, _ := impl.BookAsk(b, c)
		last, _ := ticketOf(behind, "ann")
		if got := hex.EncodeToString([]byte(last.Print)); got != sum {
			t.Errorf("%+v: Print is %s, want %s", x, got, sum)
		}
		if _, s := impl.BookAsk(behind, c); !s.Again {
			t.Errorf("%+v: not known again", x)
		}
	}
}

// Each byte that a Text may have has a Print of its own, as a sum by numbers that do not wrap has it.
func TestPrintsOfBytes(t *testing.T) {
	prints := map[string]int{}
	for c := range 256 {
		text := string([]byte{byte(c)})
		form := `write 2 k a 0 "` + text + `" ` + "\n"
		if c < 32 || c > 126 || c == '"' || c == '\\' {
			form = `write 2 k a 0 "\` + hex.EncodeToString([]byte(text)) + `" ` + "\n"
		}
		wantPrint(t, writes(update("a", text)), sumOf(form))
		prints[plainPrint(writes(update("a", text)))]++
	}
	if len(prints) != 256 {
		t.Errorf("%d prints of 256 bytes", len(prints))
	}
}

func TestPrintsOfDrawnBundles(t *testing.T) {
	highest := 0
	eachRun(t, 1, 60, func(r *run) {
		c := call("solo", 1, r.bundle())
		book, s := impl.BookAsk(r.book, c)
		if s.Code == 2 {
			return
		}
		last, _ := ticketOf(book, "solo")
		if last.Print != plainPrint(c.Bundle) {
			t.Errorf("%+v: Print is %x, want %x", c.Bundle, last.Print, plainPrint(c.Bundle))
		}
		highest += boolInt(last.Print[0] >= 128)
		r.book = impl.Book{Now: book.Now, Floor: book.Floor, Objects: book.Objects, History: book.History}
	})
	if highest < 20 {
		t.Errorf("the test is not worth much: %d prints with the highest bit", highest)
	}
}
