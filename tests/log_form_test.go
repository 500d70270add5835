package tests

import (
	"fmt"
	"math"
	"math/rand"
	"strings"
	"testing"

	"loop.example/wharflog/impl"
)

// wantLogForm holds a call against its form, the empty text if it has none, and looks at the memory of both; and at promise 23.
func wantLogForm(t *testing.T, what string, c impl.BookCall, form string) {
	t.Helper()
	if plain := plainLogForm(c); plain != form {
		t.Errorf("%s: %+v: the test's form is %q, and was to be %q", what, c, plain, form)
	}
	listsKept(t, what, c, impl.LogForm)
	if got := impl.LogForm(c); got != form {
		t.Errorf("%s: %+v gives %q, want %q", what, c, got, form)
	}
	if form != "" {
		wantCall(t, what, form, c)
	}
}

func wantNoLogForm(t *testing.T, what string, c impl.BookCall) {
	t.Helper()
	wantLogForm(t, what, c, "")
}

// one is a call of one write.
func one(client string, number int, w impl.BookWrite) impl.BookCall {
	return call(client, number, writes(w))
}

func TestLogForms(t *testing.T) {
	for _, c := range []struct {
		c    impl.BookCall
		form string
	}{
		{one("ann", 3, create("x", "t", "h")), `ann 3 1 k x 0 h "t"`},
		{one("ann", 3, create("x", "t", "")), `ann 3 1 k x 0 * "t"`},
		{one("ann", 3, create("x", "", "h")), `ann 3 1 k x 0 h ""`},
		{one("ann", 3, create("x", "", "")), `ann 3 1 k x 0 * ""`},
		{one("ann", 12, update("x", "t u")), `ann 12 2 k x 0 * "t u"`},
		{one("ann", 12, update("x", "")), `ann 12 2 k x 0 * ""`},
		{one("ann", 12, seen(7, update("x", " "))), `ann 12 2 k x 7 * " "`},
		{one("b.1", 1, end("x")), `b.1 1 3 k x 0 * ""`},
		{one("b.1", 1, seen(70, end("x"))), `b.1 1 3 k x 70 * ""`},
		{one("-", 10, hold("x", "h")), `- 10 4 k x 0 h ""`},
		{one(".", 10, seen(1, hold("x", "-.9"))), `. 10 4 k x 1 -.9 ""`},
		{one("0", 100, letGo("x", "0")), `0 100 5 k x 0 0 ""`},
		{one("7", 100, seen(999, letGo("7", "7"))), `7 100 5 k 7 999 7 ""`},
		{one("z", 1000000, seen(1000000, impl.BookWrite{Op: 2, Kind: "disk", Name: "a.b-c", Text: "\"\\\n\x00~\x7f"})), `z 1000000 2 disk a.b-c 1000000 * "\22\5c\0a\00~\7f"`},
		{one("ann", 3, create("x", "* \"\"", "")), `ann 3 1 k x 0 * "* \22\22"`},
		{one("ann", 3, create("x", `\22`, "")), `ann 3 1 k x 0 * "\5c22"`},
	} {
		wantLogForm(t, "a form", c.c, c.form)
	}
	wantLogForm(t, "lists that are empty and not nil", call("ann", 1, but(writes(end("x")), []impl.BookWant{}...)), `ann 1 3 k x 0 * ""`)
	wantNoLogForm(t, "nothing", impl.BookCall{})
}

// Names, and texts that are none, at each place of a call that asks for a name.
func TestLogFormNames(t *testing.T) {
	for name, is := range map[string]bool{
		"a": true, "z": true, "0": true, "9": true, "-": true, ".": true, "a-b.c": true, strings.Repeat("z", 20): true, strings.Repeat("z", 21): false, strings.Repeat("z", 1000): false,
		"": false, "A": false, "Ann": false, "aZ": false, "a b": false, " a": false, "a ": false, "a_b": false, "*": false, "a*": false, "\"": false, "\"a\"": false, "a\n": false, "\x00": false,
		"\u00e9": false, "\xff": false, "/": false, ":": false, "`": false, "{": false, ",": false, "\\": false, "+1": false, strings.Repeat("\u00e9", 5): false,
	} {
		for what, c := range map[string]impl.BookCall{
			"%s 2 1 k x 0 h \"\"": one(name, 2, create("x", "", "h")),
			"c 2 3 %s x 0 * \"\"": one("c", 2, impl.BookWrite{Op: 3, Kind: name, Name: "x"}),
			"c 2 2 k %s 0 * \"\"": one("c", 2, update(name, "")),
			"c 2 1 k x 0 %s \"\"": one("c", 2, create("x", "", name)),
			"c 2 4 k x 0 %s \"\"": one("c", 2, hold("x", name)),
			"c 2 5 k x 0 %s \"\"": one("c", 2, letGo("x", name)),
		} {
			switch {
			case is:
				wantLogForm(t, what, c, fmt.Sprintf(what, name))
			case name == "" && c.Bundle.Writes[0].Op == 1 && c.Client == "c":
				wantLogForm(t, what, c, fmt.Sprintf(what, "*"))
			default:
				wantNoLogForm(t, what, c)
			}
		}
	}
}

func TestLogFormNumbers(t *testing.T) {
	for _, n := range []int{1, 2, 9, 10, 999999, 1000000} {
		wantLogForm(t, "a Number", one("ann", n, end("x")), fmt.Sprintf(`ann %d 3 k x 0 * ""`, n))
	}
	for _, n := range []int{0, -1, 1000001, 1 << 31, 1 << 32, 1<<32 + 1, math.MinInt, math.MaxInt} {
		wantNoLogForm(t, "a Number that no ticket has", one("ann", n, end("x")))
	}
}

func TestLogFormBundles(t *testing.T) {
	for what, x := range map[string]impl.BookBundle{
		"nothing":                       {},
		"empty lists":                   {Wants: []impl.BookWant{}, Writes: []impl.BookWrite{}},
		"a want":                        but(writes(end("x")), want("x", 1)),
		"a want that there is none":     but(writes(end("x")), want("y", 0)),
		"a want that is none":           but(writes(end("x")), impl.BookWant{}),
		"11 wants":                      but(writes(end("x")), make([]impl.BookWant, 11)...),
		"a want alone":                  wants(want("x", 1)),
		"two writes":                    writes(end("x"), end("y")),
		"one write twice":               writes(end("x"), end("x")),
		"a write, and one that is none": writes(end("x"), impl.BookWrite{}),
		"a write behind one of none":    writes(impl.BookWrite{}, end("x")),
		"ten writes":                    writes(make([]impl.BookWrite, 10)...),
		"a write that is none":          writes(impl.BookWrite{}),
	} {
		wantNoLogForm(t, what, call("ann", 1, x))
	}
}

// Each Op with what it uses and what it does not; that BookDo refuses the write with code 2 is asked of BookDo.
func TestLogFormWrites(t *testing.T) {
	seenOfOp := map[int]int{}
	for _, op := range []int{math.MinInt, -1, 0, 1, 2, 3, 4, 5, 6, 11, math.MaxInt} {
		for _, n := range []int{math.MinInt, -1, 0, 1, 999999, 1000000, 1000001, math.MaxInt} {
			for _, name := range []string{"x", "", "X"} {
				for _, kind := range []string{"k", "", "K"} {
					for _, text := range []string{"", "t"} {
						for _, hold := range []string{"", "h", "H"} {
							w := impl.BookWrite{Op: op, Kind: kind, Name: name, Seen: n, Text: text, Hold: hold}
							c := one("ann", 1, w)
							is := impl.BookDo(impl.Book{}, w).Code != 2 && n <= 1000000
							if is != plainHasForm(c) {
								t.Errorf("%+v: the test's reading is %v", w, !is)
							}
							wantLogForm(t, "a write", c, plainLogForm(c))
							seenOfOp[op] += boolInt(is)
						}
					}
				}
			}
		}
	}
	if got, want := fmt.Sprint(seenOfOp), fmt.Sprint(map[int]int{math.MinInt: 0, -1: 0, 0: 0, 1: 4, 2: 8, 3: 4, 4: 4, 5: 4, 6: 0, 11: 0, math.MaxInt: 0}); got != want {
		t.Errorf("calls with a form by their Op: %s, want %s", got, want)
	}
}

// What breaks a write by one thing alone, written out.
func TestLogFormWritesThatAreRefused(t *testing.T) {
	for _, c := range []struct {
		what string
		good impl.BookWrite
		bad  []impl.BookWrite
	}{
		{"create", create("x", "t", "h"), []impl.BookWrite{seen(1, create("x", "t", "h")), seen(-1, create("x", "t", "h")), create("x", "t", "H"), create("", "t", "h"), create("x", long(301), "h")}},
		{"update", seen(5, update("x", "t")), []impl.BookWrite{seen(-1, update("x", "t")), seen(1000001, update("x", "t")), {Op: 2, Kind: "k", Name: "x", Text: "t", Hold: "h"}, update("X", "t"), update("x", long(301))}},
		{"end", seen(5, end("x")), []impl.BookWrite{seen(-1, end("x")), seen(1000001, end("x")), {Op: 3, Kind: "k", Name: "x", Text: "t"}, {Op: 3, Kind: "k", Name: "x", Hold: "h"}}},
		{"hold", seen(5, hold("x", "h")), []impl.BookWrite{seen(-1, hold("x", "h")), seen(1000001, hold("x", "h")), hold("x", ""), hold("x", "*"), {Op: 4, Kind: "k", Name: "x", Text: "t", Hold: "h"}}},
		{"let go", seen(5, letGo("x", "h")), []impl.BookWrite{seen(-1, letGo("x", "h")), seen(1000001, letGo("x", "h")), letGo("x", ""), letGo("x", "*"), {Op: 5, Kind: "k", Name: "x", Text: "t", Hold: "h"}}},
		{"the last version", seen(1000000, end("x")), []impl.BookWrite{seen(1000001, end("x")), {Op: 6, Kind: "k", Name: "x"}, {Op: 0, Kind: "k", Name: "x"}, {Op: 3, Kind: "", Name: "x"}, {Op: 3, Kind: "k"}}},
	} {
		if impl.LogForm(one("ann", 1, c.good)) == "" {
			t.Errorf("%s: %+v has no form", c.what, c.good)
		}
		for _, w := range c.bad {
			wantNoLogForm(t, c.what, one("ann", 1, w))
		}
	}
}

// Forms of 100 bytes, and of 101, by each field that may be longer.
func TestLogFormSizes(t *testing.T) {
	z := strings.Repeat("z", 20)
	full := impl.BookWrite{Op: 4, Kind: z, Name: z, Seen: 999, Hold: z}
	for what, c := range map[string]struct{ fits, long impl.BookCall }{
		"plain bytes":            {one("ann", 1, create("x", long(82), "")), one("ann", 1, create("x", long(83), ""))},
		"spaces":                 {one("ann", 1, create("x", strings.Repeat(" ", 82), "")), one("ann", 1, create("x", strings.Repeat(" ", 83), ""))},
		"escapes and a byte":     {one("ann", 1, create("x", strings.Repeat("\n", 27)+"t", "")), one("ann", 1, create("x", strings.Repeat("\n", 27)+"tt", ""))},
		"one escape more":        {one("ann", 1, update("x", strings.Repeat("\xff", 27))), one("ann", 1, update("x", strings.Repeat("\xff", 28)))},
		"an escape for a byte":   {one("ann", 1, update("x", long(82))), one("ann", 1, update("x", long(81)+"\\"))},
		"a longer Client":        {one("anna", 1, create("x", long(81), "")), one("annas", 1, create("x", long(81), ""))},
		"a longer Number":        {one("ann", 99, create("x", long(81), "")), one("ann", 100, create("x", long(81), ""))},
		"long names, and Seen":   {one(z, 1000000, full), one(z, 1000000, seen(1000, full))},
		"a Hold":                 {one("ann", 1, create("x", long(82), "h")), one("ann", 1, create("x", long(82), "hh"))},
		"a longer Seen":          {one("ann", 1, seen(9, update("x", long(82)))), one("ann", 1, seen(10, update("x", long(82))))},
		"names that are longest": {one(z, 1000000, impl.BookWrite{Op: 1, Kind: z, Name: z, Hold: z, Text: "ab"}), one(z, 1000000, impl.BookWrite{Op: 1, Kind: z, Name: z, Hold: z, Text: "abc"})},
	} {
		if size := len(rawCall(c.fits)); size != 100 && what != "one escape more" {
			t.Errorf("%s: the test's form is of %d bytes", what, size)
		}
		wantLogForm(t, what, c.fits, rawCall(c.fits))
		wantNoLogForm(t, what, c.long)
		wantNoCall(t, what, rawCall(c.long))
	}
	for _, size := range []int{84, 100, 299, 300, 301, 5000} {
		wantNoLogForm(t, "a long Text", one("ann", 1, update("x", long(size))))
		wantNoCall(t, "a long Text", rawCall(one("ann", 1, update("x", long(size)))))
	}
}

// Every byte in a Text: alone, at the beginning, at the end and in the midst.
func TestLogFormBytes(t *testing.T) {
	texts := map[string]string{}
	for c := range 256 {
		text, written := string([]byte{byte(c)}), string([]byte{byte(c)})
		if c < 32 || c > 126 || c == '"' || c == '\\' {
			written = fmt.Sprintf(`\%02x`, c)
		}
		for _, at := range []string{"%s", "a%s", "%s0", "0%sf", "%[1]s%[1]s", " %s ", "*%s*"} {
			whole, form := fmt.Sprintf(at, text), `ann 1 1 k x 0 * "`+fmt.Sprintf(at, written)+`"`
			wantLogForm(t, "a byte", one("ann", 1, create("x", whole, "")), form)
			if other, before := texts[form]; before && other != whole {
				t.Errorf("%q and %q are written alike", whole, other)
			}
			texts[form] = whole
		}
	}
}

// drawCall is a call that mostly has a form.
func drawCall(dice *rand.Rand) impl.BookCall {
	name := func() string {
		return oneOf(dice, "a", "x", "k", "0", "-.", "a.b-c", "z12", long(3), long(10), long(20))
	}
	w := impl.BookWrite{Op: 1 + dice.Intn(5), Kind: name(), Name: name()}
	if w.Op != 1 {
		w.Seen = oneOf(dice, 0, 0, 1, 12, 999999, 1000000)
	}
	if w.Op <= 2 {
		w.Text = oneOf(dice, "", "t", "t u", "*", `\22`, drawnBytes(dice, dice.Intn(30)))
	}
	if w.Op >= 4 || w.Op == 1 && dice.Intn(2) == 0 {
		w.Hold = name()
	}
	c := one(name(), oneOf(dice, 1, 2, 10, 777, 999999, 1000000), w)
	if dice.Intn(5) == 0 {
		spoilCall(dice, &c)
	}
	return c
}

// spoilCall changes one thing of a call of one write.
func spoilCall(dice *rand.Rand, c *impl.BookCall) {
	w := &c.Bundle.Writes[0]
	switch dice.Intn(9) {
	case 0:
		c.Client = oneOf(dice, "", "A", "*", long(21))
	case 1:
		c.Number = oneOf(dice, 0, -1, 1000001)
	case 2:
		w.Op = oneOf(dice, 0, 1, 2, 3, 4, 5, 6)
	case 3:
		w.Kind = oneOf(dice, "", "K", long(21))
	case 4:
		w.Name = oneOf(dice, "", "a b", long(21))
	case 5:
		w.Seen = oneOf(dice, -1, 0, 1, 1000001)
	case 6:
		w.Hold = oneOf(dice, "", "h", "H", "*")
	case 7:
		w.Text = oneOf(dice, "", "t", long(100))
	default:
		c.Bundle.Wants = []impl.BookWant{want("x", 0)}
	}
}

// Promise 23, of calls that are drawn.
func TestPromise23ThereAndBack(t *testing.T) {
	dice := rand.New(rand.NewSource(23))
	has := map[bool]int{}
	forms := map[string]impl.BookCall{}
	for range 20000 {
		c := drawCall(dice)
		form := plainLogForm(c)
		wantLogForm(t, "drawn", c, form)
		has[form != ""]++
		if other, before := forms[form]; form != "" && before && !same(other, c) {
			t.Errorf("%+v and %+v have the form %q", c, other, form)
		}
		forms[form] = c
		if t.Failed() {
			t.Fatalf("%+v", c)
		}
	}
	if has[true] < 10000 || has[false] < 3000 {
		t.Errorf("the test is not worth much: %v", has)
	}
}
