package tests

import (
	"fmt"
	"math/big"
	"regexp"
	"slices"
	"strconv"
	"strings"
	"testing"

	"loop.example/spool/impl"
)

// Chapter 7 once more, word by word and without any care for speed.

// The line of each Op, with the letters of its fields where their numbers stand.
var slowLines = map[int]string{
	impl.ANew: "new A B C", impl.ANum: "num A N", impl.ANil: "nil A", impl.ACopy: "copy A B",
	impl.AKey: "key A B C", impl.AVal: "val A B C", impl.ASetKey: "setkey A B C", impl.ASetVal: "setval A B C",
	impl.AGrow: "grow A C", impl.ACut: "cut A C", impl.AWeak: "weak A C", impl.ALast: "last A C",
	impl.ASame: "same A B", impl.AWord: "word A", impl.ANumber: "number A", impl.AKind: "kind A", impl.ASize: "size A",
	impl.ASettle: "settle", impl.ADue: "due A", impl.ACount: "count", impl.ALive: "live",
	impl.AStep: "step C", impl.APace: "pace B C", impl.ARound: "round",
}

func slowLine(a impl.Act) string {
	return strings.NewReplacer("A", strconv.Itoa(a.A), "B", strconv.Itoa(a.B), "C", strconv.Itoa(a.C), "N", fmt.Sprint(a.N)).Replace(slowLines[a.Op])
}

// slowText is the text of any script, however long it is and whatever its acts are.
func slowText(room int, acts []impl.Act) string {
	text := fmt.Sprintf("room %d\n", room)
	for _, a := range acts {
		text += slowLine(a) + "\n"
	}
	return text
}

func slowWrite(room int, acts []impl.Act) string {
	if room < 1 || room > 4000 || len(acts) > 1000 {
		return ""
	}
	for _, a := range acts {
		if !slowActOk(a) {
			return ""
		}
	}
	if text := slowText(room, acts); len(text) <= 20000 {
		return text
	}
	return ""
}

// slowRules is what a line of each Op looks like.
var slowRules = func() map[int]*regexp.Regexp {
	rules := map[int]*regexp.Regexp{0: regexp.MustCompile(`\Aroom (?P<A>0|-?[1-9][0-9]*)\n\z`)}
	letters := regexp.MustCompile(`[ABCN]`)
	for op, told := range slowLines {
		rules[op] = regexp.MustCompile(`\A` + letters.ReplaceAllString(told, `(?P<$0>0|-?[1-9][0-9]*)`) + `\n\z`)
	}
	return rules
}()

// slowFields are the numbers of a line that looks like one of this Op; ok is false when it does not, or one of them has more than 64 bits.
func slowFields(op int, told string) (n map[string]int64, ok bool) {
	found := slowRules[op].FindStringSubmatch(told)
	if found == nil {
		return nil, false
	}
	n = map[string]int64{}
	for i, name := range slowRules[op].SubexpNames() {
		if i == 0 {
			continue
		}
		number, _ := new(big.Int).SetString(found[i], 10)
		if !number.IsInt64() {
			return nil, false
		}
		n[name] = number.Int64()
	}
	return n, true
}

func slowAct(told string) (impl.Act, bool) {
	for op := range slowLines {
		if n, ok := slowFields(op, told); ok {
			a := impl.Act{Op: op, A: int(n["A"]), B: int(n["B"]), C: int(n["C"]), N: n["N"]}
			return a, slowActOk(a)
		}
	}
	return impl.Act{}, false
}

func slowRead(text string) impl.Script {
	if len(text) > 20000 {
		return impl.Script{}
	}
	out := impl.Script{Ok: true}
	for i, told := range linesOf(text) {
		n, ok := slowFields(0, told)
		if i == 0 && ok && n["A"] >= 1 && n["A"] <= 4000 {
			out.Room = int(n["A"])
			continue
		}
		a, ok := slowAct(told)
		if i == 0 || !ok || len(out.Acts) == 1000 {
			return impl.Script{Line: i + 1}
		}
		out.Acts = append(out.Acts, a)
	}
	return out
}

// linesOf are the lines of a text with their newlines, and the piece behind them, if there is one; an empty text is such a piece.
func linesOf(text string) []string {
	list := strings.SplitAfter(text, "\n")
	if n := len(list) - 1; n > 0 && list[n] == "" {
		return list[:n]
	}
	return list
}

func sameScript(a, b impl.Script) bool {
	return a.Ok == b.Ok && a.Line == b.Line && a.Room == b.Room && slices.Equal(a.Acts, b.Acts)
}

// shortly is a text as a failure tells it.
func shortly(text string) string {
	if len(text) > 300 {
		return fmt.Sprintf("%q .. (%d bytes) .. %q", text[:100], len(text), text[len(text)-200:])
	}
	return fmt.Sprintf("%q", text)
}

// wantRead is promise P13 at any text: it is the one that WriteScript writes of what was read, or the line is the first that cannot stand there.
func wantRead(t *testing.T, name, text string) impl.Script {
	t.Helper()
	got, want := impl.ReadScript(text), slowRead(text)
	if !sameScript(got, want) {
		t.Fatalf("%s: %s: Ok %v, Line %d, Room %d, %d acts; want Ok %v, Line %d, Room %d, %d acts", name, shortly(text), got.Ok, got.Line, got.Room, len(got.Acts), want.Ok, want.Line, want.Room, len(want.Acts))
	}
	if again := impl.WriteScript(got.Room, got.Acts); got.Ok != (again == text && text != "") {
		t.Fatalf("%s: %s: Ok %v, written again %s", name, shortly(text), got.Ok, shortly(again))
	}
	if got.Ok && got.Line != 0 || !got.Ok && (got.Room != 0 || len(got.Acts) != 0) || (got.Ok || len(text) > impl.MaxText) != (got.Line == 0) {
		t.Fatalf("%s: %s: %+v", name, shortly(text), got)
	}
	if got.Line > 0 {
		wantFirst(t, name, text, got.Line)
	}
	return got
}

// wantFirst asks that the lines ahead of that one are a script, and are none with it.
func wantFirst(t *testing.T, name, text string, number int) {
	t.Helper()
	lines := linesOf(text)
	if number > len(lines) {
		t.Fatalf("%s: %s: Line %d of %d", name, shortly(text), number, len(lines))
	}
	ahead, with := strings.Join(lines[:number-1], ""), strings.Join(lines[:number], "")
	if s := impl.ReadScript(ahead); number > 1 && !s.Ok {
		t.Fatalf("%s: %s: Line %d, but the lines ahead are none either: %d", name, shortly(text), number, s.Line)
	}
	if s := impl.ReadScript(with); s.Ok || s.Line != number {
		t.Fatalf("%s: %s: Line %d, but with this line alone Ok %v, Line %d", name, shortly(text), number, s.Ok, s.Line)
	}
}

// anyNumber is one of any size, often at an end of what 64 bits hold.
func anyNumber(d *dice) int64 {
	n := int64(uint64(d.below(1<<31))<<33 ^ uint64(d.below(1<<31))<<16 ^ uint64(d.below(1<<16)))
	switch d.below(4) {
	case 0:
		return n >> d.below(64)
	case 1:
		return -1<<63 + int64(d.below(3))
	case 2:
		return 1<<63 - 1 - int64(d.below(3))
	}
	return n
}

// tellable is a script by dice all of whose acts are ok and whose text is not too long, with numbers of any size.
func tellable(d *dice, room, n int, wide bool) []impl.Act {
	var acts []impl.Act
	for _, a := range scriptOf(d, n, wide) {
		if a.Op == impl.ANum && d.below(2) == 0 {
			a.N = anyNumber(d)
		}
		if slowActOk(a) {
			acts = append(acts, a)
		}
	}
	for slowWrite(room, acts) == "" {
		acts = acts[:len(acts)*9/10]
	}
	return acts
}

// strangeAct is an act with any values, mostly none.
func strangeAct(d *dice) impl.Act {
	f := fieldsOf[d.below(len(fieldsOf))]
	value := func(high int) int {
		list := about(high)
		if d.below(4) > 0 {
			return d.below(high + 1)
		}
		return list[d.below(len(list))]
	}
	a := impl.Act{Op: f.op, A: value(f.a), B: value(f.b), C: value(f.c)}
	if d.below(8) == 0 || f.op == impl.ANum {
		a.N = anyNumber(d)
	}
	if d.below(20) == 0 {
		a.Op = d.below(30) - 2
	}
	return a
}

// Drawn scripts, with acts that are none among them or not: what is written is what the slow writing writes, and is read as it was.
func TestWriteDrawnScripts(t *testing.T) {
	d := dice(71)
	written, nothing := 0, 0
	for range 6000 {
		room := d.below(4020) - 10
		if d.below(4) > 0 {
			room = 1 + d.below(4000)
		}
		var acts []impl.Act
		for range d.below(1 + d.below(12)) {
			acts = append(acts, strangeAct(&d))
		}
		if d.below(4) == 0 {
			acts = tellable(&d, max(1, min(room, 4000)), d.below(60), false)
		}
		got := impl.WriteScript(room, acts)
		if want := slowWrite(room, acts); got != want {
			t.Fatalf("room %d: %+v: %s, want %s", room, acts, shortly(got), shortly(want))
		}
		if got == "" {
			nothing++
			continue
		}
		written++
		if s := wantRead(t, "written", got); !sameScript(s, impl.Script{Ok: true, Room: room, Acts: acts}) {
			t.Fatalf("room %d: %+v: read as %+v", room, acts, s)
		}
	}
	if written < 2000 || nothing < 1000 {
		t.Error(written, "written,", nothing, "not")
	}
}

// Scripts of all lengths, up to those whose text is too long.
func TestWriteLongScripts(t *testing.T) {
	d := dice(72)
	var sizes [5]int
	for range 200 {
		room, n, numbers := 1+d.below(4000), d.below(1003), d.below(5)
		var acts []impl.Act
		for len(acts) < n {
			a := strangeAct(&d)
			if d.below(8) < 2*numbers {
				a = impl.Act{Op: impl.ANum, A: d.below(16), N: anyNumber(&d)}
			}
			if slowActOk(a) {
				acts = append(acts, a)
			}
		}
		got := impl.WriteScript(room, acts)
		if want := slowWrite(room, acts); got != want {
			t.Fatalf("room %d: %d acts: %s, want %s", room, len(acts), shortly(got), shortly(want))
		}
		if text := slowText(room, acts); len(text) > impl.MaxText {
			sizes[4]++
			wantRead(t, "too long", text)
			continue
		}
		sizes[len(got)*4/(impl.MaxText+1)]++
		if got == "" {
			continue
		}
		if s := wantRead(t, "long", got); s.Room != room || !slices.Equal(s.Acts, acts) {
			t.Fatalf("room %d: %d acts: read as %d", room, len(acts), len(s.Acts))
		}
	}
	for i, n := range sizes {
		if n < 8 {
			t.Errorf("only %d texts of size %d", n, i)
		}
	}
}

const strangeBytes = " \n\t\r\x00\x7f\x80\xc2\xa0\xff-+_.0123456789abcdefghijklmnopqrstuvwxyzRNLA"

// changed is a text with one byte changed, put in or taken out.
func changed(d *dice, text string) string {
	b := strangeBytes[d.below(len(strangeBytes))]
	if d.below(10) == 0 {
		b = byte(d.below(256))
	}
	i := d.below(len(text) + 1)
	switch {
	case d.below(3) == 0 || i == len(text):
		return text[:i] + string([]byte{b}) + text[i:]
	case d.below(2) == 0:
		return text[:i] + text[i+1:]
	}
	return text[:i] + string([]byte{b}) + text[i+1:]
}

// piece is some of a text, most often its beginning or its end.
func piece(d *dice, text string) string {
	i, j := d.below(len(text)+1), d.below(len(text)+1)
	switch d.below(3) {
	case 0:
		return text[:i]
	case 1:
		return text[i:]
	}
	return text[min(i, j):max(i, j)]
}

// reordered is a text with its lines, mostly but the first, in another order, one of them gone or one of them twice.
func reordered(d *dice, text string) string {
	lines := slices.Clone(linesOf(text))
	first := min(len(lines)-1, d.below(4))
	if first > 0 {
		first = 1
	}
	i, j := first+d.below(len(lines)-first), first+d.below(len(lines)-first)
	switch d.below(4) {
	case 0:
		lines[i], lines[j] = lines[j], lines[i]
	case 1:
		lines = slices.Delete(lines, i, i+1)
	case 2:
		lines = slices.Insert(lines, i, lines[j])
	case 3:
		old := slices.Clone(lines[first:])
		for k, from := range d.shuffled(len(old)) {
			lines[first+k] = old[from]
		}
	}
	return strings.Join(lines, "")
}

// Drawn texts: such as are written, and others that are nearly so.
func TestReadDrawnTexts(t *testing.T) {
	d := dice(73)
	ways := []struct {
		name string
		make func(d *dice, text string) string
	}{
		{"a byte changed", changed},
		{"two bytes changed", func(d *dice, text string) string { return changed(d, changed(d, text)) }},
		{"a piece", piece},
		{"lines in another order", reordered},
		{"two texts", func(d *dice, text string) string { return text + piece(d, text) }},
	}
	for _, w := range ways {
		var read, faults, later int
		for i := range 4000 {
			n := d.below(8)
			if i%50 == 0 {
				n = d.below(400)
			}
			room := 1 + d.below(1+d.below(4000))
			text := w.make(&d, slowWrite(room, tellable(&d, room, n, false)))
			switch s := wantRead(t, w.name, text); {
			case s.Ok:
				read++
			case s.Line > 2:
				later++
			default:
				faults++
			}
		}
		if read < 40 || faults < 300 || later < 10 {
			t.Errorf("%s: %d read, %d faults, %d at later lines", w.name, read, faults, later)
		}
	}
}

// Texts of names, numbers and blanks in any order.
func TestReadThrownTexts(t *testing.T) {
	d := dice(74)
	parts := []string{" ", " ", " ", " ", "\n", "\n", "\n", "0", "1", "7", "15", "16", "199", "200", "255", "4000", "100000", "-1", "-", "00", "room", "room 9\n", "room 4000\n", "", "\t", "\r\n"}
	for _, told := range slowLines {
		parts = append(parts, strings.Fields(told)[0])
	}
	slices.Sort(parts)
	read, faults := 0, 0
	for range 40000 {
		text := ""
		if d.below(4) > 0 {
			text = "room 30\n"
		}
		for range d.below(8) {
			text += parts[d.below(len(parts))]
		}
		if d.below(2) == 0 {
			text += "\n"
		}
		if wantRead(t, "thrown", text).Ok {
			read++
		} else {
			faults++
		}
	}
	if read < 1000 || faults < 10000 {
		t.Error(read, "read,", faults, "faults")
	}
}
