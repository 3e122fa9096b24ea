package tests

import (
	"math"
	"slices"
	"strings"
	"testing"

	"loop.example/spool/impl"
)

// The lines of every Op: with the least values, with the greatest, and with some that no two fields share.
var toldActs = []struct {
	act  impl.Act
	told string
}{
	{impl.Act{Op: impl.ANew}, "new 0 0 0"},
	{impl.Act{Op: impl.ANew, A: 15, B: 255, C: 200}, "new 15 255 200"},
	{impl.Act{Op: impl.ANew, A: 7, B: 5, C: 3}, "new 7 5 3"},
	{impl.Act{Op: impl.ANum}, "num 0 0"},
	{impl.Act{Op: impl.ANum, A: 15}, "num 15 0"},
	{impl.Act{Op: impl.ANum, A: 15, N: math.MaxInt64}, "num 15 9223372036854775807"},
	{impl.Act{Op: impl.ANum, A: 0, N: math.MinInt64}, "num 0 -9223372036854775808"},
	{impl.Act{Op: impl.ANum, A: 7, N: -1}, "num 7 -1"},
	{impl.Act{Op: impl.ANum, A: 7, N: 5}, "num 7 5"},
	{impl.Act{Op: impl.ANum, A: 7, N: -1203004}, "num 7 -1203004"},
	{impl.Act{Op: impl.ANil}, "nil 0"},
	{impl.Act{Op: impl.ANil, A: 15}, "nil 15"},
	{impl.Act{Op: impl.ANil, A: 7}, "nil 7"},
	{impl.Act{Op: impl.ACopy}, "copy 0 0"},
	{impl.Act{Op: impl.ACopy, A: 15, B: 15}, "copy 15 15"},
	{impl.Act{Op: impl.ACopy, A: 7, B: 5}, "copy 7 5"},
	{impl.Act{Op: impl.AKey}, "key 0 0 0"},
	{impl.Act{Op: impl.AKey, A: 15, B: 15, C: 199}, "key 15 15 199"},
	{impl.Act{Op: impl.AKey, A: 7, B: 5, C: 3}, "key 7 5 3"},
	{impl.Act{Op: impl.AVal}, "val 0 0 0"},
	{impl.Act{Op: impl.AVal, A: 15, B: 15, C: 199}, "val 15 15 199"},
	{impl.Act{Op: impl.AVal, A: 7, B: 5, C: 3}, "val 7 5 3"},
	{impl.Act{Op: impl.ASetKey}, "setkey 0 0 0"},
	{impl.Act{Op: impl.ASetKey, A: 15, B: 15, C: 199}, "setkey 15 15 199"},
	{impl.Act{Op: impl.ASetKey, A: 7, B: 5, C: 3}, "setkey 7 5 3"},
	{impl.Act{Op: impl.ASetVal}, "setval 0 0 0"},
	{impl.Act{Op: impl.ASetVal, A: 15, B: 15, C: 199}, "setval 15 15 199"},
	{impl.Act{Op: impl.ASetVal, A: 7, B: 5, C: 3}, "setval 7 5 3"},
	{impl.Act{Op: impl.AGrow}, "grow 0 0"},
	{impl.Act{Op: impl.AGrow, A: 15, C: 200}, "grow 15 200"},
	{impl.Act{Op: impl.AGrow, A: 7, C: 3}, "grow 7 3"},
	{impl.Act{Op: impl.ACut}, "cut 0 0"},
	{impl.Act{Op: impl.ACut, A: 15, C: 200}, "cut 15 200"},
	{impl.Act{Op: impl.ACut, A: 7, C: 3}, "cut 7 3"},
	{impl.Act{Op: impl.AWeak}, "weak 0 0"},
	{impl.Act{Op: impl.AWeak, A: 15, C: 3}, "weak 15 3"},
	{impl.Act{Op: impl.AWeak, A: 7, C: 2}, "weak 7 2"},
	{impl.Act{Op: impl.ALast}, "last 0 0"},
	{impl.Act{Op: impl.ALast, A: 15, C: 1}, "last 15 1"},
	{impl.Act{Op: impl.ALast, A: 7, C: 1}, "last 7 1"},
	{impl.Act{Op: impl.ASame}, "same 0 0"},
	{impl.Act{Op: impl.ASame, A: 15, B: 15}, "same 15 15"},
	{impl.Act{Op: impl.ASame, A: 7, B: 5}, "same 7 5"},
	{impl.Act{Op: impl.AWord}, "word 0"},
	{impl.Act{Op: impl.AWord, A: 15}, "word 15"},
	{impl.Act{Op: impl.AWord, A: 7}, "word 7"},
	{impl.Act{Op: impl.ANumber}, "number 0"},
	{impl.Act{Op: impl.ANumber, A: 15}, "number 15"},
	{impl.Act{Op: impl.ANumber, A: 7}, "number 7"},
	{impl.Act{Op: impl.AKind}, "kind 0"},
	{impl.Act{Op: impl.AKind, A: 15}, "kind 15"},
	{impl.Act{Op: impl.AKind, A: 7}, "kind 7"},
	{impl.Act{Op: impl.ASize}, "size 0"},
	{impl.Act{Op: impl.ASize, A: 15}, "size 15"},
	{impl.Act{Op: impl.ASize, A: 7}, "size 7"},
	{impl.Act{Op: impl.ASettle}, "settle"},
	{impl.Act{Op: impl.ADue}, "due 0"},
	{impl.Act{Op: impl.ADue, A: 15}, "due 15"},
	{impl.Act{Op: impl.ADue, A: 7}, "due 7"},
	{impl.Act{Op: impl.ACount}, "count"},
	{impl.Act{Op: impl.ALive}, "live"},
	{impl.Act{Op: impl.AStep}, "step 0"},
	{impl.Act{Op: impl.AStep, C: 100000}, "step 100000"},
	{impl.Act{Op: impl.AStep, C: 70}, "step 70"},
	{impl.Act{Op: impl.APace}, "pace 0 0"},
	{impl.Act{Op: impl.APace, B: 64, C: 4000}, "pace 64 4000"},
	{impl.Act{Op: impl.APace, B: 7, C: 5}, "pace 7 5"},
	{impl.Act{Op: impl.ARound}, "round"},
}

// wantTold asks that a script has this text, and the text this script.
func wantTold(t *testing.T, room int, acts []impl.Act, text string) {
	t.Helper()
	if got := impl.WriteScript(room, acts); got != text {
		t.Errorf("room %d, %d acts: %s, want %s", room, len(acts), shortly(got), shortly(text))
	}
	if got := slowWrite(room, acts); got != text {
		t.Errorf("room %d, %d acts, slowly: %s, want %s", room, len(acts), shortly(got), shortly(text))
	}
	if s := wantRead(t, "told", text); !sameScript(s, impl.Script{Ok: true, Room: room, Acts: acts}) {
		t.Errorf("%s: Ok %v, Line %d, Room %d, %d acts", shortly(text), s.Ok, s.Line, s.Room, len(s.Acts))
	}
}

func TestTellEachOp(t *testing.T) {
	var all []impl.Act
	text := "room 4000\n"
	for _, c := range toldActs {
		wantTold(t, 1, []impl.Act{c.act}, "room 1\n"+c.told+"\n")
		wantTold(t, 30, []impl.Act{c.act, c.act}, "room 30\n"+c.told+"\n"+c.told+"\n")
		all = append(all, c.act)
		text += c.told + "\n"
	}
	wantTold(t, 4000, all, text)
	for _, f := range fieldsOf {
		for _, a := range []impl.Act{{Op: f.op}, {Op: f.op, A: f.a, B: f.b, C: f.c}} {
			if !slices.Contains(all, a) {
				t.Errorf("not among them: %+v", a)
			}
		}
	}
}

// Every value of every field that an Op has, one field after the other.
func TestTellEachValue(t *testing.T) {
	for _, f := range fieldsOf {
		for _, high := range []impl.Act{{A: f.a}, {B: f.b}, {C: f.c}} {
			one := impl.Act{Op: f.op, A: min(high.A, 1), B: min(high.B, 1), C: min(high.C, 1)}
			for n := range 1 + max(high.A, high.B, high.C) {
				if f.op == impl.AStep && n > 300 && n%997 > 0 && n < 99900 {
					continue
				}
				a := impl.Act{Op: f.op, A: n * one.A, B: n * one.B, C: n * one.C}
				wantTold(t, 12, []impl.Act{a}, "room 12\n"+slowLine(a)+"\n")
			}
		}
	}
	for _, n := range []int64{0, 1, 9, 10, 99, 100, 1 << 31, 1 << 32, 1 << 53, math.MaxInt64 - 1, math.MaxInt64} {
		for _, n := range []int64{n, -n, -n - 1} {
			a := impl.Act{Op: impl.ANum, A: 11, N: n}
			wantTold(t, 12, []impl.Act{a}, "room 12\n"+slowLine(a)+"\n")
		}
	}
}

func TestTellRooms(t *testing.T) {
	acts, told := []impl.Act{{Op: impl.ALive}}, "live\n"
	wantTold(t, 1, nil, "room 1\n")
	wantTold(t, 1, []impl.Act{}, "room 1\n")
	wantTold(t, 4000, nil, "room 4000\n")
	for room := 1; room <= 4000; room++ {
		wantTold(t, room, acts, strings.Split(slowText(room, nil), "\n")[0]+"\n"+told)
	}
	for _, room := range []int{math.MinInt, -4000, -1, 0, 4001, 4002, 40000, 1<<32 + 1, math.MaxInt} {
		for _, acts := range [][]impl.Act{nil, {}, acts} {
			if got := impl.WriteScript(room, acts); got != "" {
				t.Errorf("room %d: %q", room, got)
			}
			if s := wantRead(t, "room", slowText(room, acts)); s.Ok || s.Line != 1 {
				t.Errorf("room %d: %+v", room, s)
			}
		}
	}
}

func TestTellLengths(t *testing.T) {
	for _, c := range toldActs {
		if len(c.told) > 18 {
			continue
		}
		for _, n := range []int{0, 1, 2, 999, 1000} {
			wantTold(t, 77, slices.Repeat([]impl.Act{c.act}, n), "room 77\n"+strings.Repeat(c.told+"\n", n))
		}
		for _, n := range []int{1001, 1002, 100000} {
			if got := impl.WriteScript(77, slices.Repeat([]impl.Act{c.act}, n)); got != "" {
				t.Errorf("%q, %d times: %s", c.told, n, shortly(got))
			}
		}
		if len(c.told) > 17 {
			continue
		}
		s := wantRead(t, "too many", "room 77\n"+strings.Repeat(c.told+"\n", 1001))
		if s.Ok || s.Line != 1002 {
			t.Errorf("%q, 1001 times: Ok %v, Line %d", c.told, s.Ok, s.Line)
		}
	}
}

// An act that is none keeps the whole script from being written, wherever it stands.
func TestNothingOfActsThatAreNone(t *testing.T) {
	good := []impl.Act{actOf(impl.ANew, 1, 2, 3), {Op: impl.ANum, A: 4, N: -5}, actOf(impl.ALive, 0, 0, 0)}
	for _, bad := range badActs() {
		for at := range len(good) + 1 {
			if got := impl.WriteScript(9, slices.Insert(slices.Clone(good), at, bad)); got != "" {
				t.Errorf("%+v at %d: %q", bad, at, got)
			}
		}
		if got := impl.WriteScript(9, []impl.Act{bad}); got != "" {
			t.Errorf("%+v: %q", bad, got)
		}
		many := slices.Repeat([]impl.Act{{Op: impl.ALive}}, 1000)
		for _, at := range []int{0, 500, 999} {
			many[at] = bad
			if got := impl.WriteScript(9, many); got != "" {
				t.Errorf("%+v at %d: %s", bad, at, shortly(got))
			}
			many[at] = impl.Act{Op: impl.ALive}
		}
	}
	unnamed := 0
	for _, f := range fieldsOf {
		for _, a := range []impl.Act{{Op: f.op, A: 1}, {Op: f.op, B: 1}, {Op: f.op, C: 1}, {Op: f.op, N: 1}} {
			named := a.A <= f.a && a.B <= f.b && a.C <= f.c && (a.N == 0 || f.op == impl.ANum)
			if got := impl.WriteScript(9, []impl.Act{a}); (got != "") != named {
				t.Errorf("%+v: %q", a, got)
			}
			if !named {
				unnamed++
			}
		}
	}
	if unnamed != 24*4-38 {
		t.Error(unnamed, "fields that are not named")
	}
}

// numAct has a line of that many bytes.
func numAct(size int) impl.Act {
	n := int64(0)
	for range size - len("num 0 \n") {
		n = n*10 + 3
	}
	return impl.Act{Op: impl.ANum, N: n}
}

// filling is a script with a text of that many bytes, most of whose lines have per bytes.
func filling(room, size, per int) []impl.Act {
	var acts []impl.Act
	size -= len(slowText(room, nil))
	for size >= per+8 {
		acts = append(acts, numAct(per))
		size -= per
	}
	if size > 20 {
		acts = append(acts, numAct(size-10))
		size = 10
	}
	return append(acts, numAct(size))
}

func TestTextsAtTheBound(t *testing.T) {
	for _, room := range []int{1, 99, 999, 1000, 4000} {
		for _, per := range []int{20, 21, 22, 25} {
			for _, size := range []int{15000, 19998, 19999, 20000, 20001, 20002, 20003} {
				acts := filling(room, size, per)
				text := slowText(room, acts)
				if len(text) != size || len(acts) > 1000 {
					t.Fatalf("room %d, %d a line: %d bytes, %d acts", room, per, len(text), len(acts))
				}
				if size <= impl.MaxText {
					wantTold(t, room, acts, text)
					continue
				}
				if got := impl.WriteScript(room, acts); got != "" {
					t.Errorf("room %d: %d bytes: %s", room, size, shortly(got))
				}
				if s := wantRead(t, "too long", text); s.Ok || s.Line != 0 {
					t.Errorf("room %d: %d bytes: Ok %v, Line %d", room, size, s.Ok, s.Line)
				}
			}
		}
	}
	longest := slices.Repeat([]impl.Act{{Op: impl.ANum, A: 15, N: math.MinInt64}}, 1000)
	if got := impl.WriteScript(4000, longest); got != "" {
		t.Error(shortly(got))
	}
	wantTold(t, 4000, longest[:713], "room 4000\n"+strings.Repeat("num 15 -9223372036854775808\n", 713))
	if got := impl.WriteScript(4000, longest[:714]); got != "" {
		t.Error(shortly(got))
	}
	if acts := filling(4000, impl.MaxText, 20); len(acts) != 1000 || impl.WriteScript(4000, acts) == "" {
		t.Errorf("%d acts, %d bytes", len(acts), len(impl.WriteScript(4000, acts)))
	}
}
