package tests

import (
	"fmt"
	"math"
	"slices"
	"strings"
	"testing"
	"time"

	"loop.example/spool/impl"
)

// slowAnswer is what Play and Live answer, told line by line.
func slowAnswer(room int, acts []impl.Act) string {
	p := impl.Play(room, acts)
	told := ""
	for _, a := range p.Ans {
		told += fmt.Sprintf("%d %d\n", a.Code, a.Num)
	}
	return told + fmt.Sprintf("live %d\n", slowUnits(p.Heap, slowReach(p.Heap)))
}

func TestAnswersByHand(t *testing.T) {
	list := []struct{ name, text, told string }{
		{"no acts", "room 7\n", "live 0\n"},
		{"no acts, the greatest room", "room 4000\n", "live 0\n"},
		{"one", "room 7\nnew 0 1 2\n", "0 0\nlive 3\n"},
		{"numbers", "room 1\nnum 0 -9223372036854775808\nnumber 0\nnum 15 9223372036854775807\nnumber 15\nnum 3 0\nnumber 3\nnum 3 -1\nnumber 3\n", "0 0\n0 -9223372036854775808\n0 0\n0 9223372036854775807\n0 0\n0 0\n0 0\n0 -1\nlive 0\n"},
		{"each Code", "room 6\nkind 0\nnumber 0\nnew 0 9 1\nval 1 0 1\nsetkey 0 0 199\ngrow 0 200\ngrow 0 199\nnew 1 0 200\nkind 0\n", "2 0\n2 0\n0 0\n3 0\n3 0\n5 0\n4 0\n4 0\n0 9\nlive 2\n"},
		{"filled", "room 3\nnew 0 0 2\nnew 1 0 0\nlive\ncut 0 1\nnew 1 0 0\nlive\n", "0 0\n4 0\n0 3\n0 0\n0 0\n0 3\nlive 3\n"},
		{"what is let go of is not alive, though nobody has swept", "room 30\nnew 0 1 4\nnil 0\nnew 0 1 1\n", "0 0\n0 0\n0 0\nlive 2\n"},
		{"nor when a round has been", "room 30\nnew 0 1 4\nnil 0\nnew 0 1 1\nround\n", "0 0\n0 0\n0 0\n0 0\nlive 2\n"},
		{"what wants a last word is alive, though not held", "room 30\nnew 0 1 4\nlast 0 1\nnil 0\ncount\nlive\n", "0 0\n0 0\n0 0\n0 0\n0 5\nlive 5\n"},
		{"what is held weakly is alive", "room 30\nnew 0 1 1\nweak 0 1\nnew 1 2 3\nsetkey 0 1 0\nnil 1\ncount\n", "0 0\n0 0\n0 0\n0 0\n0 0\n0 2\nlive 6\n"},
		{"and goes at a settling", "room 30\nnew 0 1 1\nweak 0 1\nnew 1 2 3\nsetkey 0 1 0\nnil 1\nsettle\nsize 0\n", "0 0\n0 0\n0 0\n0 0\n0 0\n0 0\n0 0\nlive 1\n"},
		{"last words", "room 30\nnew 0 7 0\nlast 0 1\nnew 1 8 0\nlast 1 1\nnil 1\nnil 0\nsettle\ndue 2\nkind 2\ndue 2\nkind 2\ndue 2\nword 2\n", "0 0\n0 0\n0 0\n0 0\n0 0\n0 0\n0 2\n0 1\n0 7\n0 1\n0 8\n0 0\n0 0\nlive 0\n"},
		{"words", "room 30\nnew 0 7 0\nnum 1 3\ncopy 2 0\nsame 0 2\nsame 0 1\nword 0\nword 1\nword 9\n", "0 0\n0 0\n0 0\n0 1\n0 0\n0 2\n0 1\n0 0\nlive 1\n"},
		{"the collector", "room 30\nstep 0\nstep 100000\npace 64 4000\nround\n", "0 0\n0 0\n0 0\n0 0\nlive 0\n"},
	}
	for _, c := range list {
		if got := impl.Answer(c.text); got != c.told {
			t.Errorf("%s: %q, want %q", c.name, got, c.told)
		}
	}
}

// The table of lines: each answers a line in a script, whatever it answers.
func TestAnswersOfEachOp(t *testing.T) {
	for _, c := range toldActs {
		acts := []impl.Act{actOf(impl.ANew, 15, 3, 2), c.act, actOf(impl.AWord, 15, 0, 0), c.act}
		got := impl.Answer("room 205\nnew 15 3 2\n" + c.told + "\nword 15\n" + c.told + "\n")
		if want := slowAnswer(205, acts); got != want || strings.Count(got, "\n") != 5 {
			t.Errorf("%s: %q, want %q", c.told, got, want)
		}
	}
}

// Promise P14, on many drawn scripts.
func TestAnswersOfDrawnScripts(t *testing.T) {
	d := dice(75)
	var n shows
	var swept, held int
	for i := range 1200 {
		room := 1 + d.below(1+d.below(60))
		wide := i%20 == 0
		if wide {
			room = 4000 - d.below(3000)
		}
		acts := tellable(&d, room, d.below(200), wide)
		text := impl.WriteScript(room, acts)
		if got, want := impl.Answer(text), slowAnswer(room, acts); text == "" || got != want {
			t.Fatalf("%s: %s, want %s", shortly(text), shortly(got), shortly(want))
		}
		p := impl.Play(room, acts)
		n.add(acts, p, impl.Ideally(room, acts))
		if impl.Live(p.Heap) != p.Heap.Used {
			swept++
		}
		if impl.Live(p.Heap) != impl.Counted(p.Heap) {
			held++
		}
		n.phases[p.Heap.Phase]++
	}
	// A text has no acts that are none.
	n.codes[impl.NotAct] += 100
	n.check(t, 8)
	if swept < 200 || held < 200 {
		t.Error(swept, "heaps with cells that are not alive,", held, "with cells that are not held")
	}
}

// Any text that is not read is answered with its line.
func TestAnswersOfDrawnTexts(t *testing.T) {
	d := dice(76)
	read, faults := 0, 0
	for range 3000 {
		room := 1 + d.below(60)
		text := changed(&d, slowWrite(room, tellable(&d, room, d.below(30), false)))
		got := impl.Answer(text)
		if s := slowRead(text); s.Ok {
			read++
			if want := slowAnswer(s.Room, s.Acts); got != want {
				t.Fatalf("%s: %s, want %s", shortly(text), shortly(got), shortly(want))
			}
		} else {
			faults++
			if want := fmt.Sprintf("fault %d\n", s.Line); got != want {
				t.Fatalf("%s: %s, want %s", shortly(text), shortly(got), shortly(want))
			}
		}
	}
	if read < 100 || faults < 1000 {
		t.Error(read, "read,", faults, "faults")
	}
}

// Answers at the lines that a fault can have.
func TestFaultsAsAnswers(t *testing.T) {
	for text, told := range map[string]string{
		"":                         "fault 1\n",
		"\n":                       "fault 1\n",
		"room 0\n":                 "fault 1\n",
		"room 7":                   "fault 1\n",
		"room 7\nnew 0 0\n":        "fault 2\n",
		"room 7\nlive\nlive":       "fault 3\n",
		"room 7\nlive\n\nlive\n":   "fault 3\n",
		strings.Repeat(" ", 20001): "fault 0\n",
		"room 7\n" + strings.Repeat("live\n", 1001):                "fault 1002\n",
		"room 7\n" + strings.Repeat("live\n", 1000) + "x":          "fault 1002\n",
		"room 7\n" + strings.Repeat("live\n", 998) + "x\n":         "fault 1000\n",
		"room 7\n" + strings.Repeat("live\n", 8) + "live \nlive\n": "fault 10\n",
	} {
		if got := impl.Answer(text); got != told {
			t.Errorf("%s: %s, want %q", shortly(text), shortly(got), told)
		}
	}
}

// Texts at the bound, of acts that take long and of none: each within seconds.
func TestGreatTexts(t *testing.T) {
	chain := chainActs(0, 1, 120, 1, true)
	crowd := slices.Repeat([]impl.Act{actOf(impl.ANew, 0, 0, 0), actOf(impl.ALast, 0, 0, 1)}, 350)
	wide := slices.Repeat([]impl.Act{actOf(impl.ANew, 10, 0, 200), actOf(impl.ASetVal, 10, 0, 199), actOf(impl.ASetKey, 10, 10, 0), actOf(impl.ACopy, 0, 10, 0)}, 19)
	for _, begin := range [][]impl.Act{nil, chain, crowd, wide} {
		for _, a := range []impl.Act{actOf(impl.ASettle, 0, 0, 0), actOf(impl.ARound, 0, 0, 0), actOf(impl.AStep, 0, 0, impl.MaxStep), actOf(impl.ANew, 11, 100, 200), actOf(impl.AGrow, 10, 0, 100), actOf(impl.ACount, 0, 0, 0), {Op: impl.ANum, A: 15, N: math.MinInt64}} {
			acts := slices.Concat(begin, slices.Repeat([]impl.Act{a}, impl.MaxActs-len(begin)))
			for impl.WriteScript(impl.MaxRoom, acts) == "" {
				acts = acts[:len(acts)-1]
			}
			text := impl.WriteScript(impl.MaxRoom, acts)
			began := time.Now()
			got := impl.Answer(text)
			if took := time.Since(began); took > 4*time.Second {
				t.Errorf("%d acts and then %+v: %v", len(begin), a, took)
			}
			if got != slowAnswer(impl.MaxRoom, acts) {
				t.Errorf("%d acts and then %+v: %s", len(begin), a, shortly(got))
			}
		}
	}
	began := time.Now()
	for _, b := range []string{" ", "\n", "0", "a", "\x00", "\xff", "live\n", "live ", "0 ", "room 1\n", "-"} {
		for _, begin := range []string{"", "room 1", "room 7\n", "room 7\nnum 0 ", "room 7\nnew "} {
			text := begin + strings.Repeat(b, (impl.MaxText-len(begin))/len(b))
			wantRead(t, "great", text)
			impl.Answer(text)
		}
	}
	if took := time.Since(began); took > 4*time.Second {
		t.Error("texts that are none:", took)
	}
}

func TestChapter7LeavesArguments(t *testing.T) {
	d := dice(77)
	for range 400 {
		room := 1 + d.below(50)
		acts, memory := padding(tellable(&d, room, d.below(120), false))
		if d.below(4) == 0 {
			acts, memory = padding(scriptOf(&d, d.below(40), false))
		}
		before := slices.Clone(memory)
		text := impl.WriteScript(room, acts)
		if again := impl.WriteScript(room, acts); again != text {
			t.Fatalf("WriteScript: the same argument, another answer: %+v", acts)
		}
		impl.WriteScript(0, acts)
		if !slices.Equal(memory, before) {
			t.Fatalf("the argument was changed: %+v", before)
		}
		for _, text := range []string{text, changed(&d, text)} {
			kept := strings.Clone(text)
			s, told := impl.ReadScript(text), impl.Answer(text)
			if !sameScript(s, impl.ReadScript(text)) || impl.Answer(text) != told {
				t.Fatalf("the same argument, another answer: %s", shortly(text))
			}
			if text != kept {
				t.Fatalf("the argument was changed: %s", shortly(kept))
			}
		}
	}
}

// What is written into the acts that were read is seen in no other answer, and in no later one.
func TestChapter7SharesNothing(t *testing.T) {
	d := dice(78)
	for range 200 {
		room := 1 + d.below(50)
		acts := tellable(&d, room, 1+d.below(80), false)
		text, told := impl.WriteScript(room, acts), slowAnswer(room, acts)
		a, b := impl.ReadScript(text), impl.ReadScript(text)
		scribble(a.Acts, impl.Act{Op: 123, N: 123})
		if !slices.Equal(b.Acts, acts) {
			t.Fatalf("two answers share memory: %s", shortly(text))
		}
		if s := impl.ReadScript(text); !slices.Equal(s.Acts, acts) || impl.Answer(text) != told {
			t.Fatalf("a later answer is another: %s", shortly(text))
		}
		given := slices.Clone(acts)
		text = impl.WriteScript(room, given)
		kept := strings.Clone(text)
		scribble(given, impl.Act{Op: 123})
		if text != kept {
			t.Fatalf("the text shares memory with the acts: %s", shortly(kept))
		}
	}
}
