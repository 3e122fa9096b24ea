package tests

import (
	"slices"
	"testing"

	"loop.example/spool/impl"
)

// The registers of the scripts of promise P10: the cell at hand, the one that holds them all, what is told, where it is stored away.
const (
	rHand  = 0
	rAll   = 1
	rTold  = 2
	rStore = 3
)

// speakersMade makes n cells of the Kinds 0 up that want a last word, each of which leads to one of Kind 100 and up; one cell holds them all.
func speakersMade(n int) []line {
	lines := []line{newCell(rAll, 200, n), newCell(rStore, 201, n)}
	for i := range n {
		lines = append(lines, newCell(rHand, i, 1), newCell(rTold, 100+i, 0), doing(impl.ASetVal, rHand, rTold, 0), doing(impl.ALast, rHand, 0, 1), doing(impl.ASetVal, rAll, rHand, i))
	}
	return append(lines, letGo(rHand), letGo(rTold))
}

// toldInOrder asks for the last words of these cells, one behind the other.
func toldInOrder(kinds []int) []line {
	var lines []line
	for _, k := range kinds {
		lines = append(lines, asked(impl.ADue, rTold, 1), asked(impl.AKind, rTold, int64(k)))
	}
	return append(lines, asked(impl.ADue, rTold, 0), asked(impl.AWord, rTold, impl.WNil))
}

func upTo(n int) []int {
	list := make([]int, n)
	for i := range list {
		list[i] = i
	}
	return list
}

// wantLines plays the lines in both stores, with acts of the collector put in between, as many as a script can have.
func wantLines(t *testing.T, name string, d *dice, lines []line, one func() impl.Act) {
	t.Helper()
	acts, want := parts(lines)
	if one != nil {
		acts = mixed(d, acts, one)
	}
	p, _ := wantIdeal(t, name, 1000, acts)
	if i := differs(othersOf(acts, p.Ans), want); i >= 0 {
		t.Fatalf("%s: at act %d %+v: %+v, want %+v", name, i, lines[i].act, othersOf(acts, p.Ans)[i], want[i])
	}
}

// collectors are ways in which the collector may work in between.
func collectors(d *dice) []func() impl.Act {
	return []func() impl.Act{
		nil,
		func() impl.Act { return actOf(impl.ARound, 0, 0, 0) },
		func() impl.Act { return actOf(impl.AStep, 0, 0, 1) },
		func() impl.Act { return actOf(impl.AStep, 0, 0, d.below(40)) },
		func() impl.Act { return actOf(impl.APace, 0, d.below(10), d.below(20)) },
		func() impl.Act { return collectorAct(d) },
	}
}

// Promise P10, let go of at once: with the cell that holds them, or one behind the other ahead of one settling.
func TestLastWordsAtOnce(t *testing.T) {
	d := dice(41)
	for n := 1; n <= 40; n++ {
		byHolder := []line{letGo(rAll)}
		byCut := []line{doing(impl.ACut, rAll, 0, 0)}
		var byPair []line
		for _, i := range d.shuffled(n) {
			byPair = append(byPair, doing(impl.ASetVal, rAll, 9, i))
		}
		for _, let := range [][]line{byHolder, byCut, byPair} {
			lines := slices.Concat(speakersMade(n), let, []line{asked(impl.ADue, rTold, 0), settles(int64(n)), settles(0)}, toldInOrder(upTo(n)), []line{settles(0)})
			for _, one := range collectors(&d) {
				wantLines(t, "at once", &d, lines, one)
			}
		}
	}
}

// Promise P10, let go of one by one in any order, with settlings in between: by the order of making among those that are due.
func TestLastWordsOneByOne(t *testing.T) {
	d := dice(42)
	for n := 1; n <= 40; n++ {
		order := d.shuffled(n)
		late, soon, some := speakersMade(n), speakersMade(n), speakersMade(n)
		var due, waiting []int
		for _, i := range order {
			let := doing(impl.ASetVal, rAll, 9, i)
			late = append(late, let, settles(1), settles(0))
			soon = append(soon, let, settles(1))
			soon = append(soon, toldInOrder([]int{i})...)
			some = append(some, let)
			waiting = append(waiting, i)
			if d.below(3) == 0 {
				some = append(some, settles(int64(len(waiting))))
				due = append(due, waiting...)
				waiting = nil
			}
			if d.below(4) == 0 {
				slices.Sort(due)
				some = append(some, toldInOrder(due)...)
				due = nil
			}
		}
		late = append(late, toldInOrder(upTo(n))...)
		slices.Sort(due)
		some = append(some, toldInOrder(due)...)
		for _, one := range collectors(&d) {
			wantLines(t, "all told in the end", &d, late, one)
			wantLines(t, "told one by one", &d, soon, one)
			wantLines(t, "told now and then", &d, some, one)
		}
	}
}

// Promise P10, stored away at the last word: alive with all that it leads to, and not told again.
func TestStoredAwayAtTheLastWord(t *testing.T) {
	d := dice(43)
	for n := 1; n <= 40; n++ {
		lines := append(speakersMade(n), letGo(rAll), settles(int64(n)))
		stored := []int{}
		for i := range n {
			lines = append(lines, asked(impl.ADue, rTold, 1))
			if d.below(2) == 0 {
				lines = append(lines, doing(impl.ASetVal, rStore, rTold, i))
				stored = append(stored, i)
			}
		}
		lines = append(lines, asked(impl.ADue, rTold, 0), settles(0), asked(impl.ADue, rTold, 0))
		units := int64(1 + n + 3*len(stored))
		lines = append(lines, counted(units), live(units))
		for _, i := range stored {
			lines = append(lines, doing(impl.AVal, 4, rStore, i), asked(impl.AKind, 4, int64(i)), doing(impl.AVal, 4, 4, 0), asked(impl.AKind, 4, int64(100+i)))
		}
		lines = append(lines, letGo(4), settles(0), counted(units), doing(impl.ACut, rStore, 0, 0), settles(0), asked(impl.ADue, rTold, 0), live(1))
		for _, one := range collectors(&d) {
			wantLines(t, "stored away", &d, lines, one)
		}
	}
}

// quarters draws a script for promise P12: the pace first, no act of the collector's behind it, none that leaves more than a quarter of the room Live.
func quarters(d *dice, room, start, taste int) []impl.Act {
	s := &draft{d: d, heap: impl.Heap{Regs: make([]impl.Word, impl.MaxRegs)}}
	acts := []impl.Act{actOf(impl.APace, 0, impl.MaxPer, start)}
	s.add(acts...)
	h := impl.Do(impl.Fresh(room), acts[0]).Heap
	for len(acts) < impl.MaxActs {
		a := quarterAct(s, taste)
		done := impl.Do(h, a)
		if slowWants(a) > 0 && impl.Live(done.Heap) > room/4 {
			a = actOf(impl.ANil, d.below(impl.MaxRegs), 0, 0)
			if d.below(3) == 0 {
				a = actOf(impl.ASettle, 0, 0, 0)
			}
			done = impl.Do(h, a)
		}
		h = done.Heap
		s.add(a)
		acts = append(acts, a)
	}
	return acts
}

// quarterAct makes much: by great cells, by small ones, by pairs, or by anything.
func quarterAct(s *draft, taste int) impl.Act {
	d := s.d
	r := d.below(impl.MaxRegs)
	if d.below(5) == 0 {
		return s.act(impl.ANew + d.below(impl.ALive))
	}
	switch taste {
	case 0:
		return actOf(impl.ANew, r, 1, 150+d.below(51))
	case 1:
		return actOf(impl.ANew, r, 1, d.below(8))
	case 2:
		if d.below(2) == 0 {
			return actOf(impl.ACut, d.below(4), 0, 0)
		}
		return actOf(impl.AGrow, d.below(4), 0, 100+d.below(101))
	}
	if d.below(4) == 0 {
		return actOf(impl.ASetVal, r, d.below(impl.MaxRegs), d.below(3))
	}
	return actOf(impl.ANew, r, 1, d.below(1+d.below(201)))
}

// Promise P12: no making is forced. Without the pace, or with a small one, the same scripts force many.
func TestNoMakingIsForced(t *testing.T) {
	d := dice(44)
	without, slack, ended := 0, 0, 0
	for _, room := range []int{3000, 3500, 4000} {
		for _, start := range []int{0, 1, room / 8, room / 4} {
			for taste := range 4 {
				acts := quarters(&d, room, start, taste)
				p, _ := wantIdeal(t, "paced", room, acts)
				if p.Heap.Forced != 0 {
					t.Fatalf("room %d, Start %d: Forced %d: %+v", room, start, p.Heap.Forced, acts)
				}
				for i, a := range p.Ans {
					if a.Code == impl.NotRoom {
						t.Fatalf("room %d, Start %d: no room at act %d: %+v", room, start, i, acts)
					}
				}
				ended += p.Heap.Rounds
				without += impl.Play(room, acts[1:]).Heap.Forced
				acts[0].B = 1
				slack += impl.Play(room, acts).Heap.Forced
			}
		}
	}
	if without < 300 || slack < 50 || ended < 3000 {
		t.Error(without, "forced without a pace,", slack, "with a small one,", ended, "rounds")
	}
}

// The scripts that come nearest: a quarter of the room Live all the time, and all that can be made on top of it let go of at once.
func TestNoMakingIsForcedAtTheQuarter(t *testing.T) {
	for _, room := range []int{3000, 3500, 4000} {
		for _, start := range []int{0, room / 8, room / 4} {
			for size := range 5 {
				size *= 50
				kept := []impl.Act{actOf(impl.APace, 0, impl.MaxPer, start), actOf(impl.ANew, 0, 0, 199)}
				for live := 200; live+200+1+size <= room/4; live += 200 {
					kept = append(kept, actOf(impl.ANew, 1, 0, 199), actOf(impl.ASetVal, 1, 0, 0), actOf(impl.ACopy, 0, 1, 0), actOf(impl.ANil, 1, 0, 0))
				}
				acts := append(kept, slices.Repeat([]impl.Act{actOf(impl.ANew, 2, 0, size), actOf(impl.ANil, 2, 0, 0)}, (impl.MaxActs-len(kept))/2)...)
				p, _ := wantIdeal(t, "at the quarter", room, acts)
				if p.Heap.Forced != 0 || impl.Live(p.Heap) > room/4 || impl.Live(p.Heap) < room/4-450 {
					t.Errorf("room %d, Start %d, cells of %d pairs: Forced %d, Live %d", room, start, size, p.Heap.Forced, impl.Live(p.Heap))
				}
				if slack := impl.Play(room, acts[1:]).Heap; size > 0 && slack.Forced == 0 {
					t.Errorf("room %d, Start %d, cells of %d pairs: never forced without a pace", room, start, size)
				}
			}
		}
	}
}
