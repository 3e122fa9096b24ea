package tests

import (
	"math"
	"testing"

	"loop.example/spool/impl"
)

// The table of the chapter: the greatest value of each field, 0 where it is not named.
var fieldsOf = []struct{ op, a, b, c int }{
	{impl.ANew, 15, 255, 200},
	{impl.ANum, 15, 0, 0},
	{impl.ANil, 15, 0, 0},
	{impl.ACopy, 15, 15, 0},
	{impl.AKey, 15, 15, 199},
	{impl.AVal, 15, 15, 199},
	{impl.ASetKey, 15, 15, 199},
	{impl.ASetVal, 15, 15, 199},
	{impl.AGrow, 15, 0, 200},
	{impl.ACut, 15, 0, 200},
	{impl.AWeak, 15, 0, 3},
	{impl.ALast, 15, 0, 1},
	{impl.ASame, 15, 15, 0},
	{impl.AWord, 15, 0, 0},
	{impl.ANumber, 15, 0, 0},
	{impl.AKind, 15, 0, 0},
	{impl.ASize, 15, 0, 0},
	{impl.ASettle, 0, 0, 0},
	{impl.ADue, 15, 0, 0},
	{impl.ACount, 0, 0, 0},
	{impl.ALive, 0, 0, 0},
	{impl.AStep, 0, 0, 100000},
	{impl.APace, 0, 64, 4000},
	{impl.ARound, 0, 0, 0},
}

// about are values in range and beside it.
func about(high int) []int {
	return []int{math.MinInt, -1, 0, 1, high / 2, high - 1, high, high + 1, 1000000, 1 << 32, math.MaxInt}
}

func TestActOkFieldByField(t *testing.T) {
	ok := 0
	for i, f := range fieldsOf {
		if f.op != i+1 {
			t.Fatalf("row %d has Op %d", i, f.op)
		}
		in := func(n, high int) bool { return n >= 0 && n <= high }
		for _, a := range about(f.a) {
			for _, b := range about(f.b) {
				for _, c := range about(f.c) {
					act := impl.Act{Op: f.op, A: a, B: b, C: c}
					want := in(a, f.a) && in(b, f.b) && in(c, f.c)
					if impl.ActOk(act) != want || slowActOk(act) != want {
						t.Fatalf("%+v: %v", act, !want)
					}
					if want {
						ok++
					}
				}
			}
		}
		for _, n := range []int64{math.MinInt64, -1, 1, 7, 1 << 32, math.MaxInt64} {
			if impl.ActOk(impl.Act{Op: f.op, A: f.a, B: f.b, C: f.c, N: n}) != (f.op == impl.ANum) {
				t.Errorf("Op %d with N %d", f.op, n)
			}
		}
	}
	if ok < 1000 {
		t.Error(ok, "acts are ok")
	}
}

// badActs are none, each for one reason.
func badActs() []impl.Act {
	var list []impl.Act
	for _, op := range []int{math.MinInt, -1 << 32, -24, -1, 0, 25, 26, 255, 1<<32 + 1, math.MaxInt} {
		list = append(list, impl.Act{Op: op}, impl.Act{Op: op, A: 1, B: 1, C: 1, N: 1})
	}
	for _, f := range fieldsOf {
		list = append(list,
			impl.Act{Op: f.op, A: -1}, impl.Act{Op: f.op, A: f.a + 1}, impl.Act{Op: f.op, A: math.MaxInt},
			impl.Act{Op: f.op, B: -1}, impl.Act{Op: f.op, B: f.b + 1}, impl.Act{Op: f.op, B: math.MinInt},
			impl.Act{Op: f.op, C: -1}, impl.Act{Op: f.op, C: f.c + 1}, impl.Act{Op: f.op, C: 1 << 32})
		if f.op != impl.ANum {
			list = append(list, impl.Act{Op: f.op, N: 1}, impl.Act{Op: f.op, N: math.MinInt64})
		}
	}
	return list
}

func TestActsThatAreNone(t *testing.T) {
	heaps := append(soundHeaps(), named{"full", with(heapNamed(t, "idle, full"), func(h *impl.Heap) { h.Room = h.Used })})
	for _, a := range badActs() {
		if impl.ActOk(a) {
			t.Errorf("%+v is ok", a)
		}
		for _, s := range heaps {
			got := impl.Do(s.heap, a)
			if got.Ans != (impl.Ans{Code: impl.NotAct}) || !sameHeap(got.Heap, s.heap) {
				t.Errorf("%s: %+v: %+v", s.name, a, got)
			}
		}
	}
}

func TestDoWhereTheHeapIsNotSound(t *testing.T) {
	for rule, h := range spoiledByRule(t) {
		wantRule(t, "spoiled", h, rule)
		wantNotDone(t, "spoiled", h)
		for _, f := range fieldsOf {
			got := impl.Do(h, impl.Act{Op: f.op})
			wantZeroHeap(t, "spoiled", got.Heap)
			if got.Ans != (impl.Ans{}) {
				t.Errorf("Op %d: %+v", f.op, got.Ans)
			}
		}
		for _, a := range badActs() {
			if got := impl.Do(h, a); got.Ans != (impl.Ans{}) || got.Heap.Room != 0 {
				t.Errorf("%+v: %+v", a, got)
			}
		}
	}
	wantNotDone(t, "zero value", impl.Heap{})
	wantNotDone(t, "a word that is far off", heapWithWord(at(1<<60)))
	wantNotDone(t, "a million cells", impl.Heap{Room: 4000, Regs: make([]impl.Word, impl.MaxRegs), Cells: make([]impl.Cell, 1000000)})
	for _, name := range []string{"move, midway", "mend, midway", "close, midway"} {
		h := clone(heapNamed(t, name))
		for place, c := range h.Cells {
			if c.State == impl.SMoved {
				h.Regs[3] = at(place)
			}
		}
		wantRule(t, "a register that holds the place of a moved cell", h, 4)
		wantNotDone(t, name, h)
	}
}

// One act: a heap, the act, what it answers, and all that differs behind it.
type acting struct {
	name   string
	heap   impl.Heap
	act    impl.Act
	ans    impl.Ans
	behind func(h *impl.Heap)
}

func checkActing(t *testing.T, list []acting) {
	t.Helper()
	for _, c := range list {
		wantRule(t, c.name, c.heap, 0)
		want := clone(c.heap)
		c.behind(&want)
		got := impl.Do(c.heap, c.act)
		if got.Ans != c.ans || !sameHeap(got.Heap, want) {
			t.Errorf("%s: %+v:\n%+v, want %+v and\n%+v", c.name, c.act, got, c.ans, want)
		}
		wantRule(t, c.name+", behind the act", got.Heap, 0)
		wantDone(t, c.name, c.heap, c.act)
	}
}

func actOf(op, a, b, c int) impl.Act { return impl.Act{Op: op, A: a, B: b, C: c} }

func code(n int) impl.Ans { return impl.Ans{Code: n} }

func says(n int64) impl.Ans { return impl.Ans{Num: n} }

func reg(r int, w impl.Word) func(h *impl.Heap) {
	return func(h *impl.Heap) { h.Regs[r] = w }
}

// desk has in its registers 0 and 4 the cell at 0, in 1 that at 1, in 2 and 5 the number 42, in 6 and 8 the numbers 0 and 1, in 7 the cell at 2, in 15 the number -1.
func desk() impl.Heap {
	h := led([]int{0, 1},
		kind(9, used(1, pair(num(5), at(1)), pair(at(2), none()), pair(none(), num(-7)))),
		kind(4, used(2)),
		kind(255, withLast(impl.LWants, used(3, pair(at(0), at(2))))),
		free(),
	)
	h.Regs[2], h.Regs[4], h.Regs[5], h.Regs[6], h.Regs[7], h.Regs[8], h.Regs[15] = num(42), at(0), num(42), num(0), at(2), num(1), num(-1)
	return h
}

func TestActsOnRegisters(t *testing.T) {
	h := desk()
	number := func(a int, n int64) acting {
		return acting{"a number", h, impl.Act{Op: impl.ANum, A: a, N: n}, says(0), reg(a, num(n))}
	}
	checkActing(t, []acting{
		number(3, 7), number(0, 0), number(15, math.MinInt64), number(2, math.MaxInt64), number(6, -1),
		{"nothing for a cell", h, actOf(impl.ANil, 0, 0, 0), says(0), reg(0, none())},
		{"nothing for a number", h, actOf(impl.ANil, 15, 0, 0), says(0), reg(15, none())},
		{"nothing for nothing", h, actOf(impl.ANil, 3, 0, 0), says(0), asItWas},
		{"a cell copied", h, actOf(impl.ACopy, 3, 7, 0), says(0), reg(3, at(2))},
		{"a number copied", h, actOf(impl.ACopy, 0, 15, 0), says(0), reg(0, num(-1))},
		{"nothing copied", h, actOf(impl.ACopy, 15, 9, 0), says(0), reg(15, none())},
		{"copied to itself", h, actOf(impl.ACopy, 1, 1, 0), says(0), asItWas},
		{"the word of nothing", h, actOf(impl.AWord, 3, 0, 0), says(impl.WNil), asItWas},
		{"the word of a number", h, actOf(impl.AWord, 6, 0, 0), says(impl.WNum), asItWas},
		{"the word of a cell", h, actOf(impl.AWord, 0, 0, 0), says(impl.WAt), asItWas},
		{"the number", h, actOf(impl.ANumber, 15, 0, 0), says(-1), asItWas},
		{"the number 0", h, actOf(impl.ANumber, 6, 0, 0), says(0), asItWas},
		{"the least number", with(h, reg(6, num(math.MinInt64))), actOf(impl.ANumber, 6, 0, 0), says(math.MinInt64), asItWas},
		{"the greatest number", with(h, reg(6, num(math.MaxInt64))), actOf(impl.ANumber, 6, 0, 0), says(math.MaxInt64), asItWas},
		{"no number in nothing", h, actOf(impl.ANumber, 3, 0, 0), code(impl.NotCell), asItWas},
		{"no number in a cell", h, actOf(impl.ANumber, 0, 0, 0), code(impl.NotCell), asItWas},
	})
	words := []int{0, 1, 2, 3, 4, 5, 6, 7, 8, 9, 15}
	for _, a := range words {
		for _, b := range words {
			same := int64(0)
			if h.Regs[a] == h.Regs[b] {
				same = 1
			}
			checkActing(t, []acting{{"same", h, actOf(impl.ASame, a, b, 0), says(same), asItWas}})
		}
	}
}

func TestActsOnPairs(t *testing.T) {
	h := desk()
	key := func(place, i int, w impl.Word) func(h *impl.Heap) {
		return func(h *impl.Heap) { h.Cells[place].Pairs[i].Key = w }
	}
	val := func(place, i int, w impl.Word) func(h *impl.Heap) {
		return func(h *impl.Heap) { h.Cells[place].Pairs[i].Val = w }
	}
	checkActing(t, []acting{
		{"a key that is a number", h, actOf(impl.AKey, 3, 0, 0), says(0), reg(3, num(5))},
		{"a key that is a cell", h, actOf(impl.AKey, 3, 4, 1), says(0), reg(3, at(2))},
		{"a key that is nothing", h, actOf(impl.AKey, 15, 0, 2), says(0), reg(15, none())},
		{"a value that is a cell", h, actOf(impl.AVal, 3, 0, 0), says(0), reg(3, at(1))},
		{"a value that is nothing", h, actOf(impl.AVal, 2, 0, 1), says(0), reg(2, none())},
		{"a value that is a number", h, actOf(impl.AVal, 3, 0, 2), says(0), reg(3, num(-7))},
		{"a key over its own cell", h, actOf(impl.AKey, 0, 0, 0), says(0), reg(0, num(5))},
		{"a value that is its own cell", h, actOf(impl.AVal, 0, 7, 0), says(0), reg(0, at(2))},
		{"a cell as key", h, actOf(impl.ASetKey, 0, 1, 2), says(0), key(0, 2, at(1))},
		{"a number as key", h, actOf(impl.ASetKey, 0, 15, 1), says(0), key(0, 1, num(-1))},
		{"nothing as key", h, actOf(impl.ASetKey, 4, 3, 0), says(0), key(0, 0, none())},
		{"a cell as value", h, actOf(impl.ASetVal, 7, 1, 0), says(0), val(2, 0, at(1))},
		{"a number as value", h, actOf(impl.ASetVal, 0, 2, 1), says(0), val(0, 1, num(42))},
		{"nothing as value", h, actOf(impl.ASetVal, 0, 9, 2), says(0), val(0, 2, none())},
		{"a cell in itself", h, actOf(impl.ASetKey, 0, 0, 0), says(0), key(0, 0, at(0))},
	})
	wide := led([]int{0}, used(1, make([]impl.Pair, impl.MaxPairs)...))
	wide.Regs[1] = num(8)
	checkActing(t, []acting{
		{"the last of many, set", wide, actOf(impl.ASetVal, 0, 1, 199), says(0), val(0, 199, num(8))},
		{"the last of many, asked", with(wide, key(0, 199, num(6))), actOf(impl.AKey, 2, 0, 199), says(0), reg(2, num(6))},
	})
}

func TestActsOnCells(t *testing.T) {
	h := desk()
	grow := func(place, n int) func(h *impl.Heap) {
		return func(h *impl.Heap) {
			h.Cells[place].Pairs = append(h.Cells[place].Pairs, make([]impl.Pair, n)...)
			h.Used += n
		}
	}
	cut := func(place, stay int) func(h *impl.Heap) {
		return func(h *impl.Heap) {
			h.Used -= len(h.Cells[place].Pairs) - stay
			h.Cells[place].Pairs = h.Cells[place].Pairs[:stay]
		}
	}
	last := func(place, n int) func(h *impl.Heap) {
		return func(h *impl.Heap) { h.Cells[place].Last = n }
	}
	checkActing(t, []acting{
		{"one pair comes behind others", h, actOf(impl.AGrow, 0, 0, 1), says(0), grow(0, 1)},
		{"pairs of one that had none", h, actOf(impl.AGrow, 1, 0, 200), says(0), grow(1, 200)},
		{"as many as can be", h, actOf(impl.AGrow, 0, 0, 197), says(0), grow(0, 197)},
		{"none come", h, actOf(impl.AGrow, 0, 0, 0), says(0), asItWas},
		{"all cut", h, actOf(impl.ACut, 0, 0, 0), says(0), cut(0, 0)},
		{"two cut", h, actOf(impl.ACut, 4, 0, 1), says(0), cut(0, 1)},
		{"one cut", h, actOf(impl.ACut, 0, 0, 2), says(0), cut(0, 2)},
		{"none cut", h, actOf(impl.ACut, 0, 0, 3), says(0), asItWas},
		{"there are fewer", h, actOf(impl.ACut, 0, 0, 4), says(0), asItWas},
		{"there are far fewer", h, actOf(impl.ACut, 0, 0, 200), says(0), asItWas},
		{"none there to cut", h, actOf(impl.ACut, 1, 0, 0), says(0), asItWas},
		{"the kind", h, actOf(impl.AKind, 0, 0, 0), says(9), asItWas},
		{"the greatest kind", h, actOf(impl.AKind, 7, 0, 0), says(255), asItWas},
		{"the size", h, actOf(impl.ASize, 0, 0, 0), says(3), asItWas},
		{"the size of none", h, actOf(impl.ASize, 1, 0, 0), says(0), asItWas},
	})
	for was := range 4 {
		for is := range 4 {
			from := with(h, func(h *impl.Heap) { h.Cells[0].Weak = was })
			checkActing(t, []acting{{"weak", from, actOf(impl.AWeak, 0, 0, is), says(0), func(h *impl.Heap) { h.Cells[0].Weak = is }}})
		}
		for is := range 2 {
			checkActing(t, []acting{{"last", with(h, last(0, was)), actOf(impl.ALast, 0, 0, is), says(0), last(0, is)}})
		}
	}
}

// The Codes, in the document's order where two would fit; nothing is done, and no room is made.
func TestCodesAndTheirOrder(t *testing.T) {
	full := with(desk(), func(h *impl.Heap) {
		h.Cells[1].Pairs = make([]impl.Pair, 200)
		h.Used += 200
		h.Room = h.Used
		h.Per, h.Start = 5, 0
	})
	var list []acting
	for _, r := range []int{2, 3, 6, 15} {
		for _, op := range []int{impl.ASetKey, impl.ASetVal, impl.AGrow, impl.ACut, impl.AWeak, impl.ALast, impl.AKind, impl.ASize} {
			list = append(list, acting{"no cell in A", full, actOf(op, r, 0, 0), code(impl.NotCell), asItWas})
		}
		for _, op := range []int{impl.AKey, impl.AVal, impl.ASetKey, impl.ASetVal} {
			a, b := r, 0
			if op == impl.AKey || op == impl.AVal {
				a, b = 0, r
			}
			list = append(list,
				acting{"no cell, and no pair 3", full, actOf(op, a, b, 3), code(impl.NotCell), asItWas},
				acting{"no cell, and no pair 199", full, actOf(op, a, b, 199), code(impl.NotCell), asItWas})
		}
		list = append(list,
			acting{"no cell, and no room", full, actOf(impl.AGrow, r, 0, 1), code(impl.NotCell), asItWas},
			acting{"no cell, and too long", full, actOf(impl.AGrow, r, 0, 200), code(impl.NotCell), asItWas})
	}
	for _, op := range []int{impl.AKey, impl.AVal, impl.ASetKey, impl.ASetVal} {
		for _, c := range []int{3, 4, 199} {
			list = append(list, acting{"no such pair", full, actOf(op, 0, 4, c), code(impl.NotPair), asItWas})
		}
		bare := with(full, func(h *impl.Heap) {
			h.Cells[1].Pairs = nil
			h.Used -= 200
		})
		list = append(list, acting{"no pairs", bare, actOf(op, 1, 1, 0), code(impl.NotPair), asItWas})
	}
	list = append(list,
		acting{"too long by one, and no room", full, actOf(impl.AGrow, 0, 0, 198), code(impl.TooLong), asItWas},
		acting{"too long by far, and no room", full, actOf(impl.AGrow, 0, 0, 200), code(impl.TooLong), asItWas},
		acting{"too long by one pair, and no room", full, actOf(impl.AGrow, 1, 0, 1), code(impl.TooLong), asItWas},
		acting{"as long as can be, with nothing more", full, actOf(impl.AGrow, 1, 0, 0), says(0), asItWas})
	checkActing(t, list)
	roomy := with(full, func(h *impl.Heap) { h.Room = 1000 })
	checkActing(t, []acting{{"too long by one, with room", roomy, actOf(impl.AGrow, 0, 0, 198), code(impl.TooLong), asItWas}})
}

// AKey and AVal want B's cell, whatever A holds; ASetKey and ASetVal want A's, whatever B holds.
func TestWhoseCellIsWanted(t *testing.T) {
	h := desk()
	for _, a := range []int{0, 1, 2, 3} {
		checkActing(t, []acting{
			{"A is written", h, actOf(impl.AKey, a, 0, 0), says(0), reg(a, num(5))},
			{"A is written", h, actOf(impl.AVal, a, 0, 2), says(0), reg(a, num(-7))},
			{"B has no cell", h, actOf(impl.AKey, a, 2, 0), code(impl.NotCell), asItWas},
			{"B has no pair 0", h, actOf(impl.AVal, a, 1, 0), code(impl.NotPair), asItWas},
		})
		set := func(h *impl.Heap) { h.Cells[0].Pairs[1].Val = h.Regs[a] }
		checkActing(t, []acting{{"B is read", h, actOf(impl.ASetVal, 0, a, 1), says(0), set}})
	}
}

// Unmended pairs that hold the places of moved cells, in PMove and in PMend; register 0 leads to the cell of these pairs, 1 and 2 to cells that have moved.
func unmended(phase int) impl.Heap {
	h := heapOf(phase,
		kind(7, used(1, pair(at(4), at(5)), pair(at(5), num(4)), pair(at(2), at(1)))),
		kind(8, used(2, pair(at(4), none()))),
		kind(6, used(3)),
		free(),
		moved(1),
		moved(2),
	)
	h.Regs[0], h.Regs[1], h.Regs[2], h.Regs[3] = at(0), at(1), at(2), num(4)
	return h
}

func TestActsWhereCellsHaveMoved(t *testing.T) {
	for _, phase := range []int{impl.PMove, impl.PMend} {
		h := unmended(phase)
		checkActing(t, []acting{
			{"a key", h, actOf(impl.AKey, 9, 0, 0), says(0), reg(9, at(1))},
			{"a value", h, actOf(impl.AVal, 9, 0, 0), says(0), reg(9, at(2))},
			{"a key in the midst", h, actOf(impl.AKey, 9, 0, 1), says(0), reg(9, at(2))},
			{"a number like a moved one's place", h, actOf(impl.AVal, 9, 0, 1), says(0), reg(9, num(4))},
			{"a key that holds the new place", h, actOf(impl.AKey, 9, 0, 2), says(0), reg(9, at(2))},
			{"a key that leads to its own cell", h, actOf(impl.AKey, 1, 1, 0), says(0), reg(1, at(1))},
			{"a key over such a place", h, actOf(impl.ASetKey, 0, 2, 0), says(0), func(h *impl.Heap) { h.Cells[0].Pairs[0].Key = at(2) }},
			{"a value over such a place", h, actOf(impl.ASetVal, 0, 1, 0), says(0), func(h *impl.Heap) { h.Cells[0].Pairs[0].Val = at(1) }},
			{"nothing over such a place", h, actOf(impl.ASetKey, 0, 8, 1), says(0), func(h *impl.Heap) { h.Cells[0].Pairs[1].Key = none() }},
			{"a key of one that has moved", h, actOf(impl.ASetKey, 1, 3, 0), says(0), func(h *impl.Heap) { h.Cells[1].Pairs[0].Key = num(4) }},
			{"pairs behind such a place", h, actOf(impl.AGrow, 0, 0, 1), says(0), func(h *impl.Heap) { h.Cells[0].Pairs, h.Used = append(h.Cells[0].Pairs, impl.Pair{}), 8 }},
			{"pairs of one that has moved", h, actOf(impl.AGrow, 2, 0, 1), says(0), func(h *impl.Heap) { h.Cells[2].Pairs, h.Used = []impl.Pair{{}}, 8 }},
			{"such pairs cut", h, actOf(impl.ACut, 0, 0, 1), says(0), func(h *impl.Heap) { h.Cells[0].Pairs, h.Used = h.Cells[0].Pairs[:1], 5 }},
			{"one that has moved cut", h, actOf(impl.ACut, 1, 0, 0), says(0), func(h *impl.Heap) { h.Cells[1].Pairs, h.Used = nil, 6 }},
			{"weak", h, actOf(impl.AWeak, 1, 0, 3), says(0), func(h *impl.Heap) { h.Cells[1].Weak = 3 }},
			{"last", h, actOf(impl.ALast, 2, 0, 1), says(0), func(h *impl.Heap) { h.Cells[2].Last = impl.LWants }},
			{"kind", h, actOf(impl.AKind, 2, 0, 0), says(6), asItWas},
			{"size", h, actOf(impl.ASize, 1, 0, 0), says(1), asItWas},
			{"other cells", h, actOf(impl.ASame, 1, 2, 0), says(0), asItWas},
		})
		for _, c := range []struct{ op, pair, same int }{{impl.AKey, 0, 1}, {impl.AVal, 0, 2}, {impl.AKey, 1, 2}, {impl.AVal, 2, 1}} {
			got := impl.Do(h, actOf(c.op, 9, 0, c.pair)).Heap
			for r := range 4 {
				want := int64(0)
				if r == c.same {
					want = 1
				}
				if ans := impl.Do(got, actOf(impl.ASame, r, 9, 0)).Ans; ans != says(want) {
					t.Errorf("Phase %d: pair %d and register %d: %+v", phase, c.pair, r, ans)
				}
			}
		}
	}
}

// In PMend a word goes into pairs that are mended and into others; both stay as they must be.
func TestPairsBesideTheMending(t *testing.T) {
	for hand := range 3 {
		for sub := range 3 {
			h := unmended(impl.PMend)
			h.Hand, h.Sub = hand, min(sub, len(h.Cells[hand].Pairs))
			for place := range 2 {
				for i := range h.Cells[place].Pairs {
					if place < hand || place == hand && i < h.Sub {
						slowMend(h, &h.Cells[place].Pairs[i])
					}
				}
			}
			wantRule(t, "mended so far", h, 0)
			for c := range 3 {
				for _, op := range []int{impl.AKey, impl.AVal, impl.ASetKey, impl.ASetVal} {
					wantDone(t, "beside the mending", h, actOf(op, 0, 0, c))
					wantDone(t, "beside the mending", h, actOf(op, 0, 2, c))
				}
			}
		}
	}
}

// An act at each unit of a round answers as it would ahead of it.
func TestActsAtEachUnit(t *testing.T) {
	h := led([]int{5, 4}, used(1), kind(3, used(2, pair(at(5), num(1)))), free(), used(3, pair(at(0), at(1))),
		kind(5, weak(1, used(4, pair(at(1), at(5)), pair(at(4), none())))),
		kind(6, withLast(impl.LWants, used(5, pair(at(4), at(1)), impl.Pair{}))))
	acts := []impl.Act{
		actOf(impl.AKey, 2, 0, 0), actOf(impl.AVal, 2, 0, 0), actOf(impl.AKind, 0, 0, 0), actOf(impl.ASize, 1, 0, 0),
		actOf(impl.ASetKey, 0, 1, 1), actOf(impl.ASetVal, 1, 0, 1), actOf(impl.AGrow, 0, 0, 2), actOf(impl.ACut, 1, 0, 1),
		actOf(impl.AWeak, 0, 0, 2), actOf(impl.ALast, 1, 0, 1), actOf(impl.ALast, 0, 0, 0), actOf(impl.ANew, 3, 9, 1),
		actOf(impl.ASame, 0, 1, 0), actOf(impl.ASettle, 0, 0, 0), actOf(impl.ADue, 0, 0, 0), actOf(impl.ACount, 0, 0, 0),
		actOf(impl.ALive, 0, 0, 0), actOf(impl.ANil, 0, 0, 0), actOf(impl.ACopy, 5, 1, 0), actOf(impl.AWord, 1, 0, 0),
	}
	moves := 0
	for units := range impl.Step(h, impl.MaxStep).Units + 1 {
		on := impl.Step(h, units).Heap
		if on.Regs[0] != h.Regs[0] {
			moves++
		}
		for _, a := range acts {
			got, want := wantDone(t, "at a unit", on, a), impl.Do(h, a)
			if got.Ans != want.Ans || !sameGraph(impl.Shape(got.Heap), impl.Shape(want.Heap)) {
				t.Errorf("%+v behind %d units: %+v, ahead of them %+v", a, units, got, want)
			}
			wantRounds(t, "behind an act at a unit", got.Heap)
		}
	}
	if moves < 5 {
		t.Error("the cell of register 0 moves at", moves)
	}
}

// written is a heap whose register 0 leads to a cell with a pair and 1 to another, in these colors; 2 has a number like its place, 3 nothing.
func written(phase, hand, table, target int) impl.Heap {
	h := heapOf(phase, colored(table, used(1, impl.Pair{})), colored(target, used(2)), free())
	h.Hand = hand
	h.Regs[0], h.Regs[1], h.Regs[2] = at(0), at(1), num(1)
	for place, c := range h.Cells {
		if c.Color == impl.CGray {
			h.Gray = append([]int{place}, h.Gray...)
		}
	}
	return h
}

// writtenHeaps has these in each Phase, in all colors that it allows.
func writtenHeaps() []impl.Heap {
	var list []impl.Heap
	for phase := impl.PIdle; phase <= impl.PClose; phase++ {
		for hand := range 4 {
			for colors := range 9 {
				if h := written(phase, hand, colors/3, colors%3); slowRule(h) == 0 {
					list = append(list, h)
				}
			}
		}
	}
	return list
}

func TestShadingAtEachWrite(t *testing.T) {
	var shaded, not [7]int
	for _, h := range writtenHeaps() {
		for _, op := range []int{impl.ASetKey, impl.ASetVal} {
			for b := range 4 {
				set := func(h *impl.Heap) {
					w := &h.Cells[0].Pairs[0].Key
					if op == impl.ASetVal {
						w = &h.Cells[0].Pairs[0].Val
					}
					*w = h.Regs[b]
				}
				marking := h.Phase == impl.PRoots || h.Phase == impl.PMark
				if b < 2 && marking && h.Cells[b].Color == impl.CWhite {
					set = grayed(set, b)
					shaded[h.Phase]++
				} else {
					not[h.Phase]++
				}
				checkActing(t, []acting{{"a write", h, actOf(op, 0, b, 0), says(0), set}})
			}
		}
	}
	for phase := range 7 {
		if marking := phase == impl.PRoots || phase == impl.PMark; (shaded[phase] > 5) != marking || not[phase] < 8 {
			t.Errorf("Phase %d: %d shaded, %d not", phase, shaded[phase], not[phase])
		}
	}
}

// With 1 the cell is shaded, with 0 it is not, whatever its Last was.
func TestShadingAtLast(t *testing.T) {
	var shaded [7]int
	for _, from := range writtenHeaps() {
		for was := range 4 {
			h := with(from, func(h *impl.Heap) { h.Cells[1].Last = was })
			if slowRule(h) != 0 {
				continue
			}
			for is := range 2 {
				set := func(h *impl.Heap) { h.Cells[1].Last = is }
				marking := h.Phase == impl.PRoots || h.Phase == impl.PMark
				if is == 1 && marking && h.Cells[1].Color == impl.CWhite {
					set = grayed(set, 1)
					shaded[h.Phase]++
				}
				checkActing(t, []acting{{"a last word", h, actOf(impl.ALast, 1, 0, is), says(0), set}})
			}
		}
	}
	for phase, n := range shaded {
		if marking := phase == impl.PRoots || phase == impl.PMark; (n > 5) != marking {
			t.Errorf("Phase %d: %d shaded", phase, n)
		}
	}
}

// What is written into a cell that the marking is past, and then let go of by its register, is alive with all that it leads to.
func TestWhatIsWrittenLivesOn(t *testing.T) {
	h := led([]int{0, 1}, used(1, impl.Pair{}), used(2, pair(at(2), none())), kind(77, used(3)))
	whole := impl.Step(h, impl.MaxStep).Units
	for units := range whole + 1 {
		on := impl.Step(h, units).Heap
		for _, a := range []impl.Act{actOf(impl.ASetKey, 0, 1, 0), actOf(impl.ASetVal, 0, 1, 0), actOf(impl.ALast, 1, 0, 1)} {
			got := impl.Do(impl.Do(on, a).Heap, actOf(impl.ANil, 1, 0, 0)).Heap
			for _, more := range []int{0, 1, 2, 7, 50, 1000} {
				end := impl.Do(impl.Do(got, actOf(impl.AStep, 0, 0, more)).Heap, actOf(impl.ALive, 0, 0, 0))
				if end.Ans != says(5) || len(impl.Shape(end.Heap).Nodes) != 3 {
					t.Errorf("%+v behind %d units, %d more: %+v", a, units, more, end)
				}
				if end := impl.Round(end.Heap); end.Used != 5 || len(end.Cells) != 3 {
					t.Errorf("%+v behind %d units, %d more and a round: %+v", a, units, more, end)
				}
			}
		}
	}
}

func TestSettleAndDueAsActs(t *testing.T) {
	want := func(last, born int, pairs ...impl.Pair) impl.Cell { return withLast(last, used(born, pairs...)) }
	h := led([]int{0},
		weak(1, used(1, pair(at(1), num(1)), pair(num(2), num(3)))),
		want(impl.LWants, 4),
		want(impl.LWants, 3),
		want(impl.LTold, 2),
		used(5),
	)
	settled := both(dueAt(1, 2), func(h *impl.Heap) { h.Cells[0].Pairs, h.Used = h.Cells[0].Pairs[1:], 6 })
	due := with(h, settled)
	told := func(r, place int) func(h *impl.Heap) {
		return func(h *impl.Heap) {
			h.Cells[place].Last = impl.LTold
			h.Regs[r] = at(place)
		}
	}
	second := with(due, told(7, 2))
	third := with(second, told(0, 1))
	checkActing(t, []acting{
		{"two become due", h, actOf(impl.ASettle, 0, 0, 0), says(2), settled},
		{"nothing more", due, actOf(impl.ASettle, 0, 0, 0), says(0), asItWas},
		{"none is due", h, actOf(impl.ADue, 7, 0, 0), says(0), asItWas},
		{"none is due, over a cell", h, actOf(impl.ADue, 0, 0, 0), says(0), reg(0, none())},
		{"none is due, over a number", with(h, reg(15, num(8))), actOf(impl.ADue, 15, 0, 0), says(0), reg(15, none())},
		{"the first of two", due, actOf(impl.ADue, 7, 0, 0), says(1), told(7, 2)},
		{"the second, over a cell", second, actOf(impl.ADue, 0, 0, 0), says(1), told(0, 1)},
		{"no third", third, actOf(impl.ADue, 7, 0, 0), says(0), reg(7, none())},
		{"told before, it wants again", third, actOf(impl.ALast, 7, 0, 1), says(0), func(h *impl.Heap) { h.Cells[2].Last = impl.LWants }},
		{"one that is due is let off", with(due, reg(3, at(1))), actOf(impl.ALast, 3, 0, 0), says(0), func(h *impl.Heap) { h.Cells[1].Last = impl.LNone }},
		{"one that is due wants anew", with(due, reg(3, at(1))), actOf(impl.ALast, 3, 0, 1), says(0), func(h *impl.Heap) { h.Cells[1].Last = impl.LWants }},
		{"counted", h, actOf(impl.ACount, 0, 0, 0), says(3), asItWas},
		{"live", h, actOf(impl.ALive, 0, 0, 0), says(5), asItWas},
		{"counted, two due", due, actOf(impl.ACount, 0, 0, 0), says(4), asItWas},
		{"live, two due", due, actOf(impl.ALive, 0, 0, 0), says(4), asItWas},
		{"counted, none", impl.Fresh(1), actOf(impl.ACount, 0, 0, 0), says(0), asItWas},
		{"live, none", impl.Fresh(1), actOf(impl.ALive, 0, 0, 0), says(0), asItWas},
	})
	for _, s := range settledHeaps() {
		settled, left := impl.Settle(s.heap), impl.NextDue(s.heap)
		if got := impl.Do(s.heap, actOf(impl.ASettle, 0, 0, 0)); got.Ans != says(int64(settled.Due)) || !sameHeap(got.Heap, settled.Heap) {
			t.Errorf("%s: %+v, want %+v", s.name, got, settled)
		}
		if got := impl.Do(s.heap, actOf(impl.ADue, 15, 0, 0)); left >= 0 && (got.Ans != says(1) || got.Heap.Regs[15] != at(left)) {
			t.Errorf("%s: %+v, want the cell at %d", s.name, got, left)
		}
		wantDone(t, s.name, s.heap, actOf(impl.ADue, 0, 0, 0))
		if got := impl.Do(s.heap, actOf(impl.ACount, 0, 0, 0)); got.Ans != says(int64(impl.Counted(s.heap))) || !sameHeap(got.Heap, s.heap) {
			t.Errorf("%s: %+v", s.name, got)
		}
		if got := impl.Do(s.heap, actOf(impl.ALive, 0, 0, 0)); got.Ans != says(int64(impl.Live(s.heap))) || !sameHeap(got.Heap, s.heap) {
			t.Errorf("%s: %+v", s.name, got)
		}
	}
}

// Cells that are let go of are told once each, in the order of making, whatever the collector does in between.
func TestLastWordsByActs(t *testing.T) {
	d := dice(24)
	for _, n := range []int{1, 2, 15, 40} {
		h := impl.Fresh(200)
		do := func(a impl.Act) impl.Ans {
			h = impl.Do(impl.Step(h, d.below(12)).Heap, a).Heap
			got := impl.Do(h, actOf(impl.AWord, 0, 0, 0)).Ans
			if impl.HeapOk(h) != 0 || got.Code != 0 {
				t.Fatalf("%+v: %+v", a, h)
			}
			return got
		}
		for i := range n {
			do(actOf(impl.ANew, 0, i, 1))
			do(actOf(impl.ALast, 0, 0, 1))
		}
		do(actOf(impl.ANil, 0, 0, 0))
		do(actOf(impl.ASettle, 0, 0, 0))
		for i := range n {
			if do(actOf(impl.ADue, 0, 0, 0)) != says(impl.WAt) || impl.Do(h, actOf(impl.AKind, 0, 0, 0)).Ans != says(int64(i)) {
				t.Fatalf("%d of %d: %+v", i, n, h)
			}
		}
		if do(actOf(impl.ADue, 0, 0, 0)) != says(impl.WNil) || impl.Round(h).Used != 0 {
			t.Fatalf("behind %d: %+v", n, h)
		}
	}
}

func TestStepPaceAndRoundAsActs(t *testing.T) {
	for _, s := range soundHeaps() {
		for _, n := range []int{0, 1, 2, 7, 50, impl.MaxStep - 1, impl.MaxStep} {
			got, want := impl.Do(s.heap, actOf(impl.AStep, 0, 0, n)), impl.Step(s.heap, n)
			if got.Ans != says(0) || !sameHeap(got.Heap, want.Heap) {
				t.Errorf("%s: a step of %d: %+v", s.name, n, got)
			}
		}
		got, want := impl.Do(s.heap, actOf(impl.ARound, 0, 0, 0)), impl.Round(s.heap)
		if got.Ans != says(0) || !sameHeap(got.Heap, want) || want.Forced != s.heap.Forced {
			t.Errorf("%s: a round: %+v", s.name, got)
		}
		for _, b := range []int{0, 1, 63, 64} {
			for _, c := range []int{0, 1, 3999, 4000} {
				checkActing(t, []acting{{s.name, s.heap, actOf(impl.APace, 0, b, c), says(0), func(h *impl.Heap) { h.Per, h.Start = b, c }}})
			}
		}
	}
}
