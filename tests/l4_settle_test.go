package tests

import (
	"math/bits"
	"reflect"
	"testing"

	"loop.example/spool/impl"
)

// One Settle: a heap, how many pairs go, how many cells become due, and all that differs behind it but Used.
type settling struct {
	name   string
	heap   impl.Heap
	gone   int
	due    int
	behind func(h *impl.Heap)
}

func checkSettling(t *testing.T, list []settling) {
	t.Helper()
	for _, s := range list {
		wantRule(t, s.name, s.heap, 0)
		want := clone(s.heap)
		s.behind(&want)
		want.Used -= s.gone
		got := impl.Settle(s.heap)
		if got.Gone != s.gone || got.Due != s.due || !sameHeap(got.Heap, want) {
			t.Errorf("%s: %+v, want %d gone, %d due and %+v", s.name, got, s.gone, s.due, want)
		}
		wantRule(t, s.name+", settled", got.Heap, 0)
	}
}

func asItWas(h *impl.Heap) {}

// without takes these pairs, named in order, out of the cell at that place.
func without(place int, pairs ...int) func(h *impl.Heap) {
	return func(h *impl.Heap) {
		var stay []impl.Pair
		for i, p := range h.Cells[place].Pairs {
			if len(pairs) > 0 && pairs[0] == i {
				pairs = pairs[1:]
				continue
			}
			stay = append(stay, p)
		}
		h.Cells[place].Pairs = stay
	}
}

func dueAt(places ...int) func(h *impl.Heap) {
	return func(h *impl.Heap) {
		for _, place := range places {
			h.Cells[place].Last = impl.LDue
		}
	}
}

func both(first, second func(h *impl.Heap)) func(h *impl.Heap) {
	return func(h *impl.Heap) {
		first(h)
		second(h)
	}
}

// The cell at 0 has one pair; that at 1 is held by a register, those at 2 and 3 by nothing else than the pair.
func TestWhichPairsGo(t *testing.T) {
	keys := []impl.Word{none(), num(2), num(-1), at(0), at(1), at(2)}
	vals := []impl.Word{none(), num(3), num(-1), at(0), at(1), at(3)}
	for how := range 4 {
		for _, key := range keys {
			for _, val := range vals {
				h := led([]int{0, 1}, weak(how, used(1, pair(key, val))), used(2), used(3), used(4))
				s := settling{"one pair", h, 0, 0, asItWas}
				if (how == 1 || how == 3) && key == at(2) || (how == 2 || how == 3) && val == at(3) {
					s.gone, s.behind = 1, without(0, 0)
				}
				checkSettling(t, []settling{s})
			}
		}
	}
}

// What a strong word of the pair holds, and what it does not.
func TestPairsByWeak(t *testing.T) {
	table := func(how int, places ...int) impl.Heap {
		return led(append([]int{0}, places...), weak(how, used(1,
			pair(at(1), at(2)), pair(num(7), at(3)), pair(at(4), none()), pair(at(3), at(1)), pair(num(1), num(2)))),
			used(2), used(3), used(4), used(5))
	}
	checkSettling(t, []settling{
		{"nothing weak", table(0), 0, 0, asItWas},
		{"keys: the number's value is a key", table(1), 1, 0, without(0, 2)},
		{"values", table(2), 1, 0, without(0, 0)},
		{"both", table(3), 4, 0, without(0, 0, 1, 2, 3)},
		{"keys, all held", table(1, 4), 0, 0, asItWas},
		{"values, all held", table(2, 2), 0, 0, asItWas},
		{"both, all held", table(3, 1, 2, 3, 4), 0, 0, asItWas},
		{"both, a key held", table(3, 4), 3, 0, without(0, 0, 1, 3)},
		{"both, the key of a value that is not", table(3, 1), 4, 0, without(0, 0, 1, 2, 3)},
		{"both, the values held", table(3, 2, 3, 1), 1, 0, without(0, 2)},
	})
}

// The same word twice, the cell itself, and two cells with the same keys.
func TestPairsOfSeveralCells(t *testing.T) {
	twice := led([]int{0}, weak(1, used(1, pair(at(1), num(1)), pair(at(1), num(2)), pair(at(0), num(3)))), used(2))
	two := led([]int{3, 0}, weak(3, used(1, pair(at(1), at(2)))), used(2), used(3), weak(1, used(4, pair(at(2), none()), pair(at(0), at(1)))))
	apart := led([]int{1}, used(1), weak(1, used(2, pair(at(0), at(2)), pair(at(1), at(3)))), used(3), weak(2, used(4, pair(num(1), at(2)), pair(num(2), at(1)))))
	checkSettling(t, []settling{
		{"the same key twice", twice, 2, 0, without(0, 0, 1)},
		{"two weak cells", two, 2, 0, both(without(0, 0), without(3, 0))},
		{"keys here, values there", apart, 2, 0, both(without(1, 0), without(3, 0))},
		{"no cells", impl.Fresh(1), 0, 0, asItWas},
		{"free cells only", led(nil, free(), free()), 0, 0, asItWas},
		{"a weak cell without pairs", led([]int{0}, weak(3, used(1))), 0, 0, asItWas},
	})
}

// Each choice of pairs among five: the others stay as they stood.
func TestWhereThePairsStood(t *testing.T) {
	for how := 1; how < 4; how++ {
		for mask := range 1 << 5 {
			c := weak(how, used(1))
			var gone []int
			for i := range 5 {
				p := pair(num(int64(i)), num(int64(10+i)))
				if mask>>i&1 == 1 {
					gone = append(gone, i)
					if how != 2 {
						p.Key = at(1)
					} else {
						p.Val = at(1)
					}
				}
				c.Pairs = append(c.Pairs, p)
			}
			checkSettling(t, []settling{{"five pairs", led([]int{0}, c, used(2)), len(gone), 0, without(0, gone...)}})
		}
	}
}

// Unmended pairs go or stay by where their words lead; those that stay are not mended.
func TestPairsThatLeadToMovedCells(t *testing.T) {
	for _, phase := range []int{impl.PMove, impl.PMend} {
		table := func(how int) impl.Heap {
			c := weak(how, used(1, pair(at(4), num(4)), pair(at(5), num(5)), pair(num(4), at(4)), pair(num(5), at(6))))
			h := heapOf(phase, c, used(2), used(3), used(4), moved(1), moved(2), moved(3))
			h.Regs[0], h.Regs[1] = at(0), at(1)
			return h
		}
		checkSettling(t, []settling{
			{"nothing weak", table(0), 0, 0, asItWas},
			{"keys", table(1), 1, 0, without(0, 1)},
			{"values", table(2), 1, 0, without(0, 3)},
			{"both", table(3), 2, 0, without(0, 1, 3)},
		})
	}
}

// The weak cell itself has moved: a register and the pairs of others lead to its new place.
func TestWeakCellThatHasMoved(t *testing.T) {
	h := heapOf(impl.PMend, used(1, pair(none(), at(4))), weak(1, used(2, pair(at(2), num(1)), pair(at(4), num(2)))), used(3), free(), moved(1))
	h.Regs[5] = at(0)
	checkSettling(t, []settling{{"it has moved", h, 1, 0, without(1, 0)}})
}

// Cells that are reached by a last word to come, and doomed ones, keep all their pairs.
func TestCellsThatAreNotHeldKeepTheirPairs(t *testing.T) {
	table := weak(3, used(1, pair(at(1), at(1)), pair(at(1), none())))
	wants := withLast(impl.LWants, used(3, pair(at(0), none())))
	checkSettling(t, []settling{
		{"reached by nothing", led(nil, table, used(2)), 0, 0, asItWas},
		{"reached, not held", led(nil, table, used(2), wants), 0, 1, dueAt(2)},
		{"wants by itself", led(nil, withLast(impl.LWants, table), used(2)), 0, 1, dueAt(0)},
		{"wants and is held", led([]int{0}, withLast(impl.LWants, table), used(2)), 2, 0, without(0, 0, 1)},
		{"is due by itself", led(nil, withLast(impl.LDue, table), used(2)), 2, 0, without(0, 0, 1)},
		{"was told", led(nil, withLast(impl.LTold, table), used(2)), 0, 0, asItWas},
	})
	doomed := heapOf(impl.PSweep, free(), weak(3, used(1, pair(at(0), at(2)), pair(at(1), at(3)))), used(2), colored(impl.CBlack, weak(1, used(3, pair(at(4), none())))), colored(impl.CBlack, used(4)))
	doomed.Regs[0] = at(3)
	checkSettling(t, []settling{{"doomed", doomed, 1, 0, without(3, 0)}})
}

func TestWhichCellsBecomeDue(t *testing.T) {
	for last := range 4 {
		h := led([]int{0}, withLast(last, used(1)), withLast(last, used(2)), used(3, pair(at(1), none())), free())
		s := settling{"one held, one let go", h, 0, 0, asItWas}
		if last == impl.LWants {
			s.due, s.behind = 1, dueAt(1)
		}
		checkSettling(t, []settling{s})
	}
	want := func(born int, pairs ...impl.Pair) impl.Cell { return withLast(impl.LWants, used(born, pairs...)) }
	checkSettling(t, []settling{
		{"several", led(nil, want(3), used(4), want(1), want(2)), 0, 3, dueAt(0, 2, 3)},
		{"held by a pair", led([]int{0}, used(1, pair(none(), at(1))), want(2)), 0, 0, asItWas},
		{"held by a cell that is due", led(nil, withLast(impl.LDue, used(1, pair(at(1), none()))), want(2)), 0, 0, asItWas},
		{"each leads to the next", led(nil, want(1, pair(at(1), none())), want(2, pair(at(2), none())), want(3, pair(at(0), none()))), 0, 3, dueAt(0, 1, 2)},
		{"a weak key", led([]int{0}, weak(1, used(1, pair(at(1), none()))), want(2)), 1, 1, both(without(0, 0), dueAt(1))},
		{"a weak key that is held", led([]int{0, 1}, weak(1, used(1, pair(at(1), at(2)))), want(2), want(3)), 0, 0, asItWas},
		{"a value beside a key that is not held", led([]int{0}, weak(1, used(1, pair(at(1), at(2)))), used(2), want(3)), 1, 1, both(without(0, 0), dueAt(2))},
		{"a weak value", led([]int{0}, weak(2, used(1, pair(num(1), at(1)))), want(2)), 1, 1, both(without(0, 0), dueAt(1))},
	})
}

// What becomes due at one Settle holds from the next one on; what was due before holds at once.
func TestHeldIsWorkedOutAheadOfAll(t *testing.T) {
	beside := func(last int) impl.Heap {
		return led([]int{1},
			withLast(last, used(1, pair(at(2), none()))),
			weak(1, used(2, pair(at(2), num(1)))),
			used(3),
			withLast(last, used(4, pair(none(), at(2)))),
		)
	}
	checkSettling(t, []settling{
		{"key of one that wants", beside(impl.LWants), 1, 2, both(without(1, 0), dueAt(0, 3))},
		{"key of one that is due", beside(impl.LDue), 0, 0, asItWas},
	})
	h := led(nil,
		weak(2, used(1, pair(num(1), at(2)), pair(num(2), at(3)))),
		withLast(impl.LWants, used(2, pair(at(0), at(3)))),
		used(3),
		withLast(impl.LWants, used(4)),
	)
	first := with(h, dueAt(1, 3))
	checkSettling(t, []settling{
		{"the table is not held yet", h, 0, 2, dueAt(1, 3)},
		{"the table is held", first, 1, 0, without(0, 0)},
	})
}

// chainOf is as chain, with the last key beside a number and every key with that Last.
func chainOf(n int, order []int, hold bool, last int) impl.Heap {
	return with(chain(n, order, hold), func(h *impl.Heap) {
		h.Cells = h.Cells[:n+1]
		h.Used--
		for i := range h.Cells[0].Pairs {
			if p := &h.Cells[0].Pairs[i]; p.Val == at(n+1) {
				p.Val = num(8)
			}
		}
		for i := 1; i <= n; i++ {
			h.Cells[i].Last = last
		}
	})
}

func TestSettleChainsOfKeys(t *testing.T) {
	d := dice(16)
	for _, n := range []int{1, 2, 3, 17, 59, 60, impl.MaxPairs} {
		orders := [][]int{make([]int, n), make([]int, n), d.shuffled(n)}
		all := make([]int, n)
		for i := range n {
			orders[0][i], orders[1][i] = i, n-1-i
			all[i] = i
		}
		for _, order := range orders {
			checkSettling(t, []settling{
				{"held", chain(n, order, true), 0, 0, asItWas},
				{"let go", chain(n, order, false), n, 0, without(0, all...)},
				{"held, a number at the end", chainOf(n, order, true, impl.LNone), 0, 0, asItWas},
				{"let go, a number at the end", chainOf(n, order, false, impl.LNone), n, 0, without(0, all...)},
				{"held, they want", chainOf(n, order, true, impl.LWants), 0, 0, asItWas},
				{"due", chainOf(n, order, false, impl.LDue), 0, 0, asItWas},
			})
			h := chainOf(n, order, false, impl.LWants)
			got := impl.Settle(h)
			if got.Gone != n || got.Due != n || got.Heap.Used != h.Used-n || impl.NextDue(got.Heap) != 1 {
				t.Errorf("a chain of %d that want: %d gone, %d due", n, got.Gone, got.Due)
			}
			wantChainFrom(t, n, order, 1+n/2)
		}
	}
}

// wantChainFrom holds a key in the midst: the pairs of those before it go.
func wantChainFrom(t *testing.T, n int, order []int, held int) {
	t.Helper()
	h := chain(n, order, false)
	h.Regs[15] = at(held)
	var gone []int
	for i, k := range order {
		if 1+k < held {
			gone = append(gone, i)
		}
	}
	checkSettling(t, []settling{{"held from the midst on", h, len(gone), 0, without(0, gone...)}})
}

// going is a heap in which the collector is within the four pairs of the cell at 2; those of the mask go, with the others numbers.
func going(phase, sub, mask int) impl.Heap {
	c := weak(1, used(3))
	for i := range 4 {
		p := pair(num(int64(i)), num(9))
		if mask>>i&1 == 1 {
			p.Key = at(3)
		}
		c.Pairs = append(c.Pairs, p)
	}
	other := weak(2, used(1, pair(num(1), at(3)), impl.Pair{}, pair(at(2), at(3))))
	h := heapOf(phase, other, free(), c, used(4))
	if phase == impl.PMark {
		h.Cells[0].Color, h.Cells[2].Color, h.Cells[3].Color = impl.CGray, impl.CGray, impl.CBlack
		h.Gray = []int{2, 0}
	} else {
		h.Hand = 2
	}
	h.Sub = sub
	h.Regs[1] = at(0)
	return h
}

func TestSubOfTheCellThatIsGoneThrough(t *testing.T) {
	for _, phase := range []int{impl.PMark, impl.PMend} {
		for sub := range 5 {
			for mask := range 1 << 4 {
				h := going(phase, sub, mask)
				var gone []int
				for i := range 4 {
					if mask>>i&1 == 1 {
						gone = append(gone, i)
					}
				}
				below := bits.OnesCount(uint(mask & (1<<sub - 1)))
				less := func(h *impl.Heap) { h.Sub = sub - below }
				checkSettling(t, []settling{{"going through it", h, len(gone) + 2, 0, both(both(without(0, 0, 2), without(2, gone...)), less)}})
			}
		}
	}
}

// Pairs that go from other cells leave Sub as it is, wherever these stand.
func TestSubOfOtherCells(t *testing.T) {
	for sub := range 5 {
		for _, mask := range []int{0, 15} {
			second := with(going(impl.PMark, 0, mask), func(h *impl.Heap) {
				h.Gray = []int{0, 2}
				h.Cells[0] = colored(impl.CGray, used(1, pair(at(2), num(1)), impl.Pair{}, impl.Pair{}))
				h.Sub = min(sub, 3)
			})
			behind := with(going(impl.PMend, 0, mask), func(h *impl.Heap) {
				h.Hand, h.Sub = 0, min(sub, 3)
				h.Cells[0] = used(1, pair(at(2), num(1)), impl.Pair{}, impl.Pair{})
			})
			none := with(going(impl.PMark, 0, mask), func(h *impl.Heap) {
				h.Gray = nil
				h.Cells[0].Color, h.Cells[2].Color = impl.CBlack, impl.CBlack
			})
			ended := with(going(impl.PMend, 0, mask), handTo(4))
			n, all := bits.OnesCount(uint(mask)), []int{0, 1, 2, 3}[:bits.OnesCount(uint(mask))]
			checkSettling(t, []settling{
				{"the second in Gray", second, n, 0, without(2, all...)},
				{"a cell past Hand", behind, n, 0, without(2, all...)},
				{"Gray is empty", none, n + 2, 0, both(without(0, 0, 2), without(2, all...))},
				{"Hand is behind all cells", ended, n + 2, 0, both(without(0, 0, 2), without(2, all...))},
			})
		}
	}
}

// In the other Phases Sub stays 0, with Hand at the cell and the cell first in Gray.
func TestSubInOtherPhases(t *testing.T) {
	marked := with(going(impl.PMark, 0, 6), func(h *impl.Heap) { h.Phase, h.Hand = impl.PRoots, 2 })
	swept := with(going(impl.PMend, 0, 6), func(h *impl.Heap) {
		h.Phase = impl.PSweep
		h.Cells[2].Color, h.Cells[3].Color = impl.CBlack, impl.CBlack
	})
	checkSettling(t, []settling{
		{"PIdle", with(going(impl.PMend, 0, 6), phaseTo(impl.PIdle, 0)), 4, 0, both(without(0, 0, 2), without(2, 1, 2))},
		{"PRoots", marked, 4, 0, both(without(0, 0, 2), without(2, 1, 2))},
		{"PSweep", swept, 4, 0, both(without(0, 0, 2), without(2, 1, 2))},
		{"PMove", with(going(impl.PMend, 0, 6), phaseTo(impl.PMove, 0)), 4, 0, both(without(0, 0, 2), without(2, 1, 2))},
		{"PClose", with(going(impl.PMend, 0, 6), phaseTo(impl.PClose, 2)), 4, 0, both(without(0, 0, 2), without(2, 1, 2))},
	})
}

// The pairs that are left are gone through from where the collector was: none twice, none left out.
func TestMarkingGoesOnBehindSettle(t *testing.T) {
	h := heapOf(impl.PMark,
		colored(impl.CGray, weak(1, used(1, pair(at(1), num(1)), pair(num(2), at(2)), pair(at(1), num(3)), pair(num(4), at(3))))),
		colored(impl.CBlack, used(2)),
		colored(impl.CGray, used(3)),
		used(4),
	)
	h.Gray, h.Sub = []int{0, 2}, 3
	h.Regs[0] = at(0)
	got := impl.Settle(h).Heap
	if got.Sub != 1 || len(got.Cells[0].Pairs) != 2 {
		t.Fatalf("%+v", got)
	}
	next := impl.Step(got, 1).Heap
	if next.Sub != 2 || next.Cells[3].Color != impl.CGray || len(next.Gray) != 3 {
		t.Errorf("%+v", next)
	}
	if end := impl.Round(got); end.Used != 5 {
		t.Errorf("%+v", end)
	}
}

// Each pair's key is held by the pair alone and is the value of the next: one goes at a time, and its key becomes due at the next.
func TestSettleOverAndOver(t *testing.T) {
	for _, n := range []int{1, 2, 7, 60} {
		table := weak(2, used(1))
		cells := []impl.Cell{table, used(2)}
		for i := range n {
			cells[0].Pairs = append(cells[0].Pairs, pair(at(2+i), at(1+i)))
			cells = append(cells, withLast(impl.LWants, used(3+i)))
		}
		h := led([]int{0}, cells...)
		for i := range n {
			s := impl.Settle(h)
			if s.Gone != 1 || s.Due != min(i, 1) || s.Heap.Used != h.Used-1 || len(s.Heap.Cells[0].Pairs) != n-1-i {
				t.Fatalf("%d of %d: %+v", i, n, s)
			}
			h = s.Heap
		}
		last := impl.Settle(h)
		if last.Gone != 0 || last.Due != 1 || impl.NextDue(last.Heap) != 2 {
			t.Errorf("the last of %d: %+v", n, last)
		}
		quiet := impl.Settle(last.Heap)
		if quiet.Gone != 0 || quiet.Due != 0 || !sameHeap(quiet.Heap, last.Heap) {
			t.Errorf("behind %d: %+v", n, quiet)
		}
		wantQuiet(t, "one at a time", led([]int{0}, cells...))
	}
}

func TestNextDue(t *testing.T) {
	due := func(born int) impl.Cell { return withLast(impl.LDue, used(born)) }
	far := heapOf(impl.PMend, used(5), due(4), free(), due(9), moved(0), moved(1), free(), due(2))
	far.Hand = 3
	for _, c := range []struct {
		name string
		heap impl.Heap
		want int
	}{
		{"no cells", impl.Fresh(9), -1},
		{"none", led([]int{0}, used(1), free()), -1},
		{"one that wants", led(nil, withLast(impl.LWants, used(1))), -1},
		{"one that was told", led(nil, withLast(impl.LTold, used(1))), -1},
		{"one", led(nil, due(1)), 0},
		{"one behind others", led(nil, withLast(impl.LWants, used(1)), free(), withLast(impl.LTold, used(2)), due(3)), 3},
		{"the least first", led(nil, due(1), due(2), due(3)), 0},
		{"the least in the midst", led(nil, due(7), due(3), due(5)), 1},
		{"the least last", led(nil, due(9), due(8), used(1), due(7)), 3},
		{"one that is held", led([]int{1}, due(2), due(1)), 1},
		{"one that wants was made first", led(nil, due(2), withLast(impl.LWants, used(1))), 0},
		{"past free and moved ones", far, 7},
	} {
		wantRule(t, c.name, c.heap, 0)
		if got := impl.NextDue(c.heap); got != c.want {
			t.Errorf("%s: %d, want %d", c.name, got, c.want)
		}
	}
	want := map[string]int{"idle, full": 4, "roots, midway": 0, "mark, midway": 4, "sweep, midway": 4, "move, midway": -1, "mend, midway": 2, "close, begun": -1}
	for name, place := range want {
		if got := impl.NextDue(heapNamed(t, name)); got != place {
			t.Errorf("%s: %d, want %d", name, got, place)
		}
	}
}

func TestChapter4WhereTheHeapIsNotSound(t *testing.T) {
	for rule, h := range spoiledByRule(t) {
		wantRule(t, "spoiled", h, rule)
		wantNotSettled(t, "spoiled", h)
	}
	due := led(nil, withLast(impl.LDue, used(1)))
	due.Used++
	wantNotSettled(t, "one is due", due)
	wantNotSettled(t, "zero value", impl.Heap{})
	wantNotSettled(t, "a word that is far off", heapWithWord(at(1<<60)))
	wantNotSettled(t, "a word below 0", heapWithWord(at(-1)))
	wantNotSettled(t, "a million cells", impl.Heap{Room: 4000, Regs: make([]impl.Word, impl.MaxRegs), Cells: make([]impl.Cell, 1000000)})
}

func TestSettleOfGreatHeaps(t *testing.T) {
	h := crowded(impl.PMove)
	for i := range impl.MaxRoom {
		h.Cells[i].Last = impl.LWants
	}
	s := impl.Settle(h)
	if s.Gone != 0 || s.Due != impl.MaxRoom-1 || impl.NextDue(s.Heap) != impl.MaxRoom-2 || impl.HeapOk(s.Heap) != 0 {
		t.Error("crowded:", s.Gone, s.Due, impl.NextDue(s.Heap), impl.HeapOk(s.Heap))
	}
	const tables, keys = 15, impl.MaxRoom - 15*(1+impl.MaxPairs)
	wide := heapOf(impl.PIdle)
	for i := range tables {
		c := weak(1+i%3, used(1+i))
		for k := range impl.MaxPairs {
			p := pair(num(int64(k)), at(tables+k%keys))
			if c.Weak == 1 {
				p.Key, p.Val = p.Val, p.Key
			}
			c.Pairs = append(c.Pairs, p)
		}
		wide.Cells = append(wide.Cells, c)
		wide.Regs[i] = at(i)
	}
	for i := range keys {
		wide.Cells = append(wide.Cells, used(1+tables+i))
	}
	wantGreatSettled(t, "wide", withRoom(wide), tables*impl.MaxPairs)
	long := greatChain(1100)
	wantGreatSettled(t, "long", long, 1100)
	long.Regs[15] = at(1100)
	wantGreatSettled(t, "long, held", long, 0)
}

func wantGreatSettled(t *testing.T, name string, h impl.Heap, gone int) {
	t.Helper()
	wantRule(t, name, h, 0)
	s := impl.Settle(h)
	if s.Gone != gone || s.Due != 0 || s.Heap.Used != h.Used-gone || impl.HeapOk(s.Heap) != 0 {
		t.Error(name, s.Gone, s.Due, s.Heap.Used, impl.HeapOk(s.Heap))
	}
}

// settledHeaps are heaps of each Phase in which pairs go and cells become due.
func settledHeaps() []named {
	list := soundHeaps()
	d := dice(17)
	for phase := impl.PIdle; phase <= impl.PClose; phase++ {
		for n := 0; n < 20; {
			h, _ := grown(&d, phase)
			if s := slowSettle(h); s.Gone > 0 && (s.Due > 0 || slowNextDue(h) >= 0) {
				list = append(list, named{"grown", h})
				n++
			}
		}
	}
	return list
}

func TestChapter4LeavesArguments(t *testing.T) {
	for _, s := range settledHeaps() {
		h, look := padded(s.heap)
		before := look()
		first, next := impl.Settle(h), impl.NextDue(h)
		again := impl.Settle(h)
		if first.Gone != again.Gone || first.Due != again.Due || !sameHeap(first.Heap, again.Heap) || next != impl.NextDue(h) {
			t.Errorf("%s: the same argument, another answer", s.name)
		}
		spoiled := h
		spoiled.Used++
		wantNotSettled(t, s.name, spoiled)
		if !reflect.DeepEqual(look(), before) {
			t.Errorf("%s: the argument was changed", s.name)
		}
	}
}

// What is written into one list of an answer is seen neither in its other lists nor in the argument.
func TestSettleSharesNothing(t *testing.T) {
	for _, s := range settledHeaps() {
		h, look := padded(s.heap)
		before := look()
		got := impl.Settle(h).Heap
		for i := range got.Cells {
			kept := clone(got)
			scribble(got.Cells[i].Pairs, pair(num(123), num(123)))
			now := clone(got)
			now.Cells[i].Pairs, kept.Cells[i].Pairs = nil, nil
			if !sameHeap(now, kept) {
				t.Errorf("%s: lists of the answer share memory", s.name)
			}
		}
		scribble(got.Gray, 123)
		scribble(got.Regs, num(123))
		scribble(got.Cells, moved(123))
		if !reflect.DeepEqual(look(), before) {
			t.Errorf("%s: the answer shares memory with the argument", s.name)
		}
	}
}
