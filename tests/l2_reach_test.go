package tests

import (
	"reflect"
	"testing"

	"loop.example/spool/impl"
)

func weak(how int, c impl.Cell) impl.Cell {
	c.Weak = how
	return c
}

func kind(k int, c impl.Cell) impl.Cell {
	c.Kind = k
	return c
}

// led is an idle heap of these cells; the registers lead to the places, from the first register on.
func led(places []int, cells ...impl.Cell) impl.Heap {
	h := heapOf(impl.PIdle, cells...)
	for i, place := range places {
		h.Regs[i] = at(place)
	}
	return h
}

func picture(flags []bool) string {
	out := ""
	for _, yes := range flags {
		if yes {
			out += "+"
		} else {
			out += "-"
		}
	}
	return out
}

// seen says of each place whether its cell is reached (first) and held (second): + or -.
type seen struct {
	name  string
	heap  impl.Heap
	reach string
	holds string
}

func checkSeen(t *testing.T, list []seen) {
	t.Helper()
	for _, s := range list {
		wantRule(t, s.name, s.heap, 0)
		if got := picture(impl.Reach(s.heap)); got != s.reach {
			t.Errorf("%s: Reach %s, want %s", s.name, got, s.reach)
		}
		if got := picture(impl.Holds(s.heap)); got != s.holds {
			t.Errorf("%s: Holds %s, want %s", s.name, got, s.holds)
		}
	}
}

func TestWhereTheWayBegins(t *testing.T) {
	checkSeen(t, []seen{
		{"no cells", impl.Fresh(3), "", ""},
		{"free cells only", led(nil, free(), free()), "--", "--"},
		{"nothing leads to it", led(nil, used(1)), "-", "-"},
		{"it leads to itself only", led(nil, used(1, pair(at(0), at(0)))), "-", "-"},
		{"a register", led([]int{1}, used(1), used(2), free()), "-+-", "-+-"},
		{"a told one", led(nil, withLast(impl.LTold, used(1, pair(at(1), at(1)))), used(2)), "--", "--"},
		{"one that wants", led(nil, withLast(impl.LWants, used(1, pair(at(1), at(2)))), used(2), used(3)), "+++", "---"},
		{"one that is due", led(nil, withLast(impl.LDue, used(1, pair(at(1), at(2)))), used(2), used(3)), "+++", "+++"},
		{"one that wants, and a register", led([]int{0}, withLast(impl.LWants, used(1, pair(at(1), none()))), used(2)), "++", "++"},
		{"one that wants, led to by one that is due", led(nil,
			withLast(impl.LDue, used(2, pair(at(1), none()))), withLast(impl.LWants, used(1, pair(none(), at(2)))), used(3)), "+++", "+++"},
	})
	for reg := range impl.MaxRegs {
		h := led(nil, used(1), used(2))
		h.Regs[reg] = at(1)
		checkSeen(t, []seen{{"each register", h, "-+", "-+"}})
		h.Regs[reg] = num(1)
		checkSeen(t, []seen{{"a number", h, "--", "--"}})
	}
}

func TestTheWayThroughPairs(t *testing.T) {
	checkSeen(t, []seen{
		{"a Key", led([]int{0}, used(1, pair(at(2), none())), used(2), used(3)), "+-+", "+-+"},
		{"a Val", led([]int{0}, used(1, pair(none(), at(2))), used(2), used(3)), "+-+", "+-+"},
		{"the last of three pairs", led([]int{0}, used(1, impl.Pair{}, pair(num(2), num(1)), pair(num(1), at(2))), used(2), used(3)), "+-+", "+-+"},
		{"numbers like places", led([]int{0}, used(1, pair(num(1), num(2))), used(2), used(3)), "+--", "+--"},
		{"a ring with a register", led([]int{2}, used(1, pair(at(1), none())), used(2, pair(none(), at(2))), used(3, pair(at(0), none()))), "+++", "+++"},
		{"a ring without", led(nil, used(1, pair(at(1), none())), used(2, pair(none(), at(2))), used(3, pair(at(0), none()))), "---", "---"},
		{"a ring that leads to a register's", led([]int{2}, used(1, pair(at(1), at(2))), used(2, pair(at(0), none())), used(3)), "--+", "--+"},
		{"two ways to one cell", led([]int{0, 1}, used(1, pair(at(2), at(2))), used(2, pair(at(2), none())), used(3)), "+++", "+++"},
		{"itself", led([]int{0}, used(1, pair(at(0), at(0)))), "+", "+"},
	})
}

func TestHoldsByWeak(t *testing.T) {
	table := func(how int, places ...int) impl.Heap {
		return led(places, weak(how, used(1, pair(at(1), at(2)), pair(num(7), at(3)), pair(at(4), none()))),
			used(2), used(3), used(4), used(5))
	}
	checkSeen(t, []seen{
		{"none", table(0, 0), "+++++", "+++++"},
		{"keys", table(1, 0), "+++++", "+--+-"},
		{"values", table(2, 0), "+++++", "++--+"},
		{"both", table(3, 0), "+++++", "+----"},
		{"keys, with one held", table(1, 0, 1), "+++++", "++++-"},
		{"keys, with the other held", table(1, 0, 4), "+++++", "+--++"},
		{"values, with one held", table(2, 0, 2), "+++++", "+++-+"},
		{"both, with a key held", table(3, 0, 1), "+++++", "++---"},
		{"both, with a value held", table(3, 0, 3), "+++++", "+--+-"},
		{"keys, where the cell is not held", table(1, 1), "-+---", "-+---"},
	})
}

func TestWeakKeyHeldByAnotherWayOnly(t *testing.T) {
	table := weak(1, used(1, pair(at(1), at(2))))
	checkSeen(t, []seen{
		{"by nobody", led([]int{0}, table, used(2), used(3)), "+++", "+--"},
		{"by a register behind", led([]int{0, 1}, table, used(2), used(3)), "+++", "+++"},
		{"by a register ahead", led([]int{1, 0}, table, used(2), used(3)), "+++", "+++"},
		{"by a cell", led([]int{3, 0}, table, used(2), used(3), used(4, pair(none(), at(1)))), "++++", "++++"},
		{"by a cell met first", led([]int{0, 3}, table, used(2), used(3), used(4, pair(none(), at(1)))), "++++", "++++"},
		{"by a cell that is not held", led([]int{0}, table, used(2), used(3), used(4, pair(none(), at(1)))), "+++-", "+---"},
		{"by one that wants", led([]int{0}, table, used(2), used(3), withLast(impl.LWants, used(4, pair(none(), at(1))))), "++++", "+---"},
		{"by one that is due", led([]int{0}, table, used(2), used(3), withLast(impl.LDue, used(4, pair(none(), at(1))))), "++++", "++++"},
		{"as it wants itself", led([]int{0}, table, withLast(impl.LWants, used(2)), used(3)), "+++", "+--"},
		{"as it is due itself", led([]int{0}, table, withLast(impl.LDue, used(2)), used(3)), "+++", "+++"},
		{"by a weak key elsewhere", led([]int{0, 3}, table, used(2), used(3), weak(1, used(4, pair(at(1), none())))), "++++", "+--+"},
		{"by a weak cell's strong value", led([]int{0, 3}, table, used(2), used(3), weak(1, used(4, pair(none(), at(1))))), "++++", "++++"},
		{"by a weak value", led([]int{0, 3}, table, used(2), used(3), weak(2, used(4, pair(none(), at(1))))), "++++", "+--+"},
		{"by its own value", led([]int{0}, table, used(2), used(3, pair(at(1), none()))), "+++", "+--"},
		{"by the cell itself, as a value", led([]int{0}, weak(1, used(1, pair(at(1), at(2)), pair(none(), at(1)))), used(2), used(3)), "+++", "+++"},
		{"the weak cell is its own key", led([]int{0}, weak(1, used(1, pair(at(0), at(1)))), used(2)), "++", "++"},
	})
}

func TestValuesBesideKeys(t *testing.T) {
	beside := func(how int, key impl.Word, places ...int) impl.Heap {
		return led(append([]int{0}, places...), weak(how, used(1, pair(key, at(1)))), used(2), used(3))
	}
	for how, holds := range []string{"++-", "++-", "+--", "+--"} {
		checkSeen(t, []seen{
			{"nothing", beside(how, none()), "++-", holds},
			{"the number 0", beside(how, num(0)), "++-", holds},
			{"the number of a place", beside(how, num(2)), "++-", holds},
			{"the number of no place", beside(how, num(-1)), "++-", holds},
		})
	}
	checkSeen(t, []seen{
		{"Weak 0, held elsewhere", beside(0, at(2), 2), "+++", "+++"},
		{"Weak 0, held here", beside(0, at(2)), "+++", "+++"},
		{"Weak 1, held", beside(1, at(2), 2), "+++", "+++"},
		{"Weak 1, not held", beside(1, at(2)), "+++", "+--"},
		{"Weak 2, held elsewhere", beside(2, at(2), 2), "+++", "+-+"},
		{"Weak 2, held here", beside(2, at(2)), "+++", "+-+"},
		{"Weak 3, held", beside(3, at(2), 2), "+++", "+-+"},
		{"Weak 3, not held", beside(3, at(2)), "+++", "+--"},
	})
}

// chain has one cell, at 0, that holds its keys weakly: the key at i has beside it the one at i+1; order says which pair stands where.
func chain(n int, order []int, hold bool) impl.Heap {
	cells := []impl.Cell{weak(1, used(1))}
	for _, i := range order {
		cells[0].Pairs = append(cells[0].Pairs, pair(at(1+i), at(2+i)))
	}
	for i := range n + 1 {
		cells = append(cells, used(2+i))
	}
	h := led([]int{0}, cells...)
	if hold {
		h.Regs[9] = at(1)
	}
	return h
}

func TestChainsOfKeys(t *testing.T) {
	d := dice(7)
	for _, n := range []int{1, 2, 3, 60, impl.MaxPairs} {
		orders := [][]int{make([]int, n), make([]int, n), d.shuffled(n)}
		for i := range n {
			orders[0][i] = i
			orders[1][i] = n - 1 - i
		}
		for k, order := range orders {
			h := chain(n, order, true)
			wantRule(t, "chain", h, 0)
			for place, held := range impl.Holds(h) {
				if !held {
					t.Errorf("chain of %d in order %d: the cell at %d is not held", n, k, place)
				}
			}
			if impl.Counted(h) != h.Used || impl.Live(h) != h.Used {
				t.Error("chain:", impl.Counted(h), impl.Live(h), h.Used)
			}
			h = chain(n, order, false)
			for place, held := range impl.Holds(h) {
				if held != (place == 0) {
					t.Errorf("chain of %d in order %d, let go: the cell at %d is held: %v", n, k, place, held)
				}
			}
			if impl.Counted(h) != 1+n || impl.Live(h) != h.Used {
				t.Error("chain, let go:", impl.Counted(h), impl.Live(h))
			}
		}
	}
	broken := chain(5, []int{4, 3, 1, 0}, true)
	if got := picture(impl.Holds(broken)); got != "++++---" {
		t.Error("chain without its third pair:", got)
	}
	midway := chain(5, []int{4, 3, 2, 1, 0}, false)
	midway.Regs[3] = at(3)
	if got := picture(impl.Holds(midway)); got != "+--++++" {
		t.Error("chain held midway:", got)
	}
}

func TestMovedAndDoomedCells(t *testing.T) {
	checkSeen(t, []seen{
		{"sweep", heapNamed(t, "sweep, midway"), "+-+-+--", "+-+-+--"},
		{"move", heapNamed(t, "move, midway"), "+++-+--", "+++-+--"},
		{"mend", heapNamed(t, "mend, midway"), "+++----", "+++----"},
		{"close", heapNamed(t, "close, begun"), "++--", "++--"},
		{"mark", heapNamed(t, "mark, midway"), "++-++", "++-++"},
	})
	table := heapOf(impl.PMove, weak(1, used(1, pair(at(4), at(3)))), used(2), used(3), moved(2), moved(1))
	table.Regs[0] = at(0)
	checkSeen(t, []seen{{"a moved key that is not held", table, "+++--", "+----"}})
	table.Regs[1] = at(1)
	checkSeen(t, []seen{{"a moved key that is held at its new place", table, "+++--", "+++--"}})
	doomed := heapOf(impl.PSweep, colored(impl.CBlack, used(1)), used(2, pair(at(0), at(2))), free(), used(3, pair(at(1), at(4))), colored(impl.CBlack, used(4)))
	doomed.Regs[0] = at(0)
	checkSeen(t, []seen{{"what only doomed cells lead to", doomed, "+----", "+----"}})
}

func TestLiveAndCounted(t *testing.T) {
	h := led([]int{0},
		weak(1, used(1, pair(at(1), at(2)), pair(num(1), at(3)))),
		used(2, make([]impl.Pair, 4)...),
		used(3, make([]impl.Pair, 8)...),
		used(4, make([]impl.Pair, 16)...),
		withLast(impl.LWants, used(5, make([]impl.Pair, 32)...)),
		withLast(impl.LDue, used(6, make([]impl.Pair, 64)...)),
		used(7, make([]impl.Pair, 128)...),
		free(),
	)
	wantRule(t, "units", h, 0)
	if live, counted := impl.Live(h), impl.Counted(h); live != 132 || counted != 2+16+64+3 {
		t.Error(live, counted)
	}
	h.Regs[8], h.Regs[9] = at(1), at(1)
	if live, counted := impl.Live(h), impl.Counted(h); live != 132 || counted != 2+4+8+16+64+5 {
		t.Error(live, counted)
	}
	h.Regs = make([]impl.Word, impl.MaxRegs)
	if live, counted := impl.Live(h), impl.Counted(h); live != 32+64+2 || counted != 64+1 {
		t.Error(live, counted)
	}
	if fresh := impl.Fresh(1); impl.Live(fresh) != 0 || impl.Counted(fresh) != 0 {
		t.Error("fresh:", impl.Live(fresh), impl.Counted(fresh))
	}
}

func kindsOf(g impl.Graph) []int {
	var list []int
	for _, n := range g.Nodes {
		list = append(list, n.Kind)
	}
	return list
}

// Kinds tell the order in which these cells are to be met.
func TestOrderOfMeeting(t *testing.T) {
	h := heapOf(impl.PIdle,
		kind(6, used(9, pair(at(7), at(5)))),
		kind(0, used(8, pair(at(4), at(6)), pair(at(0), at(2)))),
		kind(3, withLast(impl.LDue, used(7, pair(at(1), num(5))))),
		kind(1, used(6, pair(none(), at(10)), pair(at(3), at(1)))),
		kind(4, used(5)),
		kind(9, used(4)),
		kind(5, used(3, pair(num(4), at(5)))),
		kind(8, used(10, pair(at(9), none()))),
		kind(2, withLast(impl.LWants, used(1))),
		kind(10, used(11)),
		kind(7, used(12)),
		kind(77, used(2)),
	)
	h.Regs[3], h.Regs[5], h.Regs[14] = at(1), at(3), at(1)
	h.Regs[0], h.Regs[4] = num(3), num(-1)
	wantRule(t, "order", h, 0)
	g := impl.Shape(h)
	if got := kindsOf(g); !reflect.DeepEqual(got, []int{0, 1, 2, 3, 4, 5, 6, 7, 9, 8, 10}) {
		t.Error("order:", got)
	}
	want := make([]impl.Word, impl.MaxRegs)
	want[0], want[3], want[4], want[5], want[14] = num(3), at(0), num(-1), at(1), at(0)
	if !reflect.DeepEqual(g.Regs, want) {
		t.Error("registers:", g.Regs)
	}
	pairs := [][]impl.Pair{
		{pair(at(4), at(5)), pair(at(6), at(3))},
		{pair(none(), at(7)), pair(at(1), at(0))},
		nil,
		{pair(at(0), num(5))},
		nil,
		{pair(num(4), at(8))},
		{pair(at(9), at(8))},
		nil,
		nil,
		{pair(at(10), none())},
		nil,
	}
	for i, n := range plainGraph(g).Nodes {
		if !reflect.DeepEqual(n.Pairs, pairs[i]) {
			t.Error("pairs of", i, n.Pairs)
		}
	}
}

func TestRank(t *testing.T) {
	h := led([]int{4, 1},
		withLast(impl.LWants, kind(1, used(40))),
		withLast(impl.LDue, kind(2, used(30))),
		withLast(impl.LTold, kind(3, used(20))),
		withLast(impl.LWants, kind(4, used(10))),
		kind(5, used(5, pair(at(2), at(6)))),
		free(),
		withLast(impl.LDue, kind(7, used(50))),
	)
	g := impl.Shape(h)
	want := []impl.Node{
		{Kind: 5, Pairs: []impl.Pair{pair(at(5), at(4))}},
		{Kind: 2, Last: impl.LDue, Rank: 2},
		{Kind: 4, Last: impl.LWants, Rank: 1},
		{Kind: 1, Last: impl.LWants, Rank: 3},
		{Kind: 7, Last: impl.LDue, Rank: 4},
		{Kind: 3, Last: impl.LTold},
	}
	if !reflect.DeepEqual(plainGraph(g).Nodes, want) {
		t.Errorf("%+v", g.Nodes)
	}
}

func TestWhatNodesTell(t *testing.T) {
	for how := range 4 {
		for last := range 4 {
			c := weak(how, withLast(last, kind(impl.MaxKind, used(3, pair(num(-9), at(0))))))
			g := impl.Shape(led([]int{0, 0}, c))
			want := impl.Node{Kind: impl.MaxKind, Weak: how, Last: last, Pairs: []impl.Pair{pair(num(-9), at(0))}}
			if last == impl.LWants || last == impl.LDue {
				want.Rank = 1
			}
			if len(g.Nodes) != 1 || !reflect.DeepEqual(g.Nodes[0], want) || g.Regs[0] != at(0) || g.Regs[1] != at(0) {
				t.Errorf("%+v", g)
			}
		}
	}
	g := impl.Shape(impl.Fresh(7))
	if len(g.Nodes) != 0 || !reflect.DeepEqual(g.Regs, make([]impl.Word, impl.MaxRegs)) {
		t.Errorf("fresh: %+v", g)
	}
}

func TestShapeOfMovedCells(t *testing.T) {
	g := impl.Shape(heapNamed(t, "move, midway"))
	want := []impl.Node{
		{Pairs: []impl.Pair{pair(at(0), at(2))}},
		{Pairs: []impl.Pair{pair(at(3), num(9))}},
		{Last: impl.LWants, Rank: 1, Pairs: []impl.Pair{pair(at(3), at(0))}},
		{},
	}
	if !reflect.DeepEqual(plainGraph(g).Nodes, want) || g.Regs[0] != at(0) || g.Regs[9] != at(1) {
		t.Errorf("%+v", g)
	}
}

// Each rule in turn fails.
func TestChapter2WhereTheHeapIsNotSound(t *testing.T) {
	base := heapNamed(t, "mark, midway")
	spoil := []func(h *impl.Heap){
		func(h *impl.Heap) { h.Regs = h.Regs[1:] },
		func(h *impl.Heap) { h.Cells[0].Born = 4 },
		func(h *impl.Heap) { h.Used-- },
		func(h *impl.Heap) { h.Regs[0] = at(2) },
		func(h *impl.Heap) { h.Gray = nil },
		func(h *impl.Heap) { h.Sub = 3 },
		func(h *impl.Heap) { h.Cells[3].Pairs[0].Val = at(0) },
	}
	for i, change := range spoil {
		h := clone(base)
		change(&h)
		wantRule(t, "spoiled", h, i+1)
		wantNothing(t, "spoiled", h)
	}
	h := clone(heapNamed(t, "close, begun"))
	h.Hand = 3
	wantRule(t, "spoiled", h, 8)
	wantNothing(t, "spoiled", h)
	wantNothing(t, "zero value", impl.Heap{})
	wantNothing(t, "no registers", impl.Heap{Room: 5})
	wantNothing(t, "a word that is far off", heapWithWord(at(1<<60)))
	wantNothing(t, "a word of no kind", heapWithWord(impl.Word{Kind: 9}))
	wantNothing(t, "a million cells", impl.Heap{Room: 4000, Regs: make([]impl.Word, impl.MaxRegs), Cells: make([]impl.Cell, 1000000)})
}

func heapWithWord(w impl.Word) impl.Heap {
	return led([]int{0}, used(1, pair(w, w)))
}

func TestGreatHeaps(t *testing.T) {
	h := crowded(impl.PMove)
	for i := range impl.MaxRoom {
		h.Cells[i].Last = impl.LWants
	}
	wantRule(t, "crowded", h, 0)
	g := impl.Shape(h)
	if impl.Live(h) != impl.MaxRoom || impl.Counted(h) != 1 || len(g.Nodes) != impl.MaxRoom {
		t.Fatal("crowded:", impl.Live(h), impl.Counted(h), len(g.Nodes))
	}
	for i, n := range g.Nodes {
		if n.Rank != i+1 {
			t.Fatal("crowded: node", i, "has rank", n.Rank)
		}
	}
	const half = impl.MaxRoom / 2
	long := heapOf(impl.PIdle)
	for i := range half {
		long.Cells = append(long.Cells, used(1+i, pair(none(), at((i+1)%half))))
	}
	long = withRoom(long)
	long.Regs[15] = at(half - 1)
	g = impl.Shape(long)
	if impl.Live(long) != impl.MaxRoom || impl.Counted(long) != impl.MaxRoom || len(g.Nodes) != half || g.Nodes[half-1].Pairs[0].Val != at(0) {
		t.Error("long ring:", impl.Live(long), impl.Counted(long), len(g.Nodes))
	}
}

// withRoom has all the room that there can be, and counts Used and Born anew.
func withRoom(h impl.Heap) impl.Heap {
	counted := heapOf(h.Phase, h.Cells...)
	h.Used, h.Born, h.Room = counted.Used, counted.Born, impl.MaxRoom
	return h
}

// greatChain is a chain of keys through that many weak cells, a multiple of 220, held by lists of them.
func greatChain(tables int) impl.Heap {
	h := heapOf(impl.PIdle)
	for i := range tables {
		h.Cells = append(h.Cells, weak(1, used(1+i, pair(at(tables+i), at(tables+i+1)))))
	}
	for i := range tables + 1 {
		h.Cells = append(h.Cells, used(1+tables+i))
	}
	for place := 0; place < tables; place += 2 * 110 {
		list := used(1 + len(h.Cells))
		for i := range 110 {
			list.Pairs = append(list.Pairs, pair(at(place+2*i), at(place+2*i+1)))
		}
		h.Regs[place/220] = at(len(h.Cells))
		h.Cells = append(h.Cells, list)
	}
	return withRoom(h)
}

func TestGreatChainOfKeys(t *testing.T) {
	const tables = 1100
	h := greatChain(tables)
	wantRule(t, "tables", h, 0)
	if got := impl.Counted(h); got != h.Used-tables-1 || impl.Live(h) != h.Used {
		t.Error("let go:", got, impl.Live(h), h.Used)
	}
	h.Regs[15] = at(tables)
	if got := impl.Counted(h); got != h.Used {
		t.Error("held:", got, h.Used)
	}
}

func TestChapter2LeavesArguments(t *testing.T) {
	for _, s := range soundHeaps() {
		h, look := padded(s.heap)
		before := look()
		for range 2 {
			wantChapter2(t, s.name, h)
		}
		spoiled := h
		spoiled.Used++
		wantNothing(t, s.name, spoiled)
		if !reflect.DeepEqual(look(), before) {
			t.Errorf("%s: the argument was changed", s.name)
		}
	}
}

// What is written into one list of an answer, to its very end, is seen nowhere else.
func TestShapeSharesNothing(t *testing.T) {
	for _, s := range soundHeaps() {
		h, look := padded(s.heap)
		before := look()
		g := impl.Shape(h)
		for i := range g.Nodes {
			kept := plainGraph(g)
			spare := g.Nodes[i].Pairs[:cap(g.Nodes[i].Pairs)]
			for k := range spare {
				spare[k] = pair(num(123), num(123))
			}
			now := plainGraph(g)
			now.Nodes[i].Pairs, kept.Nodes[i].Pairs = nil, nil
			if !reflect.DeepEqual(now, kept) {
				t.Errorf("%s: lists of the answer share memory", s.name)
			}
		}
		regs := g.Regs[:cap(g.Regs)]
		for k := range regs {
			regs[k] = num(123)
		}
		reach, holds := impl.Reach(h), impl.Holds(h)
		for i := range reach {
			reach[i], holds[i] = !reach[i], !holds[i]
		}
		if !reflect.DeepEqual(look(), before) {
			t.Errorf("%s: the answer shares memory with the argument", s.name)
		}
		wantChapter2(t, s.name, h)
	}
}
