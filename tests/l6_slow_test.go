package tests

import (
	"slices"
	"testing"

	"loop.example/spool/impl"
)

// Chapter 6 once more, word by word and without any care for speed.

// slowIdeally keeps its things as the cells of a heap that no round ever goes through; its Used and Room mean nothing.
func slowIdeally(room int, acts []impl.Act) impl.Ideal {
	if room < 1 || room > 4000 || len(acts) > 1000 {
		return impl.Ideal{}
	}
	things := impl.Heap{Regs: make([]impl.Word, 16)}
	out := impl.Ideal{Ok: true}
	for _, a := range acts {
		out.Ans = append(out.Ans, slowIdealAct(room, &things, a))
	}
	out.Graph = slowShape(things)
	out.Made = len(things.Cells)
	return out
}

func slowIdealAct(room int, things *impl.Heap, a impl.Act) impl.Ans {
	if code := slowCode(*things, a); code != 0 {
		return impl.Ans{Code: code}
	}
	switch a.Op {
	case impl.AStep, impl.APace, impl.ARound:
		return impl.Ans{}
	case impl.ANew, impl.AGrow:
		if slowUnits(*things, slowReach(*things))+slowWants(a) > room {
			return impl.Ans{Code: impl.NotRoom}
		}
	}
	return impl.Ans{Num: slowEffect(things, a)}
}

func slowPlain(acts []impl.Act) []impl.Act {
	var list []impl.Act
	for _, a := range acts {
		if !ofCollector(a) {
			list = append(list, a)
		}
	}
	return list
}

func ofCollector(a impl.Act) bool {
	return a.Op == impl.AStep || a.Op == impl.APace || a.Op == impl.ARound
}

// othersOf are the answers at the acts that are not the collector's.
func othersOf(acts []impl.Act, ans []impl.Ans) []impl.Ans {
	var list []impl.Ans
	for i, a := range acts {
		if !ofCollector(a) {
			list = append(list, ans[i])
		}
	}
	return list
}

// differs is the first place at which the answers are not the same, -1 when there is none.
func differs(a, b []impl.Ans) int {
	for i := range max(len(a), len(b)) {
		if i >= len(a) || i >= len(b) || a[i] != b[i] {
			return i
		}
	}
	return -1
}

// wantPlayed asks of a script that Play answers what Do answers act by act, with a sound heap behind each, and counts their Phases.
func wantPlayed(t *testing.T, name string, room int, acts []impl.Act, phases *[7]int) {
	t.Helper()
	got := impl.Play(room, acts)
	h := impl.Fresh(room)
	var ans []impl.Ans
	for i, a := range acts {
		done := impl.Do(h, a)
		h = done.Heap
		ans = append(ans, done.Ans)
		phases[h.Phase]++
		if rule := impl.HeapOk(h); rule != 0 {
			t.Fatalf("%s: room %d: behind act %d not sound, rule %d: %+v", name, room, i, rule, acts[:i+1])
		}
	}
	if i := differs(got.Ans, ans); !got.Ok || i >= 0 {
		t.Fatalf("%s: room %d: Ok %v, at act %d not what Do answers: %+v", name, room, got.Ok, i, acts)
	}
	if !sameHeap(got.Heap, h) {
		t.Fatalf("%s: room %d: %+v, want %+v: %+v", name, room, got.Heap, h, acts)
	}
}

// wantIdeal is promise P7: the answers and the Shape of Play are those of the ideal store; it gives what both answer.
func wantIdeal(t *testing.T, name string, room int, acts []impl.Act) (impl.Played, impl.Ideal) {
	t.Helper()
	got, want := impl.Play(room, acts), impl.Ideally(room, acts)
	if !got.Ok || !want.Ok || len(got.Ans) != len(acts) {
		t.Fatalf("%s: room %d, %d acts: Ok %v and %v, %d answers", name, room, len(acts), got.Ok, want.Ok, len(got.Ans))
	}
	if i := differs(got.Ans, want.Ans); i >= 0 {
		t.Fatalf("%s: room %d: at act %d Play %+v, Ideally %+v: %+v", name, room, i, got.Ans, want.Ans, acts)
	}
	if impl.HeapOk(got.Heap) != 0 || !sameGraph(impl.Shape(got.Heap), want.Graph) {
		t.Fatalf("%s: room %d: Shape %+v, Graph %+v: %+v", name, room, impl.Shape(got.Heap), want.Graph, acts)
	}
	if want.Made != got.Heap.Born {
		t.Fatalf("%s: room %d: Made %d, Born %d: %+v", name, room, want.Made, got.Heap.Born, acts)
	}
	return got, want
}

// wantSlowIdeal holds Ideally against its slow writing.
func wantSlowIdeal(t *testing.T, name string, room int, acts []impl.Act) {
	t.Helper()
	got, want := impl.Ideally(room, acts), slowIdeally(room, acts)
	if i := differs(got.Ans, want.Ans); got.Ok != want.Ok || i >= 0 {
		t.Fatalf("%s: room %d: at act %d %+v, want %+v: %+v", name, room, i, got.Ans, want.Ans, acts)
	}
	if got.Made != want.Made || !sameGraph(got.Graph, want.Graph) {
		t.Fatalf("%s: room %d: Made %d, want %d: %+v, want %+v: %+v", name, room, got.Made, want.Made, got.Graph, want.Graph, acts)
	}
}

// chainActs makes, in register a, a cell that holds keys weakly, with n keys each of which is the value beside the one before; register b holds the first of them, or nothing.
func chainActs(a, b, n, last int, hold bool) []impl.Act {
	acts := []impl.Act{actOf(impl.ANew, a, 1, n), actOf(impl.AWeak, a, 0, 1), actOf(impl.ANew, b, 2, 0)}
	const key = 14
	acts = append(acts, actOf(impl.ACopy, key, b, 0))
	for i := range n {
		acts = append(acts, actOf(impl.ASetKey, a, key, i), actOf(impl.ALast, key, 0, last), actOf(impl.ANew, key, 3+i, 0), actOf(impl.ASetVal, a, key, i))
	}
	acts = append(acts, actOf(impl.ANil, key, 0, 0))
	if !hold {
		acts = append(acts, actOf(impl.ANil, b, 0, 0))
	}
	return acts
}

// lastActs lets go of a cell that wants a last word and leads to others, has it told, and mostly stores it away.
func lastActs(d *dice) []impl.Act {
	r, to := d.below(6), d.below(7)
	acts := []impl.Act{actOf(impl.ANew, r, 7, 1+d.below(2)), actOf(impl.ALast, r, 0, 1), actOf(impl.ASetVal, r, to, 0), actOf(impl.ANil, r, 0, 0), actOf(impl.ASettle, 0, 0, 0)}
	if d.below(3) > 0 {
		acts = append(acts, actOf(impl.ADue, r, 0, 0), actOf(impl.AKind, r, 0, 0), actOf(impl.ASetKey, to, r, 0))
	}
	if d.below(3) == 0 {
		acts = append(acts, actOf(impl.ALast, r, 0, 1), actOf(impl.ANil, r, 0, 0))
	}
	return acts
}

// collectorAct is a step of any size, a pace or a round, now and then one that is none.
func collectorAct(d *dice) impl.Act {
	switch d.below(8) {
	case 0:
		return actOf(impl.ARound, 0, 0, 0)
	case 1:
		return actOf(impl.APace, 0, d.below(65), d.below(1+d.below(4001)))
	case 2:
		return actOf(impl.AStep, 0, 0, d.below(100001))
	case 3:
		return actOf(impl.AStep+d.below(3), d.below(2), 0, -d.below(2))
	}
	return actOf(impl.AStep, 0, 0, d.below(60))
}

// draft is a script that is being drawn. Its heap has what the acts would do with no end of room and without settling: enough to see that most acts find what they want.
type draft struct {
	d    *dice
	acts []impl.Act
	heap impl.Heap
}

func (s *draft) add(acts ...impl.Act) {
	for _, a := range acts {
		s.acts = append(s.acts, a)
		if a.Op < impl.ASettle && slowCode(s.heap, a) == 0 {
			slowEffect(&s.heap, a)
		}
	}
}

// act is one of this Op that finds what it wants, if there soon is one.
func (s *draft) act(op int) impl.Act {
	a := throwAct(s.d, op)
	for range s.d.below(20) {
		if slowCode(s.heap, a) == 0 {
			break
		}
		a = throwAct(s.d, op)
	}
	return a
}

// scriptOf is a script of n acts by dice, with steps and the like among them: every Op, chains of weak keys, last words, acts that are none; wide ones have great cells.
func scriptOf(d *dice, n int, wide bool) []impl.Act {
	s := &draft{d: d, heap: impl.Heap{Regs: make([]impl.Word, impl.MaxRegs)}}
	bad := badActs()
	for len(s.acts) < n {
		switch d.below(30) {
		case 0:
			s.add(chainActs(d.below(6), d.below(7), d.below(5), d.below(2), d.below(2) == 0)...)
		case 1, 2:
			s.add(lastActs(d)...)
		case 3, 4, 5:
			s.add(collectorAct(d))
		case 6:
			s.add(s.act(lastWords[d.below(len(lastWords))]))
		case 7:
			s.add(bad[d.below(len(bad))])
		case 8, 9, 10:
			if wide {
				s.add(actOf(impl.ANew, d.below(7), 0, d.below(201)))
			}
			s.add(s.act(impl.AGrow))
		case 11, 12:
			s.add(s.act(impl.ANew))
		case 13:
			s.add(s.act(impl.ANum), s.act(impl.ANumber))
		case 14:
			s.add(actOf(impl.AGrow, d.below(7), 0, 196+d.below(5)))
		case 15, 16:
			s.add(s.act(impl.AKey), s.act(impl.AVal))
		default:
			s.add(s.act(impl.ANew + d.below(impl.ARound)))
		}
	}
	return s.acts[:n]
}

// shows counts what scripts have shown, so that none of it stays out by chance.
type shows struct {
	codes                              [6]int
	ops                                [25]int
	phases                             [7]int
	told, due, forced, rounds, garbage int
}

func (n *shows) add(acts []impl.Act, p impl.Played, i impl.Ideal) {
	for k, a := range acts {
		n.codes[p.Ans[k].Code]++
		if p.Ans[k].Code == 0 {
			n.ops[a.Op]++
		}
		if a.Op == impl.ADue && p.Ans[k].Num == 1 {
			n.told++
		}
		if a.Op == impl.ASettle && p.Ans[k].Num > 0 {
			n.due++
		}
	}
	n.forced += p.Heap.Forced
	n.rounds += p.Heap.Rounds
	n.garbage += i.Made - len(i.Graph.Nodes)
}

func (n *shows) check(t *testing.T, least int) {
	t.Helper()
	for op := impl.ANew; op <= impl.ARound; op++ {
		if n.ops[op] < least {
			t.Errorf("Op %d only %d times", op, n.ops[op])
		}
	}
	for code, times := range n.codes {
		if times < least {
			t.Errorf("Code %d only %d times", code, times)
		}
	}
	for phase, times := range n.phases {
		if times < least {
			t.Errorf("Phase %d only %d times", phase, times)
		}
	}
	if n.told < least || n.due < least || n.forced < least || n.rounds < least || n.garbage < least {
		t.Errorf("%+v", n)
	}
}

// Small rooms: the same answers as the ideal store has, and as its slow writing has; every heap behind every act is sound.
func TestPlayAgainstIdeallyInSmallRooms(t *testing.T) {
	var n shows
	d := dice(31)
	for range 1500 {
		room := 1 + d.below(1+d.below(60))
		acts := scriptOf(&d, d.below(150), false)
		wantPlayed(t, "small", room, acts, &n.phases)
		wantSlowIdeal(t, "small", room, acts)
		p, i := wantIdeal(t, "small", room, acts)
		n.add(acts, p, i)
	}
	n.check(t, 100)
}

func TestPlayAgainstIdeallyInGreatRooms(t *testing.T) {
	var n shows
	d := dice(32)
	for range 150 {
		room := 200 + d.below(impl.MaxRoom-199)
		acts := scriptOf(&d, 600+d.below(401), true)
		p, i := wantIdeal(t, "great", room, acts)
		n.add(acts, p, i)
	}
	for range 20 {
		acts := scriptOf(&d, impl.MaxActs, true)
		wantPlayed(t, "great", 200+d.below(impl.MaxRoom-199), acts, &n.phases)
		wantSlowIdeal(t, "great", 200+d.below(impl.MaxRoom-199), acts[:300])
	}
	n.check(t, 20)
}

// Behind each of its acts a script is one of its own: the Shape is the Graph all the way.
func TestPlayAgainstIdeallyAtEachAct(t *testing.T) {
	d := dice(33)
	for range 60 {
		room := 1 + d.below(40)
		acts := scriptOf(&d, 80, false)
		whole := impl.Play(room, acts)
		for n := range acts {
			p, _ := wantIdeal(t, "so far", room, acts[:n])
			if i := differs(p.Ans, whole.Ans[:n]); i >= 0 {
				t.Fatalf("room %d: the answer at act %d hangs on later ones: %+v", room, i, acts)
			}
		}
	}
}

// mixed puts other acts of the collector in any places of a script, as many as it can have.
func mixed(d *dice, plain []impl.Act, one func() impl.Act) []impl.Act {
	var acts []impl.Act
	spare := impl.MaxActs - len(plain)
	for _, a := range plain {
		for spare > 0 && d.below(2) == 0 {
			acts = append(acts, one())
			spare--
		}
		acts = append(acts, a)
	}
	return acts
}

// Promise P8: with steps, paces and rounds taken out, and with others put in, the other acts answer the same.
func TestScriptsWithoutAndWithOtherSteps(t *testing.T) {
	d := dice(34)
	changed, refused := 0, 0
	for i := range 400 {
		room := 1 + d.below(1+d.below(60))
		if i%8 == 0 {
			room = impl.MaxRoom - d.below(3000)
		}
		acts := scriptOf(&d, d.below(300), i%8 == 0)
		plain := impl.Plain(acts)
		if !slices.Equal(plain, slowPlain(acts)) {
			t.Fatalf("%+v: %+v", acts, plain)
		}
		whole := impl.Play(room, acts)
		want := othersOf(acts, whole.Ans)
		got := impl.Play(room, plain)
		if k := differs(got.Ans, want); k >= 0 || !sameGraph(impl.Shape(got.Heap), impl.Shape(whole.Heap)) {
			t.Fatalf("room %d: the plain script at act %d: %+v", room, k, acts)
		}
		each := []func() impl.Act{
			func() impl.Act { return collectorAct(&d) },
			func() impl.Act { return actOf(impl.AStep, 0, 0, 1) },
			func() impl.Act { return actOf(impl.AStep, 0, 0, 1+d.below(7)) },
			func() impl.Act { return actOf(impl.ARound, 0, 0, 0) },
			func() impl.Act { return actOf(impl.APace, 0, d.below(4), d.below(room)) },
		}
		for _, one := range each {
			busy := mixed(&d, plain, one)
			got, ideal := impl.Play(room, busy), impl.Ideally(room, busy)
			if k := differs(othersOf(busy, got.Ans), want); k >= 0 || !sameGraph(impl.Shape(got.Heap), impl.Shape(whole.Heap)) {
				t.Fatalf("room %d: with others put in, at act %d of the plain ones: %+v", room, k, busy)
			}
			if k := differs(ideal.Ans, got.Ans); k >= 0 || !sameGraph(ideal.Graph, impl.Shape(got.Heap)) {
				t.Fatalf("room %d: with others put in, Ideally at act %d: %+v", room, k, busy)
			}
			if !sameHeap(got.Heap, whole.Heap) {
				changed++
			}
		}
		for _, a := range want {
			if a.Code == impl.NotRoom {
				refused++
			}
		}
	}
	if changed < 1000 || refused < 1000 {
		t.Error(changed, "other heaps,", refused, "refused")
	}
}
