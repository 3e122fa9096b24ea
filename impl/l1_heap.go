package impl

import "cmp"

const (
	MaxRoom  = 4000
	MaxRegs  = 16
	MaxPairs = 200
	MaxKind  = 255
	MaxCount = 1000000000
	MaxPer   = 64
	MaxStep  = 100000
)

const (
	WNil = 0
	WNum = 1
	WAt  = 2
)

const (
	SFree  = 0
	SUsed  = 1
	SMoved = 2
)

const (
	CWhite = 0
	CGray  = 1
	CBlack = 2
)

const (
	LNone  = 0
	LWants = 1
	LDue   = 2
	LTold  = 3
)

const (
	PIdle  = 0
	PRoots = 1
	PMark  = 2
	PSweep = 3
	PMove  = 4
	PMend  = 5
	PClose = 6
)

// Word is what a register or half a pair holds: nothing, a number, or where a cell lies.
type Word struct {
	Kind int
	Num  int64
	At   int
}

// Pair is two words of a cell.
type Pair struct {
	Key Word
	Val Word
}

// Cell is a place of the heap: free, in use, or left by a cell that moved.
type Cell struct {
	State int
	Kind  int
	Weak  int
	Last  int
	Born  int
	Color int
	To    int
	Pairs []Pair
}

// Heap is cells and registers, and how far the collector is.
type Heap struct {
	Room   int
	Used   int
	Born   int
	Regs   []Word
	Cells  []Cell
	Phase  int
	Hand   int
	Sub    int
	Gray   []int
	Per    int
	Start  int
	Rounds int
	Forced int
}

// HeapOk answers 0 when the heap is sound, else the number of the first rule that fails.
func HeapOk(h Heap) int {
	return open(h).fault()
}

// Fresh is the heap of that room in which nothing was made yet.
func Fresh(room int) Heap {
	if !within(room, 1, MaxRoom) {
		return Heap{}
	}
	return Heap{Room: room, Regs: make([]Word, MaxRegs)}
}

// Resolve is what a word leads to in a sound heap.
func Resolve(h Heap, w Word) Word {
	v, ok := sound(h)
	if !ok || !v.formed(w) {
		return Word{}
	}
	if n := v.find(w); n != nil && n.cell.State == SFree {
		return Word{}
	}
	return v.resolved(w)
}

// least is a heap whose first item is the least that was put into it and not taken yet.
type least[T cmp.Ordered] struct {
	items []T
}

func (q *least[T]) put(item T) {
	q.items = append(q.items, item)
	at := len(q.items) - 1
	for at > 0 {
		above := (at - 1) / 2
		if q.items[above] <= q.items[at] {
			return
		}
		q.swap(above, at)
		at = above
	}
}

func (q *least[T]) first() (T, bool) {
	if len(q.items) == 0 {
		var none T
		return none, false
	}
	return q.items[0], true
}

func (q *least[T]) take() (T, bool) {
	item, ok := q.first()
	if !ok {
		return item, false
	}
	last := len(q.items) - 1
	q.swap(0, last)
	q.items = q.items[:last]
	q.sink()
	return item, true
}

// sink lets the first item go down to where it belongs.
func (q *least[T]) sink() {
	at := 0
	for {
		below := 2*at + 1
		if below >= len(q.items) {
			return
		}
		if below+1 < len(q.items) && q.items[below+1] < q.items[below] {
			below++
		}
		if q.items[at] <= q.items[below] {
			return
		}
		q.swap(at, below)
		at = below
	}
}

func (q *least[T]) swap(i, j int) {
	q.items[i], q.items[j] = q.items[j], q.items[i]
}

// drainDistinct takes all items, as equal ones come out one behind the other, and tells whether no two are equal.
func (q *least[T]) drainDistinct() bool {
	distinct := true
	for {
		item, ok := q.take()
		if !ok {
			return distinct
		}
		if next, more := q.first(); more && next == item {
			distinct = false
		}
	}
}

// node is a cell as it is reached inside, by pointer; its place is kept for those rules that speak of places.
type node struct {
	place int
	cell  *Cell
}

// view is a heap that is looked at and never written to, for its cells and lists are still the caller's.
type view struct {
	heap  Heap
	nodes []node
	free  least[int]
}

// open leaves a heap that is past its limits without nodes: it may be of any size, and no later rule is asked of it.
func open(h Heap) *view {
	v := &view{heap: h}
	if !v.limitsKept() {
		return v
	}
	v.nodes = make([]node, len(h.Cells))
	for i := range h.Cells {
		v.nodes[i] = node{place: i, cell: &h.Cells[i]}
		if h.Cells[i].State == SFree {
			v.free.put(i)
		}
	}
	return v
}

// sound is the view of a heap that keeps all rules.
func sound(h Heap) (*view, bool) {
	v := open(h)
	if v.fault() != 0 {
		return nil, false
	}
	return v, true
}

// fault asks the rules in order, so that each of them can lean on those before it.
func (v *view) fault() int {
	rules := [8]func() bool{
		v.limitsKept,
		v.cellsKept,
		v.roomKept,
		v.wordsKept,
		v.colorsKept,
		v.progressKept,
		v.marksKept,
		v.closingKept,
	}
	for i, kept := range rules {
		if !kept() {
			return i + 1
		}
	}
	return 0
}

// limitsKept is rule 1.
func (v *view) limitsKept() bool {
	h := &v.heap
	return within(h.Room, 1, MaxRoom) &&
		len(h.Regs) == MaxRegs &&
		len(h.Cells) <= 2*h.Room &&
		len(h.Gray) <= len(h.Cells) &&
		within(h.Born, 0, MaxCount) &&
		within(h.Rounds, 0, MaxCount) &&
		within(h.Forced, 0, MaxCount) &&
		within(h.Per, 0, MaxPer) &&
		within(h.Start, 0, MaxRoom) &&
		within(h.Phase, PIdle, PClose) &&
		within(h.Hand, 0, len(h.Cells)) &&
		within(h.Sub, 0, MaxPairs)
}

// cellsKept is rule 2; a cell that is neither free nor used nor moved fails it too.
func (v *view) cellsKept() bool {
	var births, targets least[int]
	for i := range v.nodes {
		n := &v.nodes[i]
		switch n.cell.State {
		case SFree:
			if !n.bare() || n.cell.To != 0 {
				return false
			}
		case SUsed:
			if !v.usedKept(n) {
				return false
			}
			births.put(n.cell.Born)
		case SMoved:
			if !v.movedKept(n) {
				return false
			}
			targets.put(n.cell.To)
		default:
			return false
		}
	}
	return births.drainDistinct() && targets.drainDistinct()
}

// bare tells whether the cell has nothing but its State and To.
func (n *node) bare() bool {
	c := n.cell
	return c.Kind == 0 && c.Weak == 0 && c.Last == 0 && c.Born == 0 && c.Color == 0 && len(c.Pairs) == 0
}

func (v *view) usedKept(n *node) bool {
	c := n.cell
	return within(c.Kind, 0, MaxKind) &&
		within(c.Weak, 0, 3) &&
		within(c.Last, LNone, LTold) &&
		within(c.Born, 1, v.heap.Born) &&
		within(c.Color, CWhite, CBlack) &&
		c.To == 0 &&
		len(c.Pairs) <= MaxPairs
}

func (v *view) movedKept(n *node) bool {
	if v.heap.Phase < PMove || !n.bare() || !within(n.cell.To, 0, n.place-1) {
		return false
	}
	if v.nodes[n.cell.To].cell.State != SUsed {
		return false
	}
	// Each move fills the least free place, so while moves go on the free places lie above all that were filled.
	gap, found := v.free.first()
	return v.heap.Phase != PMove || !found || gap > n.cell.To
}

// roomKept is rule 3.
func (v *view) roomKept() bool {
	units := 0
	for i := range v.nodes {
		if v.nodes[i].cell.State == SUsed {
			units += v.nodes[i].units()
		}
	}
	return v.heap.Used == units && units <= v.heap.Room
}

// wordsKept is rule 4.
func (v *view) wordsKept() bool {
	for _, w := range v.heap.Regs {
		if !v.leads(w, true) {
			return false
		}
	}
	for i := range v.nodes {
		n := &v.nodes[i]
		if v.doomed(n) {
			if !v.doomedKept(n) {
				return false
			}
		} else if !v.pairsLead(n) {
			return false
		}
	}
	return true
}

// doomedKept asks of words only that they are formed: where they lead nobody goes any more.
func (v *view) doomedKept(n *node) bool {
	for _, p := range n.cell.Pairs {
		if !v.formed(p.Key) || !v.formed(p.Val) {
			return false
		}
	}
	return !n.speaks()
}

func (v *view) pairsLead(n *node) bool {
	for i, p := range n.cell.Pairs {
		mended := v.mended(n, i)
		if !v.leads(p.Key, mended) || !v.leads(p.Val, mended) {
			return false
		}
	}
	return true
}

// leads tells whether the word is formed and, if it holds a place, whether it may hold that one outside of doomed cells.
func (v *view) leads(w Word, mended bool) bool {
	if !v.formed(w) {
		return false
	}
	n := v.find(w)
	if n == nil {
		return true
	}
	if n.cell.State == SMoved {
		return !mended
	}
	return n.cell.State == SUsed && !v.doomed(n)
}

// formed tells whether the word is one that this heap can hold.
func (v *view) formed(w Word) bool {
	switch w.Kind {
	case WNil:
		return w.Num == 0 && w.At == 0
	case WNum:
		return w.At == 0
	case WAt:
		return w.Num == 0 && within(w.At, 0, len(v.nodes)-1)
	}
	return false
}

// find is the cell whose place a formed word holds, nil when it holds none.
func (v *view) find(w Word) *node {
	if w.Kind != WAt {
		return nil
	}
	return &v.nodes[w.At]
}

// follow is the cell to which a formed word leads, nil when it holds no place.
func (v *view) follow(w Word) *node {
	n := v.find(w)
	if n != nil && n.cell.State == SMoved {
		return &v.nodes[n.cell.To]
	}
	return n
}

// resolved is what a formed word leads to, as a word.
func (v *view) resolved(w Word) Word {
	n := v.follow(w)
	if n == nil {
		return w
	}
	return n.word()
}

// word is the one that holds the cell's place.
func (n *node) word() Word {
	return Word{Kind: WAt, At: n.place}
}

// doomed tells whether the sweep that is on will free the cell.
func (v *view) doomed(n *node) bool {
	return v.heap.Phase == PSweep && n.white() && n.place >= v.heap.Hand
}

// mended tells whether that pair of the cell can no longer hold the place of a moved one.
func (v *view) mended(n *node, pair int) bool {
	switch v.heap.Phase {
	case PMove:
		return false
	case PMend:
		return n.place < v.heap.Hand || n.place == v.heap.Hand && pair < v.heap.Sub
	}
	return true
}

// units is the room that the cell takes while it is used.
func (n *node) units() int {
	return 1 + len(n.cell.Pairs)
}

func (n *node) white() bool {
	return n.cell.State == SUsed && n.cell.Color == CWhite
}

// speaks tells whether the cell's last word is still to come, which keeps it alive.
func (n *node) speaks() bool {
	return n.cell.Last == LWants || n.cell.Last == LDue
}

// colorsKept is rule 5.
func (v *view) colorsKept() bool {
	grays := 0
	for i := range v.nodes {
		n := &v.nodes[i]
		switch n.cell.Color {
		case CGray:
			grays++
		case CBlack:
			if !v.mayBeBlack(n) {
				return false
			}
		}
	}
	if !v.marking() && grays > 0 {
		return false
	}
	return len(v.heap.Gray) == grays && v.grayKept()
}

func (v *view) marking() bool {
	return v.heap.Phase == PRoots || v.heap.Phase == PMark
}

func (v *view) mayBeBlack(n *node) bool {
	return v.marking() || v.heap.Phase == PSweep && n.place >= v.heap.Hand
}

// grayKept tells whether Gray holds places of gray cells only, and none twice.
func (v *view) grayKept() bool {
	var places least[int]
	for _, at := range v.heap.Gray {
		if !within(at, 0, len(v.nodes)-1) || v.nodes[at].cell.Color != CGray {
			return false
		}
		places.put(at)
	}
	return places.drainDistinct()
}

// progressKept is rule 6.
func (v *view) progressKept() bool {
	switch v.heap.Phase {
	case PIdle, PMove:
		return v.heap.Hand == 0 && v.heap.Sub == 0
	case PMark:
		return v.heap.Hand == 0 && v.heap.Sub <= len(v.grayPairs())
	case PMend:
		return v.heap.Sub <= len(v.handPairs())
	}
	return v.heap.Sub == 0
}

// grayPairs are the pairs of the first cell in Gray, none when Gray is empty.
func (v *view) grayPairs() []Pair {
	if len(v.heap.Gray) == 0 {
		return nil
	}
	return v.nodes[v.heap.Gray[0]].cell.Pairs
}

// handPairs are the pairs of the cell at Hand, none when Hand is behind all cells.
func (v *view) handPairs() []Pair {
	if v.heap.Hand == len(v.nodes) {
		return nil
	}
	return v.nodes[v.heap.Hand].cell.Pairs
}

// marksKept is rule 7.
func (v *view) marksKept() bool {
	if !v.marking() {
		return true
	}
	for i := range v.nodes {
		n := &v.nodes[i]
		if n.speaks() && n.white() && v.rootSeen(n) {
			return false
		}
		if n.cell.Color == CBlack && v.anyWhite(n.cell.Pairs) {
			return false
		}
	}
	// Sub is 0 in PRoots, and rule 6 keeps it within these pairs in PMark.
	return !v.anyWhite(v.grayPairs()[:v.heap.Sub])
}

// rootSeen tells whether the marking has been at the cell to see if its last word makes it a root.
func (v *view) rootSeen(n *node) bool {
	return v.heap.Phase == PMark || n.place < v.heap.Hand
}

// anyWhite tells whether one of the pairs holds the place of a white cell.
func (v *view) anyWhite(pairs []Pair) bool {
	for _, p := range pairs {
		if v.holdsWhite(p.Key) || v.holdsWhite(p.Val) {
			return true
		}
	}
	return false
}

func (v *view) holdsWhite(w Word) bool {
	n := v.find(w)
	return n != nil && n.white()
}

// closingKept is rule 8.
func (v *view) closingKept() bool {
	if v.heap.Phase != PClose {
		return true
	}
	for i := range v.nodes {
		n := &v.nodes[i]
		if n.cell.State == SMoved && n.place >= v.heap.Hand {
			return false
		}
	}
	return true
}

func within(n, low, high int) bool {
	return low <= n && n <= high
}
