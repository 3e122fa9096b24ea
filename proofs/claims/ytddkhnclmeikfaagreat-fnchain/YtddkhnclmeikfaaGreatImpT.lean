import Derived.Test.YtddkhnclmeikfaaGreatHh
import Derived.Test.YtddkhnclmeikfaaGreatWx
namespace Go.Proofs.YtddkhnclmeikfaaGreat
open Go.RowKit
attribute [local go_sem ↓] Go.wp_at_zero Go.wp_at_succ
def pairW(w:World)(b:Nat)(p:Pr):World:=(((((w.setCell ⟨b,0,none⟩ (.int .i64 p.key.k)).setCell ⟨b,1,none⟩ (.int .i64 p.key.n)).setCell ⟨b,2,none⟩ (.int .i64 p.key.a)).setCell ⟨b,3,none⟩ (.int .i64 p.val.k)).setCell ⟨b,4,none⟩ (.int .i64 p.val.n)).setCell ⟨b,5,none⟩ (.int .i64 p.val.a)
theorem pairW_at(w:World)(b:Nat)(p:Pr)(v0 v1 v2 v3 v4 v5:Value)(h0:w.cell? ⟨b,0,none⟩=some v0)(h1:w.cell? ⟨b,1,none⟩=some v1)(h2:w.cell? ⟨b,2,none⟩=some v2)(h3:w.cell? ⟨b,3,none⟩=some v3)(h4:w.cell? ⟨b,4,none⟩=some v4)(h5:w.cell? ⟨b,5,none⟩=some v5):PrAt (pairW w b p) b 0 p:=by
 unfold pairW;refine⟨?_,?_,?_,?_,?_,?_⟩
 ·iterate 5 rw[cell_other _ (.inr (by omega))]
  exact cs_same h0
 ·iterate 4 rw[cell_other _ (.inr (by omega))]
  refine cs_same (u:=v1) ?_;rw[cell_other _ (.inr (by omega))];exact h1
 ·iterate 3 rw[cell_other _ (.inr (by omega))]
  refine cs_same (u:=v2) ?_
  iterate 2 rw[cell_other _ (.inr (by omega))]
  exact h2
 ·iterate 2 rw[cell_other _ (.inr (by omega))]
  refine cs_same (u:=v3) ?_
  iterate 3 rw[cell_other _ (.inr (by omega))]
  exact h3
 ·rw[cell_other _ (.inr (by omega))];refine cs_same (u:=v4) ?_
  iterate 4 rw[cell_other _ (.inr (by omega))]
  exact h4
 ·refine cs_same (u:=v5) ?_
  iterate 5 rw[cell_other _ (.inr (by omega))]
  exact h5
theorem pairW_ext{a w:World}{b:Nat}(p:Pr)(h:Ext a w)(hb:a.heap.size≤b):Ext a (pairW w b p):=by
 unfold pairW;exact(((((h.setCell (p:=⟨b,0,none⟩) hb _).setCell (p:=⟨b,1,none⟩) hb _).setCell (p:=⟨b,2,none⟩) hb _).setCell (p:=⟨b,3,none⟩) hb _).setCell (p:=⟨b,4,none⟩) hb _).setCell (p:=⟨b,5,none⟩) hb _
theorem pair_box(w:World)(n:Nat)(p:Pr)(t:TypeId):Ext w (pairW ((w.drewN n).alloc (.cells #[.int .i64 0,.int .i64 0,.int .i64 0,.int .i64 0,.int .i64 0,.int .i64 0] t)) w.heap.size p)∧PrAt (pairW ((w.drewN n).alloc (.cells #[.int .i64 0,.int .i64 0,.int .i64 0,.int .i64 0,.int .i64 0,.int .i64 0] t)) w.heap.size p) w.heap.size 0 p:=
 ⟨pairW_ext p (((Ext.refl w).drewN n).alloc _) (Nat.le_refl _),pairW_at _ _ p _ _ _ _ _ _ (dalloc_new w n _ t 0) (dalloc_new w n _ t 1) (dalloc_new w n _ t 2) (dalloc_new w n _ t 3) (dalloc_new w n _ t 4) (dalloc_new w n _ t 5)⟩
theorem prs200{x:Hp}(r2:R2 x)(i:Nat)(hi:i<x.cells.length):(x.c i).prs.length≤200:=by
 rcases r2.1 i hi with c | c | c
 ·have:=c.2.1.2.2.2.2.2;omega
 ·have:=c.2.1.2.2.2.2.2;omega
 ·exact c.2.2.2.2.2.2.2
end Go.Proofs.YtddkhnclmeikfaaGreat
