import Derived.Test.YtddkhnclmeikfaaGreatHh
namespace Go.Proofs.YtddkhnclmeikfaaGreat
open Go.RowKit
attribute [local go_sem ↓] Go.wp_at_zero Go.wp_at_succ
def pairO(w:World)(b o:Nat)(p:Pr):World:=(((((w.setCell ⟨b,o,none⟩ (iv p.key.k)).setCell ⟨b,o+1,none⟩ (iv p.key.n)).setCell ⟨b,o+2,none⟩ (iv p.key.a)).setCell ⟨b,o+3,none⟩ (iv p.val.k)).setCell ⟨b,o+4,none⟩ (iv p.val.n)).setCell ⟨b,o+5,none⟩ (iv p.val.a)
theorem pairO_at(w:World)(b o:Nat)(p q:Pr)(h:PrAt w b o q):PrAt (pairO w b o p) b o p:=by
 obtain⟨h0,h1,h2,h3,h4,h5⟩:=h;unfold pairO;refine⟨?_,?_,?_,?_,?_,?_⟩
 ·iterate 5 rw[cell_other _ (.inr (by omega))]
  exact cs_same h0
 ·iterate 4 rw[cell_other _ (.inr (by omega))]
  refine cs_same (u:=iv q.key.n) ?_;rw[cell_other _ (.inr (by omega))];exact h1
 ·iterate 3 rw[cell_other _ (.inr (by omega))]
  refine cs_same (u:=iv q.key.a) ?_
  iterate 2 rw[cell_other _ (.inr (by omega))]
  exact h2
 ·iterate 2 rw[cell_other _ (.inr (by omega))]
  refine cs_same (u:=iv q.val.k) ?_
  iterate 3 rw[cell_other _ (.inr (by omega))]
  exact h3
 ·rw[cell_other _ (.inr (by omega))];refine cs_same (u:=iv q.val.n) ?_
  iterate 4 rw[cell_other _ (.inr (by omega))]
  exact h4
 ·refine cs_same (u:=iv q.val.a) ?_
  iterate 5 rw[cell_other _ (.inr (by omega))]
  exact h5
theorem pairO_only(w:World)(b o:Nat)(p:Pr):Only (fun q=>q=b) w (pairO w b o p):=
 Only.setCell (S:=fun q=>q=b) (Only.setCell (S:=fun q=>q=b) (Only.setCell (S:=fun q=>q=b) (Only.setCell (S:=fun q=>q=b) (Only.setCell (S:=fun q=>q=b) (Only.setCell (S:=fun q=>q=b) (Only.refl _ w) (p:=⟨b,o,none⟩) rfl _) (p:=⟨b,o+1,none⟩) rfl _) (p:=⟨b,o+2,none⟩) rfl _) (p:=⟨b,o+3,none⟩) rfl _) (p:=⟨b,o+4,none⟩) rfl _) (p:=⟨b,o+5,none⟩) rfl _
theorem pairO_nf{w:World}{b:Nat}(h:Nf1 b w)(o:Nat)(p:Pr):Nf1 b (pairO w b o p):=(((((h.set _ _).set _ _).set _ _).set _ _).set _ _).set _ _
theorem pairO_other(w:World)(b o:Nat)(p:Pr)(k:Nat)(hk:k<o∨o+6≤k):(pairO w b o p).cell? ⟨b,k,none⟩=w.cell? ⟨b,k,none⟩:=by
 unfold pairO
 iterate 6 rw[cell_other _ (.inr (by omega))]
end Go.Proofs.YtddkhnclmeikfaaGreat
