import Derived.Test.YtddkhnclmeikfaaGreatProg
import Derived.Deep.DrawnRows
import Derived.Deep.RegionHeld3
import Derived.Laws.Pointers
import Derived.Outline
import Derived.WalkKit
import Derived.WalkLawsBesides
import Derived.WalkSpells
namespace Go.Proofs.YtddkhnclmeikfaaGreat
open Go.RowKit
theorem ptr_nil(bn o:Nat)(w:World):(binOp .eql 126 (.pointer none) (.pointer (some ⟨bn,o,none⟩))).run Tryz.prog w=.ok (.bool false) w:=by kernel_rfl
theorem psame_block{P:Program}(w:World)(bn p q:Nat):(sameAddr ⟨bn,p,none⟩ ⟨bn,q,none⟩).run P w=.ok (p == q) w:=by
 have:((⟨bn,p,none⟩:Addr) == ⟨bn,q,none⟩)=(p == q):=by
  rw[Bool.eq_iff_iff];simp
 simp [sameAddr,this]
theorem pequalIn{P:Program}(w:World)(d:Nat)(t e:TypeId)(i:TypeInfo)(ht:P.underlying t=some (.pointer e))(hi:P.info? e=some i)(hs:i.size≠0)(bn p q:Nat):
  (Op.equalIn (d+1) t (.pointer (some ⟨bn,p,none⟩)) (.pointer (some ⟨bn,q,none⟩))).run P w=.ok (p == q) w:=by
 simp [Op.equalIn,run_underlying ht,sizeOf,typeInfo,hi,hs,psame_block]
theorem infoNodeZ:(Tryz.prog.info? 124).map (fun i=>i.size)=some 2:=by kernel_rfl
theorem ptr_eq(bn p q:Nat)(w:World):(binOp .eql 126 (.pointer (some ⟨bn,p,none⟩)) (.pointer (some ⟨bn,q,none⟩))).run Tryz.prog w=.ok (.bool (p == q)) w:=by
 obtain⟨i,hi,hs⟩:∃i,Tryz.prog.info? 124=some i∧i.size=2:=by
  have:=infoNodeZ;cases h:Tryz.prog.info? 124 with
  | none=>rw[h] at this;simp at this
  | some i=>rw[h] at this;simp at this;exact⟨i,rfl,this⟩
 have he:(Op.equalIn 10000 126 (.pointer (some ⟨bn,p,none⟩)) (.pointer (some ⟨bn,q,none⟩))).run Tryz.prog w=.ok (p == q) w:=by
  exact pequalIn w 9999 126 124 i Tryz.underlying126 hi (by omega) bn p q
 simp only [binOp];simp [Op.equal,Op.maxDepth,he]
theorem ptr_no(bn p q:Nat)(w:World)(h:¬p=q):(binOp .eql 126 (.pointer (some ⟨bn,p,none⟩)) (.pointer (some ⟨bn,q,none⟩))).run Tryz.prog w=.ok (.bool false) w:=by
 rw[ptr_eq,beq_eq_false_iff_ne.2 h]
theorem ptr_yes(bn p:Nat)(w:World):(binOp .eql 126 (.pointer (some ⟨bn,p,none⟩)) (.pointer (some ⟨bn,p,none⟩))).run Tryz.prog w=.ok (.bool true) w:=by
 rw[ptr_eq];simp
end Go.Proofs.YtddkhnclmeikfaaGreat
