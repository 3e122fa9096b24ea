import Derived.Test.YtolmnenlnpbcfaaGreatDoorProg
import Derived.Deep.DrawnRows
import Derived.Deep.RegionHeld3
import Derived.Outline
import Derived.WalkKit
import Derived.WalkLawsBesides
import Derived.WalkSpells
namespace Go.Proofs.YtolmnenlnpbcfaaGreatDoor
open Go.RowKit Tryz
variable{w w' a c:World}{b o sz:Nat}{S:Nat->Prop}{p:Addr}
abbrev aA (b k : Nat) : Addr := ⟨b, k, none⟩
abbrev pP (b : Nat) : Value := .pointer (some ⟨b, 0, none⟩)
abbrev pQ (b k : Nat) : Value := .pointer (some ⟨b, k, none⟩)
abbrev sS (b n k : Nat) : Value := .slice (some ⟨b, 0, none⟩) n k
abbrev sO (b o n k : Nat) : Value := .slice (some ⟨b, o, none⟩) n k
structure Wd where
 k:Int
 n:Int
 a:Int
structure Pr where
 key:Wd
 val:Wd
structure Cl where
 st:Int
 kind:Int
 T:Int
 U:Int
 born:Int
 J:Int
 to:Int
 F:List Pr
structure Hp where
 M:Int
 K:Int
 born:Int
 B:List Wd
 A:List Cl
 E:Int
 I:Int
 sub:Int
 D:List Int
 per:Int
 V:Int
 Q:Int
 S:Int
abbrev iv(n:Int):Value:=.int .i64 n
abbrev Wd.v(x:Wd):Value:=.agg #[iv x.k,iv x.n,iv x.a]
abbrev Pr.v(x:Pr):Value:=.agg #[iv x.key.k,iv x.key.n,iv x.key.a,iv x.val.k,iv x.val.n,iv x.val.a]
abbrev Hp.v(x:Hp)(vr vc vg:Value):Value:=.agg #[iv x.M,iv x.K,iv x.born,vr,vc,iv x.E,iv x.I,iv x.sub,vg,iv x.per,iv x.V,iv x.Q,iv x.S]
theorem uU{p:Prop}(h:p):Hid p:=h
theorem uH{p:Prop}(h:Hid p):p:=h
abbrev Ext(w w':World):Prop:=Below w.heap.size w w'
theorem Ext.refl(w:World):Ext w w:=Below.refl _ _
theorem Ext.trans{b:World}(h:Ext a b)(k:Ext b c):Ext a c:=Below.trans h (Below.mono k h.size)
theorem Ext.alloc(h:Ext a w)(o:Obj):Ext a (w.alloc o):=Below.alloc h h.size o
theorem Ext.drew(h:Ext a w):Ext a w.drew:=Below.drew h
theorem Ext.setCell(h:Ext a w)(b:a.heap.size<=p.block)(u:Value):Ext a (w.setCell p u):=Below.setCell h b u
theorem uZ{v:Value}(h:w.cell? p=some v):p.block<w.heap.size:=by
 unfold World.cell? at h;by_cases a:p.block<w.heap.size;exact a;rw[Array.getElem?_eq_none (by omega)]at h;simp at h
theorem Ext.keep(h:Ext w w'){v:Value}(a:w.cell? (aA b o)=some v):w'.cell? (aA b o)=some v:=by
 rw[Below.cell h (p:=(aA b o)) (uZ a)];exact a
theorem cX{W w1:World}(a:Ext W w1):(∀b o,b<W.heap.size->w1.cell? (aA b o)=W.cell? (aA b o))/\(∀b o,b<W.heap.size->w1.frozen? (aA b o)=W.frozen? (aA b o)):=
 ⟨λb o h=>a.cell (p:=(aA b o)) h,λb o h=>a.frozen (p:=(aA b o)) h⟩
def yL(w:World)(b o:Nat)(x:Wd):Prop:=
 w.cell? ⟨b,o,none⟩=some (iv x.k)/\w.cell? ⟨b,o+1,none⟩=some (iv x.n)/\w.cell? ⟨b,o+2,none⟩=some (iv x.a)
def qC(w:World)(b o:Nat)(x:Pr):Prop:=
 w.cell? ⟨b,o,none⟩=some (iv x.key.k)/\w.cell? ⟨b,o+1,none⟩=some (iv x.key.n)/\w.cell? ⟨b,o+2,none⟩=some (iv x.key.a)/\
 w.cell? ⟨b,o+3,none⟩=some (iv x.val.k)/\w.cell? ⟨b,o+4,none⟩=some (iv x.val.n)/\w.cell? ⟨b,o+5,none⟩=some (iv x.val.a)
def a8k(w:World)(b o:Nat)(x:Int):Prop:=w.cell? ⟨b,o,none⟩=some (iv x)
def yN{α:Type}(at_:Nat->Nat->α->Prop)(sz:Nat)(v:Value)(xs:List α):Prop:=
 ∃(ad:Option Addr)(cap:Nat),v=.slice ad xs.length cap/\xs.length<=35184372088832/\∀i (hi:i<xs.length),∃b o,ad=some ⟨b,o,none⟩/\at_ b (o+i*sz) xs[i]
abbrev SlW(w:World)(v:Value)(xs:List Wd):Prop:=yN (yL w) 3 v xs
abbrev SlP(w:World)(v:Value)(xs:List Pr):Prop:=yN (qC w) 6 v xs
abbrev SlI(w:World)(v:Value)(xs:List Int):Prop:=yN (a8k w) 1 v xs
def c0k(w:World)(b o:Nat)(x:Cl):Prop:=
 ∃vp,w.cell? ⟨b,o,none⟩=some (iv x.st)/\w.cell? ⟨b,o+1,none⟩=some (iv x.kind)/\w.cell? ⟨b,o+2,none⟩=some (iv x.T)/\
  w.cell? ⟨b,o+3,none⟩=some (iv x.U)/\w.cell? ⟨b,o+4,none⟩=some (iv x.born)/\w.cell? ⟨b,o+5,none⟩=some (iv x.J)/\
  w.cell? ⟨b,o+6,none⟩=some (iv x.to)/\w.cell? ⟨b,o+7,none⟩=some vp/\SlP w vp x.F
abbrev SlC(w:World)(v:Value)(xs:List Cl):Prop:=yN (c0k w) 8 v xs
theorem yN.mono{α:Type}{p q:Nat->Nat->α->Prop}{v:Value}{xs:List α}(h:yN p sz v xs)(c:∀b o x,p b o x->q b o x):yN q sz v xs:=by
 have⟨ad,a,e,f,j⟩:=h;exact⟨ad,a,e,f,λi d=>by have⟨b,o,k,g⟩:=j i d;exact⟨b,o,k,c _ _ _ g⟩⟩
theorem yL.ext(h:Ext w w'){x:Wd}(a:yL w b o x):yL w' b o x:=⟨h.keep a.1,h.keep a.2.1,h.keep a.2.2⟩
theorem qC.ext(h:Ext w w'){x:Pr}(a:qC w b o x):qC w' b o x:=
 ⟨h.keep a.1,h.keep a.2.1,h.keep a.2.2.1,h.keep a.2.2.2.1,h.keep a.2.2.2.2.1,h.keep a.2.2.2.2.2⟩
theorem a8k.ext(h:Ext w w'){x:Int}(a:a8k w b o x):a8k w' b o x:=h.keep a
theorem SlW.ext(h:Ext w w'){v:Value}{xs:List Wd}(a:SlW w v xs):SlW w' v xs:=a.mono λ_ _ _ k=>k.ext h
theorem SlP.ext(h:Ext w w'){v:Value}{xs:List Pr}(a:SlP w v xs):SlP w' v xs:=a.mono λ_ _ _ k=>k.ext h
theorem SlI.ext(h:Ext w w'){v:Value}{xs:List Int}(a:SlI w v xs):SlI w' v xs:=a.mono λ_ _ _ k=>k.ext h
theorem c0k.ext(h:Ext w w'){x:Cl}(m:c0k w b o x):c0k w' b o x:=by
 have⟨j,l,k,d,a,e,i,f,c,g⟩:=m;exact⟨j,h.keep l,h.keep k,h.keep d,h.keep a,h.keep e,h.keep i,h.keep f,h.keep c,SlP.ext h g⟩
theorem SlC.ext(h:Ext w w'){v:Value}{xs:List Cl}(a:SlC w v xs):SlC w' v xs:=a.mono λ_ _ _ k=>k.ext h
theorem yN.nil{α:Type}{p:Nat->Nat->α->Prop}{ad:Option Addr}{cap:Nat}:yN p sz (.slice ad 0 cap) []:=by grind[yN]
structure uQ(S:Nat->Prop)(w w':World):Prop where
 os:w'.os=w.os
 tape:w'.tape=w.tape
 output:w'.output=w.output
 size:w.heap.size<=w'.heap.size
 block:∀k,k<w.heap.size->¬S k->w'.heap[k]?=w.heap[k]?
theorem uQ.refl(S:Nat->Prop)(w:World):uQ S w w:=⟨rfl,rfl,rfl,Nat.le_refl _,λ_ _ _=>rfl⟩
theorem uQ.trans{b:World}(h:uQ S a b)(k:uQ S b c):uQ S a c:=
 ⟨k.os.trans h.os,k.tape.trans h.tape,k.output.trans h.output,Nat.le_trans h.size k.size,λi d e=>(k.block i (Nat.lt_of_lt_of_le d h.size) e).trans (h.block i d e)⟩
theorem uQ.of_ext(h:Ext w w'):uQ S w w':=⟨h.os,h.tape,h.output,h.size,λk a _=>h.block k a⟩
theorem uQ.below(h:uQ S w w'){B:Nat}(c:B<=w.heap.size)(b:∀k,k<B->¬S k):Below B w w':=
 ⟨h.os,h.tape,h.output,h.size,λk a=>h.block k (by omega) (b k a)⟩
theorem uQ.ext(h:uQ S w w')(b:Ext a w)(c:∀k,k<a.heap.size->¬S k):Ext a w':=
 Below.trans b (h.below b.size c)
theorem uQ.setCell(h:uQ S a w)(c:S p.block)(u:Value):uQ S a (w.setCell p u):=
 h.trans ⟨rfl,rfl,rfl,by simp[World.setCell],λk _ b=>Below.heap_setCell _ _ _ _ (λe=>b (e ▸ c))⟩
theorem uQ.drew(h:uQ S a w):uQ S a w.drew:=⟨h.os,h.tape,h.output,h.size,h.block⟩
theorem uQ.mono{T:Nat->Prop}(h:uQ S w w')(a:∀k,S k->T k):uQ T w w':=
 ⟨h.os,h.tape,h.output,h.size,λk b c=>h.block k b (λd=>c (a k d))⟩
theorem uQ.keep(h:uQ S w w'){v:Value}(e:¬S b)(c:w.cell? (aA b o)=some v):w'.cell? (aA b o)=some v:=by
 have d:w'.heap[b]?=w.heap[b]?:=h.block b (uZ c) e;have:=World.cell?_of_block (w:=w) (w':=w') (a:=(aA b o)) d;rw[this];exact c
theorem uQ.A(h:uQ S w w')(b:Nat)(c:b<w.heap.size)(d:¬S b):(∀o,w'.cell? (aA b o)=w.cell? (aA b o)):=
 λo=>World.cell?_of_block (w:=w) (w':=w') (a:=(aA b o)) (h.block b c d)
theorem uQ.frozen(h:uQ S w w')(a:b<w.heap.size)(c:¬S b):w'.frozen? (aA b o)=w.frozen? (aA b o):=
 World.frozen?_of_block (w:=w) (h.block b a c)
def tJ(w:World)(b o:Nat):Prop:=(∃v,w.cell? ⟨b,o,none⟩=some v)/\w.frozen? ⟨b,o,none⟩=false
theorem tJ.set(h:tJ w b o)(p:Addr)(u:Value):tJ (w.setCell p u) b o:=
 ⟨by have⟨v,a⟩:=h.1;exact cell?_setCell_some a,by rw[World.frozen?_setCell];exact h.2⟩
theorem tJ.ext(h:tJ w b o)(c:Ext w w'):tJ w' b o:=by
 have⟨⟨v,a⟩,d⟩:=h;exact⟨⟨v,c.keep a⟩,(cX c).2 b o (uZ a)▸d⟩
theorem tJ.same(h:tJ w b o)(u:Value):(w.setCell (aA b o) u).cell? (aA b o)=some u:=by
 have⟨v,a⟩:=h.1;exact World.cell?_setCell_same _ _ _ a
theorem uC{b' o':Nat}(u:Value)(h:b≠b'\/o≠o'):(w.setCell (aA b o) u).cell? (aA b' o')=w.cell? (aA b' o'):=
 World.cell?_setCell_other _ _ _ _ (by intro e;cases e;simp at h)
theorem nM{α:Type}(a:α):∃b,b=a:=⟨_,rfl⟩
abbrev hO:=@Ext.refl
abbrev hT:=@Nat.le_refl
abbrev kA:=@Nat.le_trans
abbrev kB:=@Nat.zero_le
abbrev kF:=@Nat.lt_of_lt_of_le
abbrev kG:=@And.intro
abbrev kI:=@Ext.trans
abbrev kJ:=@Go.wp_at_zero
abbrev kK:=@Go.wp_at_succ
abbrev kM:=@World.cell?_setCell_same
abbrev kO:=@Nat.zero_add
abbrev kP:=@Below.heap_setCell
abbrev kR:=@World.cell?_of_block
abbrev kS:=@World.frozen?_setCell
abbrev kT:=@Or.inl
abbrev kV:=@List.length_append
abbrev kd:=@Value.slice.injEq
abbrev ki:=@List.getElem_mem
abbrev kj:=@List.take_succ_eq_append_getElem
abbrev km:=@Nat.lt_or_ge
abbrev ko:=@Or.inr
abbrev ks:=@World.ownsRow_nil
abbrev kt:=@Nat.add_zero
abbrev kw:=@List.map_cons
abbrev kx:=@List.mem_append
abbrev ky:=@Below.heap_alloc
abbrev kz:=@List.take_length
abbrev k7:=@List.filter_append
abbrev k9:=@Int.eq_ofNat_of_zero_le
abbrev mB:=@Option.some.injEq
abbrev mC:=@Int.toNat_natCast
abbrev mD:=@Ext.alloc
abbrev mF:=@Nat.eq_zero_or_pos
abbrev mG:=@List.map_nil
abbrev mH:=@List.mem_cons_self
abbrev mJ:=@List.getElem_of_mem
abbrev mL:=@World.frozen?_of_block
abbrev mM:=@Nat.le_succ
abbrev mN:=@Nat.mod_lt
abbrev mO:=@Below.trans
abbrev mP:=@Ext.drew
abbrev mQ:=@Ext.setCell
abbrev mR:=@List.eq_nil_of_length_eq_zero
abbrev mS:=@List.length_cons
abbrev mT:=@List.mem_singleton
abbrev mU:=@List.mem_filter
abbrev mV:=@List.getElem?_eq_getElem
abbrev mW:=@List.length_nil
abbrev mX:=@List.mem_range
abbrev mY:=@List.mem_map
abbrev mZ:=@List.length_map
abbrev ma:=@List.mem_cons_of_mem
abbrev mb:=@List.range_succ
abbrev me:=@Array.getElem?_eq_none
abbrev mf:=@List.map_append
abbrev mg:=@Int.toNat_of_nonneg
abbrev mh:=@List.getElem?_append_left
abbrev mn:=@List.length_take
abbrev mp:=@Nat.mul_one
abbrev mq:=@List.append_assoc
abbrev mr:=@List.length_singleton
abbrev ms:=@Nat.zero_mul
abbrev mw:=@List.getElem_cons_zero
abbrev mx:=@Int.le_refl
abbrev my:=@Array.getElem?_setIfInBounds
abbrev mz:=@Bool.and_eq_true
abbrev m9:=@List.Perm.refl
abbrev nA:=@List.mem_append_left
abbrev nB:=@List.map_toArray
abbrev nC:=@List.flatMap_cons
abbrev nD:=@Array.size_push
abbrev nE:=@Array.getElem?_eq_getElem
abbrev nF:=@World.ownsRow.frozenAt
abbrev nG:=@List.getElem?_map
abbrev nH:=@IntKind.wrap_i64
abbrev nI:=@List.perm_append_singleton
abbrev nJ:=@Nat.le_of_lt
abbrev nK:=@World.ownsRow.cellAt
abbrev nL:=@List.flatMap_append
abbrev nN:=@Array.getElem?_eq_some_iff
abbrev nO:=@List.count_eq_zero
abbrev nP:=@List.count_pos_iff
abbrev nQ:=@List.drop_eq_getElem_cons
abbrev nR:=@Nat.lt_trichotomy
abbrev nS:=@List.getElem?_append_right
abbrev nT:=@List.getElem?_eq_none
abbrev nU:=@Option.map_some
abbrev nV:=@World.cell?_setCell_far
abbrev nW:=@Array.getElem?_push_size
abbrev nX:=@Bool.and_true
abbrev nY:=@List.length_eq_zero_iff
abbrev nZ:=@List.take_of_length_le
abbrev na:=@List.nodup_append
abbrev nh:=@Array.size_modify
abbrev ni:=@List.append_nil
abbrev nj:=@Array.getElem?_toList
abbrev ns:=@List.singleton_append
abbrev nt:=@List.pairwise_map
abbrev nw:=@List.pairwise_append
abbrev nx:=@List.mem_cons
abbrev ny:=@List.getElem_set_ne
abbrev n9:=@List.filter_cons_of_neg
abbrev qA:=@List.filter_cons_of_pos
abbrev qB:=@List.drop_eq_nil_of_le
abbrev qF:=@List.getElem_toArray
abbrev qG:=@World.frozen?_alloc_old
abbrev qI:=@List.mem_of_getElem?
abbrev qM:=@List.eraseIdx_append_of_length_le
abbrev qO:=@List.length_erase_of_mem
abbrev qP:=@List.Pairwise.imp_of_mem
abbrev qR:=@List.Nodup.length_le_of_subset
abbrev qS:=@List.getD_eq_getElem?_getD
abbrev qT:=@World.setCell_alloc_past
abbrev qa:=@Array.getElem_mem_toList
end Go.Proofs.YtolmnenlnpbcfaaGreatDoor
