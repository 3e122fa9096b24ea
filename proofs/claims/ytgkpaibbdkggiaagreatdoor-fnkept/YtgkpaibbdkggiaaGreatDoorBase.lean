import Derived.Test.YtgkpaibbdkggiaaGreatDoorProg
import Derived.Deep.DrawnRows
import Derived.Deep.RegionHeld3
import Derived.WalkLawsBesides
import Derived.WalkSpells
namespace Go.Proofs.YtgkpaibbdkggiaaGreatDoor
open Go.RowKit Tryz
variable{w w' a c:World}{b o sz:Nat}{S:Nat->Prop}{p:Addr}
abbrev aA (b k : Nat) : Addr := ⟨b, k, none⟩
abbrev pP (b : Nat) : Value := .pointer (some ⟨b, 0, none⟩)
abbrev pQ (b k : Nat) : Value := .pointer (some ⟨b, k, none⟩)
abbrev sS (b n k : Nat) : Value := .slice (some ⟨b, 0, none⟩) n k
abbrev sO (b o n k : Nat) : Value := .slice (some ⟨b, o, none⟩) n k
structure Wd where
 k:Int
 n:Int
 a:Int
structure Pr where
 key:Wd
 val:Wd
structure Cl where
 st:Int
 kind:Int
 T:Int
 U:Int
 born:Int
 J:Int
 to:Int
 F:List Pr
structure Hp where
 M:Int
 K:Int
 born:Int
 B:List Wd
 A:List Cl
 E:Int
 I:Int
 sub:Int
 D:List Int
 per:Int
 V:Int
 Q:Int
 S:Int
abbrev iv(n:Int):Value:=.int .i64 n
abbrev Wd.v(x:Wd):Value:=.agg #[iv x.k,iv x.n,iv x.a]
abbrev Pr.v(x:Pr):Value:=.agg #[iv x.key.k,iv x.key.n,iv x.key.a,iv x.val.k,iv x.val.n,iv x.val.a]
abbrev Hp.v(x:Hp)(vr vc vg:Value):Value:=.agg #[iv x.M,iv x.K,iv x.born,vr,vc,iv x.E,iv x.I,iv x.sub,vg,iv x.per,iv x.V,iv x.Q,iv x.S]
theorem uU{p:Prop}(h:p):Hid p:=h
theorem uH{p:Prop}(h:Hid p):p:=h
abbrev Ext(w w':World):Prop:=Below w.heap.size w w'
theorem Ext.refl(w:World):Ext w w:=Below.refl _ _
theorem Ext.trans{b:World}(h:Ext a b)(k:Ext b c):Ext a c:=Below.trans h (Below.mono k h.size)
theorem Ext.alloc(h:Ext a w)(o:Obj):Ext a (w.alloc o):=Below.alloc h h.size o
theorem Ext.drew(h:Ext a w):Ext a w.drew:=Below.drew h
theorem Ext.setCell(h:Ext a w)(b:a.heap.size<=p.block)(u:Value):Ext a (w.setCell p u):=Below.setCell h b u
theorem uQ{v:Value}(h:w.cell? p=some v):p.block<w.heap.size:=by
 unfold World.cell? at h;by_cases a:p.block<w.heap.size;exact a;rw[Array.getElem?_eq_none (by omega)]at h;simp at h
theorem Ext.keep(h:Ext w w'){v:Value}(a:w.cell? (aA b o)=some v):w'.cell? (aA b o)=some v:=by
 rw[Below.cell h (p:=(aA b o)) (uQ a)];exact a
theorem cE{W w1:World}(a:Ext W w1):(∀b o,b<W.heap.size->w1.cell? (aA b o)=W.cell? (aA b o))/\(∀b o,b<W.heap.size->w1.frozen? (aA b o)=W.frozen? (aA b o)):=
 ⟨λb o h=>a.cell (p:=(aA b o)) h,λb o h=>a.frozen (p:=(aA b o)) h⟩
def yD(w:World)(b o:Nat)(x:Wd):Prop:=
 w.cell? ⟨b,o,none⟩=some (iv x.k)/\w.cell? ⟨b,o+1,none⟩=some (iv x.n)/\w.cell? ⟨b,o+2,none⟩=some (iv x.a)
def qY(w:World)(b o:Nat)(x:Pr):Prop:=
 w.cell? ⟨b,o,none⟩=some (iv x.key.k)/\w.cell? ⟨b,o+1,none⟩=some (iv x.key.n)/\w.cell? ⟨b,o+2,none⟩=some (iv x.key.a)/\
 w.cell? ⟨b,o+3,none⟩=some (iv x.val.k)/\w.cell? ⟨b,o+4,none⟩=some (iv x.val.n)/\w.cell? ⟨b,o+5,none⟩=some (iv x.val.a)
def a8e(w:World)(b o:Nat)(x:Int):Prop:=w.cell? ⟨b,o,none⟩=some (iv x)
def yH{α:Type}(at_:Nat->Nat->α->Prop)(sz:Nat)(v:Value)(xs:List α):Prop:=
 ∃(ad:Option Addr)(cap:Nat),v=.slice ad xs.length cap/\xs.length<=35184372088832/\∀i (hi:i<xs.length),∃b o,ad=some ⟨b,o,none⟩/\at_ b (o+i*sz) xs[i]
abbrev SlW(w:World)(v:Value)(xs:List Wd):Prop:=yH (yD w) 3 v xs
abbrev SlP(w:World)(v:Value)(xs:List Pr):Prop:=yH (qY w) 6 v xs
abbrev SlI(w:World)(v:Value)(xs:List Int):Prop:=yH (a8e w) 1 v xs
def b9v(w:World)(b o:Nat)(x:Cl):Prop:=
 ∃vp,w.cell? ⟨b,o,none⟩=some (iv x.st)/\w.cell? ⟨b,o+1,none⟩=some (iv x.kind)/\w.cell? ⟨b,o+2,none⟩=some (iv x.T)/\
  w.cell? ⟨b,o+3,none⟩=some (iv x.U)/\w.cell? ⟨b,o+4,none⟩=some (iv x.born)/\w.cell? ⟨b,o+5,none⟩=some (iv x.J)/\
  w.cell? ⟨b,o+6,none⟩=some (iv x.to)/\w.cell? ⟨b,o+7,none⟩=some vp/\SlP w vp x.F
abbrev SlC(w:World)(v:Value)(xs:List Cl):Prop:=yH (b9v w) 8 v xs
theorem yH.mono{α:Type}{p q:Nat->Nat->α->Prop}{v:Value}{xs:List α}(h:yH p sz v xs)(c:∀b o x,p b o x->q b o x):yH q sz v xs:=by
 have⟨ad,a,e,f,j⟩:=h;exact⟨ad,a,e,f,λi d=>by have⟨b,o,k,g⟩:=j i d;exact⟨b,o,k,c _ _ _ g⟩⟩
theorem yD.ext(h:Ext w w'){x:Wd}(a:yD w b o x):yD w' b o x:=⟨h.keep a.1,h.keep a.2.1,h.keep a.2.2⟩
theorem qY.ext(h:Ext w w'){x:Pr}(a:qY w b o x):qY w' b o x:=
 ⟨h.keep a.1,h.keep a.2.1,h.keep a.2.2.1,h.keep a.2.2.2.1,h.keep a.2.2.2.2.1,h.keep a.2.2.2.2.2⟩
theorem a8e.ext(h:Ext w w'){x:Int}(a:a8e w b o x):a8e w' b o x:=h.keep a
theorem SlW.ext(h:Ext w w'){v:Value}{xs:List Wd}(a:SlW w v xs):SlW w' v xs:=a.mono λ_ _ _ k=>k.ext h
theorem SlP.ext(h:Ext w w'){v:Value}{xs:List Pr}(a:SlP w v xs):SlP w' v xs:=a.mono λ_ _ _ k=>k.ext h
theorem SlI.ext(h:Ext w w'){v:Value}{xs:List Int}(a:SlI w v xs):SlI w' v xs:=a.mono λ_ _ _ k=>k.ext h
theorem b9v.ext(h:Ext w w'){x:Cl}(m:b9v w b o x):b9v w' b o x:=by
 have⟨j,l,k,d,a,e,i,f,c,g⟩:=m;exact⟨j,h.keep l,h.keep k,h.keep d,h.keep a,h.keep e,h.keep i,h.keep f,h.keep c,SlP.ext h g⟩
theorem SlC.ext(h:Ext w w'){v:Value}{xs:List Cl}(a:SlC w v xs):SlC w' v xs:=a.mono λ_ _ _ k=>k.ext h
theorem yH.nil{α:Type}{p:Nat->Nat->α->Prop}{ad:Option Addr}{cap:Nat}:yH p sz (.slice ad 0 cap) []:=by grind[yH]
structure uZ(S:Nat->Prop)(w w':World):Prop where
 os:w'.os=w.os
 tape:w'.tape=w.tape
 output:w'.output=w.output
 size:w.heap.size<=w'.heap.size
 block:∀k,k<w.heap.size->¬S k->w'.heap[k]?=w.heap[k]?
theorem uZ.refl(S:Nat->Prop)(w:World):uZ S w w:=⟨rfl,rfl,rfl,Nat.le_refl _,λ_ _ _=>rfl⟩
theorem uZ.trans{b:World}(h:uZ S a b)(k:uZ S b c):uZ S a c:=
 ⟨k.os.trans h.os,k.tape.trans h.tape,k.output.trans h.output,Nat.le_trans h.size k.size,λi d e=>(k.block i (Nat.lt_of_lt_of_le d h.size) e).trans (h.block i d e)⟩
theorem uZ.of_ext(h:Ext w w'):uZ S w w':=⟨h.os,h.tape,h.output,h.size,λk a _=>h.block k a⟩
theorem uZ.below(h:uZ S w w'){B:Nat}(c:B<=w.heap.size)(b:∀k,k<B->¬S k):Below B w w':=
 ⟨h.os,h.tape,h.output,h.size,λk a=>h.block k (by omega) (b k a)⟩
theorem uZ.ext(h:uZ S w w')(b:Ext a w)(c:∀k,k<a.heap.size->¬S k):Ext a w':=
 Below.trans b (h.below b.size c)
theorem uZ.setCell(h:uZ S a w)(c:S p.block)(u:Value):uZ S a (w.setCell p u):=
 h.trans ⟨rfl,rfl,rfl,by simp[World.setCell],λk _ b=>Below.heap_setCell _ _ _ _ (λe=>b (e ▸ c))⟩
theorem uZ.drew(h:uZ S a w):uZ S a w.drew:=⟨h.os,h.tape,h.output,h.size,h.block⟩
theorem uZ.mono{T:Nat->Prop}(h:uZ S w w')(a:∀k,S k->T k):uZ T w w':=
 ⟨h.os,h.tape,h.output,h.size,λk b c=>h.block k b (λd=>c (a k d))⟩
theorem uZ.keep(h:uZ S w w'){v:Value}(e:¬S b)(c:w.cell? (aA b o)=some v):w'.cell? (aA b o)=some v:=by
 have d:w'.heap[b]?=w.heap[b]?:=h.block b (uQ c) e;have:=World.cell?_of_block (w:=w) (w':=w') (a:=(aA b o)) d;rw[this];exact c
theorem uZ.A(h:uZ S w w')(b:Nat)(c:b<w.heap.size)(d:¬S b):(∀o,w'.cell? (aA b o)=w.cell? (aA b o)):=
 λo=>World.cell?_of_block (w:=w) (w':=w') (a:=(aA b o)) (h.block b c d)
theorem uZ.frozen(h:uZ S w w')(a:b<w.heap.size)(c:¬S b):w'.frozen? (aA b o)=w.frozen? (aA b o):=
 World.frozen?_of_block (w:=w) (h.block b a c)
def yQ(w:World)(b o:Nat):Prop:=(∃v,w.cell? ⟨b,o,none⟩=some v)/\w.frozen? ⟨b,o,none⟩=false
theorem yQ.set(h:yQ w b o)(p:Addr)(u:Value):yQ (w.setCell p u) b o:=
 ⟨by have⟨v,a⟩:=h.1;exact cell?_setCell_some a,by rw[World.frozen?_setCell];exact h.2⟩
theorem yQ.ext(h:yQ w b o)(c:Ext w w'):yQ w' b o:=by
 have⟨⟨v,a⟩,d⟩:=h;exact⟨⟨v,c.keep a⟩,(cE c).2 b o (uQ a)▸d⟩
theorem yQ.same(h:yQ w b o)(u:Value):(w.setCell (aA b o) u).cell? (aA b o)=some u:=by
 have⟨v,a⟩:=h.1;exact World.cell?_setCell_same _ _ _ a
theorem uC{b' o':Nat}(u:Value)(h:b≠b'\/o≠o'):(w.setCell (aA b o) u).cell? (aA b' o')=w.cell? (aA b' o'):=
 World.cell?_setCell_other _ _ _ _ (by intro e;cases e;simp at h)
theorem nM{α:Type}(a:α):∃b,b=a:=⟨_,rfl⟩
abbrev hO:=@Ext.refl
abbrev hT:=@Nat.le_refl
abbrev kA:=@Nat.le_trans
abbrev kB:=@Nat.zero_le
abbrev kF:=@Nat.lt_of_lt_of_le
abbrev kG:=@And.intro
abbrev kI:=@Ext.trans
abbrev kM:=@World.cell?_setCell_same
abbrev kO:=@Nat.zero_add
abbrev kP:=@Below.heap_setCell
abbrev kR:=@Go.wp_at_zero
abbrev kS:=@Go.wp_at_succ
abbrev kT:=@World.cell?_of_block
abbrev ki:=@World.frozen?_setCell
abbrev kj:=@Or.inl
abbrev km:=@Int.eq_ofNat_of_zero_le
abbrev ko:=@List.length_append
abbrev kt:=@Value.slice.injEq
abbrev kw:=@Nat.add_zero
abbrev kx:=@List.take_succ_eq_append_getElem
abbrev ky:=@Nat.lt_or_ge
abbrev kz:=@Or.inr
abbrev k7:=@List.getElem_mem
abbrev mB:=@World.ownsRow_nil
abbrev mC:=@List.map_cons
abbrev mD:=@List.mem_append
abbrev mF:=@Below.heap_alloc
abbrev mG:=@List.take_length
abbrev mH:=@List.filter_append
abbrev mJ:=@Ext.alloc
abbrev mL:=@Option.some.injEq
abbrev mM:=@Int.toNat_natCast
abbrev mN:=@Nat.eq_zero_or_pos
abbrev mO:=@List.map_nil
abbrev mP:=@List.mem_cons_self
abbrev mQ:=@List.getElem_of_mem
abbrev mR:=@World.frozen?_of_block
abbrev mS:=@Nat.le_succ
abbrev mT:=@Nat.mod_lt
abbrev mU:=@List.eq_nil_of_length_eq_zero
abbrev mV:=@Below.trans
abbrev mW:=@Ext.setCell
abbrev mX:=@List.length_cons
abbrev mY:=@List.mem_singleton
abbrev mZ:=@List.mem_filter
abbrev ma:=@List.getElem?_eq_getElem
abbrev mb:=@List.length_nil
abbrev me:=@List.mem_range
abbrev mf:=@Ext.drew
abbrev mg:=@List.mem_map
abbrev mh:=@List.length_map
abbrev mm:=@List.mem_cons_of_mem
abbrev mn:=@List.range_succ
abbrev mp:=@Array.getElem?_eq_none
abbrev mq:=@Nat.mul_one
abbrev mr:=@List.map_append
abbrev ms:=@List.getElem?_append_left
abbrev mw:=@List.length_take
abbrev my:=@List.append_assoc
abbrev mz:=@List.length_singleton
abbrev nA:=@List.getElem_cons_zero
abbrev nB:=@Int.le_refl
abbrev nC:=@Array.getElem?_setIfInBounds
abbrev nD:=@Bool.and_eq_true
abbrev nE:=@List.Perm.refl
abbrev nF:=@IntKind.wrap_i64
abbrev nG:=@List.mem_append_left
abbrev nH:=@List.map_toArray
abbrev nI:=@List.flatMap_cons
abbrev nJ:=@Nat.zero_mul
abbrev nK:=@Array.size_push
abbrev nL:=@Array.getElem?_eq_getElem
abbrev nN:=@World.ownsRow.frozenAt
abbrev nO:=@List.getElem?_map
abbrev nP:=@List.perm_append_singleton
abbrev nQ:=@Nat.le_of_lt
abbrev nR:=@World.ownsRow.cellAt
abbrev nS:=@List.flatMap_append
abbrev nU:=@Array.getElem?_eq_some_iff
abbrev nV:=@List.count_eq_zero
abbrev nW:=@List.count_pos_iff
abbrev nX:=@List.drop_eq_getElem_cons
abbrev nY:=@Nat.lt_trichotomy
abbrev nZ:=@List.getElem?_append_right
abbrev na:=@List.getElem?_eq_none
abbrev nh:=@Option.map_some
abbrev ni:=@List.getD_eq_getElem?_getD
abbrev nj:=@World.cell?_setCell_far
abbrev ns:=@Array.getElem?_push_size
abbrev nt:=@Bool.and_true
abbrev nw:=@List.length_eq_zero_iff
abbrev nx:=@List.take_of_length_le
abbrev ny:=@List.nodup_append
abbrev n9:=@Array.size_modify
abbrev qA:=@List.append_nil
abbrev qB:=@Array.getElem?_toList
abbrev qF:=@List.singleton_append
abbrev qG:=@List.pairwise_map
abbrev qI:=@List.pairwise_append
abbrev qM:=@List.mem_cons
abbrev qO:=@List.getElem_set_ne
abbrev qP:=@List.filter_cons_of_neg
abbrev qR:=@List.filter_cons_of_pos
abbrev qS:=@List.drop_eq_nil_of_le
abbrev qT:=@List.getElem_toArray
abbrev qd:=@World.frozen?_alloc_old
abbrev qh:=@Int.toNat_of_nonneg
abbrev qi:=@List.mem_of_getElem?
abbrev qj:=@List.eraseIdx_append_of_length_le
abbrev qk:=@List.length_erase_of_mem
abbrev ql:=@List.Pairwise.imp_of_mem
abbrev qm:=@List.Nodup.length_le_of_subset
abbrev qo:=@World.setCell_alloc_past
abbrev qp:=@Array.getElem_mem_toList
