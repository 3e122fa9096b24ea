import Derived.Test.YtddkhnclmeikfaaGreatProg
import Derived.Deep.DrawnRows
import Derived.Deep.RegionHeld3
import Derived.Outline
import Derived.WalkKit
import Derived.WalkLawsBesides
import Derived.WalkSpells
namespace Go.Proofs.YtddkhnclmeikfaaGreat
open Go.RowKit
variable{w w' a c:World}{b o sz:Nat}{S:Nat->Prop}{p:Addr}
structure Wd where
 k:Int
 n:Int
 a:Int
structure Pr where
 key:Wd
 val:Wd
structure Cl where
 st:Int
 kind:Int
 T:Int
 U:Int
 born:Int
 J:Int
 to:Int
 F:List Pr
structure Hp where
 M:Int
 K:Int
 born:Int
 B:List Wd
 A:List Cl
 E:Int
 I:Int
 sub:Int
 D:List Int
 per:Int
 V:Int
 Q:Int
 S:Int
abbrev iv(n:Int):Value:=.int .i64 n
abbrev Wd.v(x:Wd):Value:=.agg #[iv x.k,iv x.n,iv x.a]
abbrev Pr.v(x:Pr):Value:=.agg #[iv x.key.k,iv x.key.n,iv x.key.a,iv x.val.k,iv x.val.n,iv x.val.a]
abbrev Cl.v(x:Cl)(vp:Value):Value:=.agg #[iv x.st,iv x.kind,iv x.T,iv x.U,iv x.born,iv x.J,iv x.to,vp]
abbrev Hp.v(x:Hp)(vr vc vg:Value):Value:=.agg #[iv x.M,iv x.K,iv x.born,vr,vc,iv x.E,iv x.I,iv x.sub,vg,iv x.per,iv x.V,iv x.Q,iv x.S]
theorem uU{p:Prop}(h:p):Hid p:=h
theorem uH{p:Prop}(h:Hid p):p:=h
abbrev Ext(w w':World):Prop:=Below w.heap.size w w'
theorem Ext.refl(w:World):Ext w w:=Below.refl _ _
theorem Ext.trans{b:World}(h:Ext a b)(k:Ext b c):Ext a c:=Below.trans h (Below.mono k h.size)
theorem Ext.alloc(h:Ext a w)(o:Obj):Ext a (w.alloc o):=Below.alloc h h.size o
theorem Ext.drew(h:Ext a w):Ext a w.drew:=Below.drew h
theorem Ext.setCell(h:Ext a w)(hp:a.heap.size<=p.block)(u:Value):Ext a (w.setCell p u):=Below.setCell h hp u
theorem uL{v:Value}(h:w.cell? p=some v):p.block<w.heap.size:=by
 unfold World.cell? at h;by_cases hlt:p.block<w.heap.size
 ·exact hlt
 ·rw[Array.getElem?_eq_none (by omega)] at h;simp at h
theorem Ext.keep(h:Ext w w'){v:Value}(hc:w.cell? ⟨b,o,none⟩=some v):w'.cell? ⟨b,o,none⟩=some v:=by
 rw[Below.cell h (p:=⟨b,o,none⟩) (uL hc)];exact hc
theorem cD{W w1:World}(hb:Ext W w1):(∀b o,b<W.heap.size->w1.cell? ⟨b,o,none⟩=W.cell? ⟨b,o,none⟩)/\(∀b o,b<W.heap.size->w1.frozen? ⟨b,o,none⟩=W.frozen? ⟨b,o,none⟩):=
 ⟨λb o h=>hb.cell (p:=⟨b,o,none⟩) h,λb o h=>hb.frozen (p:=⟨b,o,none⟩) h⟩
def yQ(w:World)(b o:Nat)(x:Wd):Prop:=
 w.cell? ⟨b,o,none⟩=some (iv x.k)/\w.cell? ⟨b,o+1,none⟩=some (iv x.n)/\w.cell? ⟨b,o+2,none⟩=some (iv x.a)
def tQ(w:World)(b o:Nat)(x:Pr):Prop:=
 w.cell? ⟨b,o,none⟩=some (iv x.key.k)/\w.cell? ⟨b,o+1,none⟩=some (iv x.key.n)/\w.cell? ⟨b,o+2,none⟩=some (iv x.key.a)/\
 w.cell? ⟨b,o+3,none⟩=some (iv x.val.k)/\w.cell? ⟨b,o+4,none⟩=some (iv x.val.n)/\w.cell? ⟨b,o+5,none⟩=some (iv x.val.a)
def yD(w:World)(b o:Nat)(x:Int):Prop:=w.cell? ⟨b,o,none⟩=some (iv x)
def yU{α:Type}(at_:Nat->Nat->α->Prop)(sz:Nat)(v:Value)(xs:List α):Prop:=
 ∃(ad:Option Addr) (cap:Nat),v=.slice ad xs.length cap/\xs.length<=35184372088832/\∀i (hi:i<xs.length),∃b o,ad=some ⟨b,o,none⟩/\at_ b (o+i*sz) xs[i]
abbrev SlW(w:World)(v:Value)(xs:List Wd):Prop:=yU (yQ w) 3 v xs
abbrev SlP(w:World)(v:Value)(xs:List Pr):Prop:=yU (tQ w) 6 v xs
abbrev SlI(w:World)(v:Value)(xs:List Int):Prop:=yU (yD w) 1 v xs
def b7k(w:World)(b o:Nat)(x:Cl):Prop:=
 ∃vp,w.cell? ⟨b,o,none⟩=some (iv x.st)/\w.cell? ⟨b,o+1,none⟩=some (iv x.kind)/\w.cell? ⟨b,o+2,none⟩=some (iv x.T)/\
  w.cell? ⟨b,o+3,none⟩=some (iv x.U)/\w.cell? ⟨b,o+4,none⟩=some (iv x.born)/\w.cell? ⟨b,o+5,none⟩=some (iv x.J)/\
  w.cell? ⟨b,o+6,none⟩=some (iv x.to)/\w.cell? ⟨b,o+7,none⟩=some vp/\SlP w vp x.F
abbrev SlC(w:World)(v:Value)(xs:List Cl):Prop:=yU (b7k w) 8 v xs
theorem yU.mono{α:Type}{p q:Nat->Nat->α->Prop}{v:Value}{xs:List α}(h:yU p sz v xs)(hpq:∀b o x,p b o x->q b o x):yU q sz v xs:=by
 obtain⟨ad,cap,hv,hl,hx⟩:=h;exact⟨ad,cap,hv,hl,λi hi=>by obtain⟨b,o,ha,hp⟩:=hx i hi;exact⟨b,o,ha,hpq _ _ _ hp⟩⟩
theorem yQ.ext(h:Ext w w'){x:Wd}(hx:yQ w b o x):yQ w' b o x:=⟨h.keep hx.1,h.keep hx.2.1,h.keep hx.2.2⟩
theorem tQ.ext(h:Ext w w'){x:Pr}(hx:tQ w b o x):tQ w' b o x:=
 ⟨h.keep hx.1,h.keep hx.2.1,h.keep hx.2.2.1,h.keep hx.2.2.2.1,h.keep hx.2.2.2.2.1,h.keep hx.2.2.2.2.2⟩
theorem yD.ext(h:Ext w w'){x:Int}(hx:yD w b o x):yD w' b o x:=h.keep hx
theorem SlW.ext(h:Ext w w'){v:Value}{xs:List Wd}(hx:SlW w v xs):SlW w' v xs:=hx.mono λ_ _ _ k=>k.ext h
theorem SlP.ext(h:Ext w w'){v:Value}{xs:List Pr}(hx:SlP w v xs):SlP w' v xs:=hx.mono λ_ _ _ k=>k.ext h
theorem SlI.ext(h:Ext w w'){v:Value}{xs:List Int}(hx:SlI w v xs):SlI w' v xs:=hx.mono λ_ _ _ k=>k.ext h
theorem b7k.ext(h:Ext w w'){x:Cl}(hx:b7k w b o x):b7k w' b o x:=by
 obtain⟨vp,h0,h1,h2,h3,h4,h5,h6,h7,h8⟩:=hx;exact⟨vp,h.keep h0,h.keep h1,h.keep h2,h.keep h3,h.keep h4,h.keep h5,h.keep h6,h.keep h7,SlP.ext h h8⟩
theorem SlC.ext(h:Ext w w'){v:Value}{xs:List Cl}(hx:SlC w v xs):SlC w' v xs:=hx.mono λ_ _ _ k=>k.ext h
theorem yU.nil{α:Type}{p:Nat->Nat->α->Prop}{ad:Option Addr}{cap:Nat}:yU p sz (.slice ad 0 cap) []:=
 ⟨ad,cap,rfl,by simp,λi hi=>by simp at hi⟩
structure uZ(S:Nat->Prop)(w w':World):Prop where
 os:w'.os=w.os
 tape:w'.tape=w.tape
 output:w'.output=w.output
 size:w.heap.size<=w'.heap.size
 block:∀k,k<w.heap.size->¬S k->w'.heap[k]?=w.heap[k]?
theorem uZ.refl(S:Nat->Prop)(w:World):uZ S w w:=⟨rfl,rfl,rfl,Nat.le_refl _,λ_ _ _=>rfl⟩
theorem uZ.trans{b:World}(h:uZ S a b)(k:uZ S b c):uZ S a c:=
 ⟨k.os.trans h.os,k.tape.trans h.tape,k.output.trans h.output,Nat.le_trans h.size k.size,λi hi hs=>(k.block i (Nat.lt_of_lt_of_le hi h.size) hs).trans (h.block i hi hs)⟩
theorem uZ.of_ext(h:Ext w w'):uZ S w w':=⟨h.os,h.tape,h.output,h.size,λk hk _=>h.block k hk⟩
theorem uZ.below(h:uZ S w w'){B:Nat}(hB:B<=w.heap.size)(hS:∀k,k<B->¬S k):Below B w w':=
 ⟨h.os,h.tape,h.output,h.size,λk hk=>h.block k (by omega) (hS k hk)⟩
theorem uZ.ext(h:uZ S w w')(ha:Ext a w)(hS:∀k,k<a.heap.size->¬S k):Ext a w':=
 Below.trans ha (h.below ha.size hS)
theorem uZ.setCell(h:uZ S a w)(hp:S p.block)(u:Value):uZ S a (w.setCell p u):=
 h.trans ⟨rfl,rfl,rfl,by simp [World.setCell],λk _ hk=>Below.heap_setCell _ _ _ _ (λe=>hk (e ▸ hp))⟩
theorem uZ.drew(h:uZ S a w):uZ S a w.drew:=⟨h.os,h.tape,h.output,h.size,h.block⟩
theorem uZ.mono{T:Nat->Prop}(h:uZ S w w')(hST:∀k,S k->T k):uZ T w w':=
 ⟨h.os,h.tape,h.output,h.size,λk hk hn=>h.block k hk (λhs=>hn (hST k hs))⟩
theorem uZ.keep(h:uZ S w w'){v:Value}(hs:¬S b)(hc:w.cell? ⟨b,o,none⟩=some v):w'.cell? ⟨b,o,none⟩=some v:=by
 have hb:w'.heap[b]?=w.heap[b]?:=h.block b (uL hc) hs;have:=World.cell?_of_block (w:=w) (w':=w') (a:=⟨b,o,none⟩) hb;rw[this];exact hc
theorem uZ.A(h:uZ S w w')(b:Nat)(hb:b<w.heap.size)(hs:¬S b):(∀o,w'.cell? ⟨b,o,none⟩=w.cell? ⟨b,o,none⟩):=
 λo=>World.cell?_of_block (w:=w) (w':=w') (a:=⟨b,o,none⟩) (h.block b hb hs)
theorem uZ.frozen(h:uZ S w w')(hb:b<w.heap.size)(hs:¬S b):w'.frozen? ⟨b,o,none⟩=w.frozen? ⟨b,o,none⟩:=
 World.frozen?_of_block (w:=w) (h.block b hb hs)
def yN(w:World)(b o:Nat):Prop:=(∃v,w.cell? ⟨b,o,none⟩=some v)/\w.frozen? ⟨b,o,none⟩=false
theorem yN.set(h:yN w b o)(p:Addr)(u:Value):yN (w.setCell p u) b o:=
 ⟨by obtain⟨v,hv⟩:=h.1;exact cell?_setCell_some hv,by rw[World.frozen?_setCell];exact h.2⟩
theorem yN.ext(h:yN w b o)(he:Ext w w'):yN w' b o:=by
 obtain⟨⟨v,hv⟩,hf⟩:=h;exact⟨⟨v,he.keep hv⟩,by rw[(cD he).2 b o (uL hv)];exact hf⟩
theorem yN.same(h:yN w b o)(u:Value):(w.setCell ⟨b,o,none⟩ u).cell? ⟨b,o,none⟩=some u:=by
 obtain⟨v,hv⟩:=h.1;exact World.cell?_setCell_same _ _ _ hv
theorem uC{b' o':Nat}(u:Value)(h:b≠b'\/o≠o'):(w.setCell ⟨b,o,none⟩ u).cell? ⟨b',o',none⟩=w.cell? ⟨b',o',none⟩:=
 World.cell?_setCell_other _ _ _ _ (by intro e;cases e;simp at h)
end Go.Proofs.YtddkhnclmeikfaaGreat
