import Derived.Test.YtddkhnclmeikfaaGreatSg
import Derived.Test.YtddkhnclmeikfaaGreatDd
namespace Go.Proofs.YtddkhnclmeikfaaGreat
open Go.RowKit
attribute [local go_sem ↓] Go.wp_at_zero Go.wp_at_succ
def Dis(vr vc:Value):Prop:=∀b o n c b' o' n' c',vr=.slice (some ⟨b,o,none⟩) n c→vc=.slice (some ⟨b',o',none⟩) n' c'→b≠b'
def SlIG(B:Nat)(w:World)(v:Value)(xs:List Int)(vr vc:Value):Prop:=SlI w v xs∧Fn0 B w v∧Dis vr vc
def HpF(B:Nat)(w:World)(x:Hp)(vr vc vg:Value):Prop:=SlWF B w vr x.regs∧SlCF B w vc x.cells∧SlIG B w vg x.gray vr vc
theorem HpF.only{S:Nat→Prop}{B:Nat}{w w':World}{x:Hp}{vr vc vg:Value}(h:HpF B w x vr vc vg)(ho:Only S w w')(hS:∀q,S q→q<B):HpF B w' x vr vc vg:=
 ⟨h.1.only ho hS,h.2.1.only ho hS,(SlIF.only ⟨h.2.2.1,h.2.2.2.1⟩ ho hS).1,h.2.2.2.1.only ho hS,h.2.2.2.2⟩
theorem HpF.ext{B:Nat}{w w':World}{x:Hp}{vr vc vg:Value}(h:HpF B w x vr vc vg)(he:Ext w w'):HpF B w' x vr vc vg:=⟨h.1.ext he,h.2.1.ext he,SlI.ext he h.2.2.1,h.2.2.2.1.ext he,h.2.2.2.2⟩
structure Wr(S:Nat→Prop)(w w':World):Prop where
 o:Only S w w'
 op:∀b k,Open w b k→Open w' b k
theorem Wr.refl(S:Nat→Prop)(w:World):Wr S w w:=⟨Only.refl _ _,fun _ _ h=>h⟩
theorem Wr.trans{S:Nat→Prop}{a b c:World}(h:Wr S a b)(k:Wr S b c):Wr S a c:=⟨h.o.trans k.o,fun b' i q=>k.op b' i (h.op b' i q)⟩
theorem Wr.set{S:Nat→Prop}{a w:World}(h:Wr S a w){p:Addr}(hp:S p.block)(u:Value):Wr S a (w.setCell p u):=⟨h.o.setCell hp u,fun b k q=>(h.op b k q).set _ _⟩
theorem Wr.mono{S T:Nat→Prop}{w w':World}(h:Wr S w w')(hST:∀k,S k→T k):Wr T w w':=⟨h.o.mono hST,h.op⟩
def OpSl(S:Nat→Prop)(w:World)(sz:Nat)(ad:Option Addr)(n:Nat):Prop:=0<n→∃b o,ad=some ⟨b,o,none⟩∧S b∧∀j,j<sz*n→Open w b (o+j)
theorem OpSl.wr{S T:Nat→Prop}{w w':World}{sz n:Nat}{ad:Option Addr}(h:OpSl S w sz ad n)(k:Wr T w w'):OpSl S w' sz ad n:=fun h0=>by
 obtain⟨b,o,e,s,q⟩:=h h0;exact⟨b,o,e,s,fun j hj=>k.op _ _ (q j hj)⟩
theorem OpSl.ext{S:Nat→Prop}{w w':World}{sz n:Nat}{ad:Option Addr}(h:OpSl S w sz ad n)(k:Ext w w'):OpSl S w' sz ad n:=fun h0=>by
 obtain⟨b,o,e,s,q⟩:=h h0;exact⟨b,o,e,s,fun j hj=>(q j hj).ext k⟩
def OpC(S:Nat→Prop)(w:World)(ad:Option Addr)(xs:List Cl):Prop:=0<xs.length→∃b o,ad=some ⟨b,o,none⟩∧S b∧∀i (hi:i<xs.length),(∀j,j<7→Open w b (o+i*8+j))∧∃ap kp,w.cell? ⟨b,o+i*8+7,none⟩=some (.slice ap xs[i].prs.length kp)∧OpSl (fun q=>S q∧q≠b) w 6 ap xs[i].prs.length
theorem OpC.ext{S:Nat→Prop}{w w':World}{ad:Option Addr}{xs:List Cl}(h:OpC S w ad xs)(k:Ext w w'):OpC S w' ad xs:=fun h0=>by
 obtain⟨b,o,e,s,q⟩:=h h0;refine⟨b,o,e,s,fun i hi=>⟨fun j hj=>((q i hi).1 j hj).ext k,?_⟩⟩;obtain⟨ap,kp,c,d⟩:=(q i hi).2;exact⟨ap,kp,k.keep c,d.ext k⟩
theorem OpC.wr{S T:Nat→Prop}{w w':World}{ad:Option Addr}{xs:List Cl}(h:OpC S w ad xs)(k:Wr T w w')(hT:∀b o,ad=some ⟨b,o,none⟩→¬T b):OpC S w' ad xs:=fun h0=>by
 obtain⟨b,o,e,s,q⟩:=h h0;refine⟨b,o,e,s,fun i hi=>⟨fun j hj=>k.op _ _ ((q i hi).1 j hj),?_⟩⟩;obtain⟨ap,kp,c,d⟩:=(q i hi).2;exact⟨ap,kp,k.o.keep (hT b o e) c,d.wr k⟩
def Kc(len:Nat→Nat)(k0:Int):Nat→Int
 | 0=>k0
 | q+1=>Kc len k0 q+7+6*(len q:Int)
structure CMk(w:World)(B n:Nat)(len pb:Nat→Nat)(pa:Nat→Option Addr)(pk:Nat→Nat)(K:Nat→Int)(k:Nat):Prop where
 a:∀q,q<n→w.cell? ⟨B,q*8+7,none⟩=some (.slice (pa q) (len q) (pk q))
 l:∀q,q<n→0<len q→pa q=some ⟨pb q,0,none⟩
 o:∀q,q<n→∀i,i<7→Open w B (q*8+i)
 p:∀q,q<n→∀j,j<6*len q→Open w (pb q) (0+j)
 m:∀q,q<k→(∀i,i<7→w.cell? ⟨B,q*8+i,none⟩=some (iv (K q+i)))∧∀j,j<6*len q→w.cell? ⟨pb q,0+j,none⟩=some (iv (K q+7+j))
theorem CMk.ext{w w':World}{B n k:Nat}{len pb:Nat→Nat}{pa:Nat→Option Addr}{pk:Nat→Nat}{K:Nat→Int}(h:CMk w B n len pb pa pk K k)(e:Ext w w'):CMk w' B n len pb pa pk K k:=
 ⟨fun q hq=>e.keep (h.a q hq),h.l,fun q hq i hi=>(h.o q hq i hi).ext e,fun q hq j hj=>(h.p q hq j hj).ext e,fun q hq=>⟨fun i hi=>e.keep ((h.m q hq).1 i hi),fun j hj=>e.keep ((h.m q hq).2 j hj)⟩⟩
theorem CMk.only{S:Nat→Prop}{w w':World}{B n k:Nat}{len pb:Nat→Nat}{pa:Nat→Option Addr}{pk:Nat→Nat}{K:Nat→Int}(h:CMk w B n len pb pa pk K k)(e:Only S w w')(hk:k≤n)(hB:¬S B)(hp:∀q,q<n→0<len q→¬S (pb q)):CMk w' B n len pb pa pk K k:=
 ⟨fun q hq=>e.keep hB (h.a q hq),h.l,fun q hq i hi=>open_only (h.o q hq i hi) e hB,fun q hq j hj=>open_only (h.p q hq j hj) e (hp q hq (by omega)),fun q hq=>⟨fun i hi=>e.keep hB ((h.m q hq).1 i hi),fun j hj=>e.keep (hp q (by omega) (by omega)) ((h.m q hq).2 j hj)⟩⟩
end Go.Proofs.YtddkhnclmeikfaaGreat
