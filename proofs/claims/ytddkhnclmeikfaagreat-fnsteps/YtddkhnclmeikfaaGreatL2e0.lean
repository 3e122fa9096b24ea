import Derived.Test.YtddkhnclmeikfaaGreatImpR
set_option maxRecDepth 100000
set_option maxHeartbeats 2000000
namespace Go.Proofs.YtddkhnclmeikfaaGreat
open Go.RowKit
attribute [local go_sem ↓] Go.wp_at_zero Go.wp_at_succ
variable{x:Hp}{k i c j kr kc kg:Nat}{L0 T L T':List Int}{y:Wd}{r:Int}{ar ac ag:Option Addr}
def SK(c:Cl):Prop:=c.weak≠1/\c.weak≠3
def SV(c:Cl):Prop:=c.weak≠2/\c.weak≠3
def tH(x:Hp)(i:Nat):Prop:=∀P:Nat->Prop,(∀k (h:k<x.regs.length),x.regs[k].k=2->P (tgt x x.regs[k]))->(∀i,i<x.cells.length->(x.c i).last=2->P i)->
 (∀j p,P j->p<(x.c j).prs.length->SK (x.c j)->((x.c j).p p).key.k=2->P (tgt x ((x.c j).p p).key))->
 (∀j p,P j->p<(x.c j).prs.length->SV (x.c j)->(((x.c j).p p).key.k=2->P (tgt x ((x.c j).p p).key))->((x.c j).p p).val.k=2->P (tgt x ((x.c j).p p).val))->P i
theorem tH.reg(k:Nat)(h:k<x.regs.length)(hk:x.regs[k].k=2):tH x (tgt x x.regs[k]):=λ_ a _ _ _=>a k h hk
theorem tH.due(i:Nat)(hi:i<x.cells.length)(h:(x.c i).last=2):tH x i:=λ_ _ b _ _=>b i hi h
theorem tH.key(j p:Nat)(h:tH x j)(hp:p<(x.c j).prs.length)(hs:SK (x.c j))(hk:((x.c j).p p).key.k=2):tH x (tgt x ((x.c j).p p).key):=λP a b c d=>c j p (h P a b c d) hp hs hk
theorem tH.val(j p:Nat)(h:tH x j)(hp:p<(x.c j).prs.length)(hs:SV (x.c j))(hh:((x.c j).p p).key.k=2->tH x (tgt x ((x.c j).p p).key))(hk:((x.c j).p p).val.k=2):tH x (tgt x ((x.c j).p p).val):=λP a b c d=>d j p (h P a b c d) hp hs (λe=>hh e P a b c d) hk
theorem tH.reached(r2:R2 x)(h:tH x i):dX x i:=
 h (dX x) (λk h hk=>dX.reg k h hk) (λi hi hl=>dX.last i hi (a2z r2 i hi (.inr hl)) (.inr hl)) (λj p ih hp _ hk=>dX.key j p ih hp hk) (λj p ih hp _ _ hk=>dX.val j p ih hp hk)
theorem tH.good(r2:R2 x)(r4:R4 x)(h:tH x i):Good x i:=(h.reached r2).good r2 r4
def a9c(x:Hp)(L:List Int):Prop:=∀z,z∈L->∃i:Nat,z=(i:Int)/\tH x i
theorem a9c.add{L':List Int}(h:a9c x L)(a:Add x y L L')(hy:y.k=2->tH x (tgt x y)):a9c x L':=λz hz=>by
 rcases a.new hz with q | ⟨k,e⟩
 ·exact h z q
 ·exact⟨_,e,hy k⟩
def b7g(x:Hp)(k:Nat)(L:List Int):Prop:=∀i,i<k->i<x.cells.length->(x.c i).last=2->(i:Int)∈L
def qD(x:Hp)(L0:List Int)(j k:Nat)(T:List Int):Prop:=∀p,p<k->(SK (x.c j)->((x.c j).p p).key.k=2->(tgt x ((x.c j).p p).key:Int)∈T)/\(SV (x.c j)->(((x.c j).p p).key.k=2->(tgt x ((x.c j).p p).key:Int)∈L0)->((x.c j).p p).val.k=2->(tgt x ((x.c j).p p).val:Int)∈T)
theorem qD.mono(h:qD x L0 j k T)(s:∀z,z∈T->z∈T'):qD x L0 j k T':=λp hp=>⟨λa e=>s _ ((h p hp).1 a e),λa b e=>s _ ((h p hp).2 a b e)⟩
def ClH(x:Hp)(L0:List Int)(c:Nat)(T:List Int):Prop:=∀q,q<c->qD x L0 (it T q).toNat (x.c (it T q).toNat).prs.length T
theorem ClH.add(h:ClH x L0 c T)(a:Add x y T T')(hc:c<=T.length):ClH x L0 c T':=λq hq=>by
 obtain⟨R,e⟩:=a.pre;have e2:it T' q=it T q:=by rw[e];exact a9t (by omega)
 rw[e2];exact(h q hq).mono (λz hz=>a.sub hz)
structure tD(x:Hp)(L0:List Int)(c:Nat)(T:List Int):Prop where
 o:a9c x T
 r:a3t x x.regs.length T
 d:b7g x x.cells.length T
 e:∃R,T=L0++R
 c:ClH x L0 c T
theorem tD.add(h:tD x L0 c T)(a:Add x y T T')(hc:c<=T.length)(hy:y.k=2->tH x (tgt x y)):tD x L0 c T':=
 ⟨h.o.add a hy,λj hj hk e=>a.sub (h.r j hj hk e),λi hi hn e=>a.sub (h.d i hi hn e),by
  obtain⟨R,e⟩:=h.e;obtain⟨R',e'⟩:=a.pre;exact⟨R++R',by rw[e',e,List.append_assoc]⟩,h.c.add a hc⟩
theorem tD.step(h:tD x L0 c T)(e:it T c=(j:Int))(k:qD x L0 j (x.c j).prs.length T):tD x L0 (c+1) T:=
 ⟨h.o,h.r,h.d,h.e,λq hq=>by
  by_cases f:q=c
  ·subst f;rw[e];simpa using k
  ·exact h.c q (by omega)⟩
structure b7h(x:Hp)(n:Int)(L:List Int):Prop where
 o:a9c x L
 r:a3t x x.regs.length L
 d:b7g x x.cells.length L
 b:-1<=n/\n<=L.length
 c:n=L.length->ClH x L L.length L
theorem b7h.begin{n:Int}(h:b7h x n L):tD x L 0 L:=⟨h.o,h.r,h.d,⟨[],by simp⟩,λq hq=>by omega⟩
theorem tD.rest(h:tD x L0 T.length T):b7h x L0.length T:=by
 obtain⟨R,e⟩:=h.e;refine⟨h.o,h.r,h.d,⟨by omega,by rw[e];simp;omega⟩,λf=>?_⟩
 have:R=[]:=by
  have:(T.length:Int)=L0.length+R.length:=by rw[e];simp
  exact List.length_eq_zero_iff.1 (by omega)
 have e2:T=L0:=by rw[e,this];simp
 have:=h.c;rw[<-e2] at this;exact this
theorem b7h.done(h:b7h x L.length L)(i:Nat):(i:Int)∈L↔tH x i:=by
 constructor
 ·intro q;obtain⟨j,e,hj⟩:=h.o _ q;have:i=j:=by omega
  rw[this];exact hj
 ·intro q
  have cl:∀j:Nat,(j:Int)∈L->qD x L j (x.c j).prs.length L:=λj hj=>by
   obtain⟨q,hq,e⟩:=List.getElem_of_mem hj;have:=h.c rfl q hq;rw[<-a8h L q hq,e] at this
   simpa using this
  exact q (λi=>(i:Int)∈L) (λk hk e=>h.r k hk hk e) (λi hi e=>h.d i hi hi e) (λj p ih hp hs hk=>(cl j ih p hp).1 hs hk) (λj p ih hp hs hh hk=>(cl j ih p hp).2 hs hh hk)
def tZ(x:Hp)(H:Nat->Bool)(y:Wd):Bool:=(qJ x y).k == 2 && !H (qJ x y).a.toNat
def wkB(c:Cl):Bool:=c.weak == 1 || c.weak == 3
def wvB(c:Cl):Bool:=c.weak == 2 || c.weak == 3
def goB(x:Hp)(H:Nat->Bool)(c:Cl)(p:Pr):Bool:=(wkB c && tZ x H p.key) || (wvB c && tZ x H p.val)
def yD(x:Hp)(H:Nat->Bool)(c:Cl)(l:List Pr):List Pr:=l.filter (λp=>!goB x H c p)
def tY(x:Hp)(H:Nat->Bool)(c:Cl)(l:List Pr):Nat:=(l.filter (λp=>goB x H c p)).length
theorem a7b(x:Hp)(H:Nat->Bool)(c:Cl)(l:List Pr):(yD x H c l).length+tY x H c l=l.length:=by
 unfold yD tY
 induction l with
 | nil=>rfl
 | cons p l ih=>
  cases h:goB x H c p <;> simp [h] <;> omega
def dL(x:Hp):Int:=if x.phase=2/\0<x.gray.length then x.gray.getD 0 0 else if x.phase=5/\x.hand<x.cells.length then x.hand else -1
def b3k(x:Hp)(H:Nat->Bool)(c:Cl):Cl:={ c with prs:=yD x H c c.prs }
def a2e(x:Hp)(H:Nat->Bool)(i:Nat)(s:Int):Int:=if dL x=(i:Int) then s-tY x H (x.c i) ((x.c i).prs.take s.toNat) else s
def cV(x:Hp)(H:Nat->Bool):Nat->Hp
 | 0=>x
 | k+1=>if H k=true then { cV x H k with cells:=(cV x H k).cells.set k (b3k x H (x.c k)),used:=(cV x H k).used-tY x H (x.c k) (x.c k).prs,sub:=a2e x H k (cV x H k).sub } else cV x H k
def a1j(x:Hp)(H:Nat->Bool):Nat->Nat
 | 0=>0
 | k+1=>if H k=true then a1j x H k+tY x H (x.c k) (x.c k).prs else a1j x H k
def a7h(x:Hp)(H:Nat->Bool)(i:Nat):Bool:=!H i && (x.c i).last == 1
def b5k(c:Cl):Cl:={ c with last:=2 }
def zU(x z:Hp)(H:Nat->Bool):Nat->Hp
 | 0=>z
 | k+1=>if a7h x H k=true then { zU x z H k with cells:=(zU x z H k).cells.set k (b5k (x.c k)) } else zU x z H k
def a5q(x:Hp)(H:Nat->Bool):Nat->Nat
 | 0=>0
 | k+1=>if a7h x H k=true then a5q x H k+1 else a5q x H k
def a4e(x:Hp)(H:Nat->Bool):Hp:=zU x (cV x H x.cells.length) H x.cells.length
def stlC(x:Hp)(H:Nat->Bool)(i:Nat):Cl:=if H i=true then b3k x H (x.c i) else if (x.c i).last=1 then b5k (x.c i) else x.c i
theorem a2a(x:Hp)(H:Nat->Bool):∀k,(cV x H k).cells.length=x.cells.length
 | 0=>rfl
 | k+1=>by
  unfold cV
  split
  ·simp [a2a x H k]
  ·exact a2a x H k
theorem a9d(x:Hp)(H:Nat->Bool):∀k,k<=x.cells.length->∀q,(cV x H k).c q=if q<k/\H q=true then b3k x H (x.c q) else x.c q
 | 0,_,q=>by rw[if_neg (by omega)];rfl
 | k+1,hk,q=>by
  have ih:=a9d x H k (by omega) q;unfold cV;by_cases h:H k=true
  ·rw[if_pos h];have:=Hp.c_set (cV x H k) k (b3k x H (x.c k)) (by rw[a2a];omega) q;have e:({ cV x H k with cells:=(cV x H k).cells.set k (b3k x H (x.c k)),used:=(cV x H k).used-tY x H (x.c k) (x.c k).prs,sub:=a2e x H k (cV x H k).sub }:Hp).c q=({ cV x H k with cells:=(cV x H k).cells.set k (b3k x H (x.c k)) }:Hp).c q:=rfl;rw[e,this];by_cases eq:q=k
   ·rw[if_pos eq,eq,if_pos ⟨by omega,h⟩]
   ·rw[if_neg eq,ih];by_cases h2:q<k/\H q=true
    ·rw[if_pos h2,if_pos ⟨by omega,h2.2⟩]
    ·rw[if_neg h2,if_neg (λh3=>h2 ⟨by omega,h3.2⟩)]
  ·rw[if_neg h,ih];by_cases h2:q<k/\H q=true
   ·rw[if_pos h2,if_pos ⟨by omega,h2.2⟩]
   ·rw[if_neg h2,if_neg (λh3=>by
     by_cases eq:q=k
     ·rw[eq] at h3;exact h h3.2
     ·exact h2 ⟨by omega,h3.2⟩)]
def tC(x:Hp)(k:Nat)(r:Int):Prop:=(r = -1/\∀i,i<k->(x.c i).last≠2)\/∃i:Nat,r=(i:Int)/\i<k/\(x.c i).last=2/\∀j,j<k->(x.c j).last=2->(x.c i).born<=(x.c j).born
theorem tC.no(h:tC x k r)(hk:(x.c k).last≠2):tC x (k+1) r:=by
 rcases h with⟨h,n⟩ | ⟨i,h,hi,di,mi⟩
 ·exact .inl ⟨h,λj hj=>by rcases (by omega:j<k\/j=k) with q | q;exact n j q;subst q;exact hk⟩
 ·exact .inr ⟨i,h,by omega,di,λj hj dj=>by rcases (by omega:j<k\/j=k) with q | q;exact mi j q dj;subst q;exact(hk dj).elim⟩
theorem tC.first(h:tC x k (-1))(hk:(x.c k).last=2):tC x (k+1) k:=by
 rcases h with⟨h,n⟩ | ⟨i,h,hi,di,mi⟩
 ·exact .inr ⟨k,rfl,by omega,hk,λj hj dj=>by rcases (by omega:j<k\/j=k) with q | q;exact(n j q dj).elim;subst q;omega⟩
 ·omega
theorem tC.less(h:tC x k i)(hk:(x.c k).last=2)(hl:(x.c k).born<(x.c i).born):tC x (k+1) k:=by
 rcases h with⟨h,n⟩ | ⟨i',h,hi,di,mi⟩
 ·omega
 ·obtain rfl:i'=i:=by omega
  exact .inr ⟨k,rfl,by omega,hk,λj hj dj=>by rcases (by omega:j<k\/j=k) with q | q;have:=mi j q dj;omega;subst q;omega⟩
theorem tC.more(h:tC x k i)(hl:(x.c i).born<=(x.c k).born):tC x (k+1) i:=by
 rcases h with⟨h,n⟩ | ⟨i',h,hi,di,mi⟩
 ·omega
 ·obtain rfl:i'=i:=by omega
  exact .inr ⟨i',rfl,by omega,di,λj hj dj=>by rcases (by omega:j<k\/j=k) with q | q;exact mi j q dj;subst q;exact hl⟩
theorem tC.form(h:tC x k r):r = -1\/∃i:Nat,r=(i:Int)/\i<k:=by
 rcases h with⟨h,_⟩ | ⟨i,h,hi,_⟩
 ·exact .inl h
 ·exact .inr ⟨i,h,hi⟩
def a2h(x:Hp)(p:Nat->Bool):Nat->Nat
 | 0=>0
 | k+1=>a2h x p k+(if p k=true then 1+(x.c k).prs.length else 0)
theorem c5s{x:Hp}{p:Nat->Bool}(h:∀i,i<x.cells.length->(x.c i).prs.length<=200)(k:Nat)(hk:k<=x.cells.length):a2h x p k<=201*k:=by
 induction k with
 | zero=>simp [a2h]
 | succ k ih=>
  have:=h k (by omega);have:=ih (by omega);simp only [a2h]
  split <;> omega
theorem b3z(x:Hp)(b bs:Nat)(p:Nat->Bool)(w:World)(h:HAt w b x ar kr ac kc ag kg)(hs:∀i,i<x.cells.length->w.cell? ⟨bs,i,none⟩=some (.bool (p i)))(hn8:x.cells.length<=8000)(h200:∀i,i<x.cells.length->(x.c i).prs.length<=200):
  Calls Tryz.prog 76 #[.pointer (some ⟨b,0,none⟩),.slice (some ⟨bs,0,none⟩) x.cells.length x.cells.length] w λe w'=>e=.returned (.int .i64 (a2h x p x.cells.length:Int))/\w'=w:=by
 have HS:=uU hs;have HH:=uU h;have c4:=h.c4;have HL:=uU (λk hk=>c5s (p:=p) h200 k hk);clear hs h;go_enter Tryz.func76,Tryz.ntmps76;go_wp2_with fail
 go_loop [5,10] (λn i=>∃(k u:Nat),k<=x.cells.length/\i=.int .i64 k/\n=.int .i64 u/\Hid (u=a2h x p k)) (λ_ i=>x.cells.length-(intOf i).toNat)
 case atStart=>exact⟨0,0,Nat.zero_le _,rfl,rfl,rfl⟩
 case round=>
  obtain⟨k,u,hk,rfl,rfl,hu⟩:=hrel;have hul:u<=201*k:=by have:=uH hu;rw[this];exact HL k hk
  by_cases hlt:k<x.cells.length
  ·have hc:=uH HS k hlt;obtain⟨b',o,ap,kp,rfl,p0,p1,p2,p3,p4,p5,p6,p7,lp,P⟩:=HH.cell k hlt;have hl:=h200 k hlt;have hk0:(0:Int)<=(k:Int):=by omega
   have hk1:(k:Int)<(x.cells.length:Int):=by omega
   clear P p0 p1 p2 p3 p4 p5 p6;cases tp:p k
   ·rw[tp] at hc;have U2:=uU (show u=a2h x p (k+1) by have:=uH hu;simp only [a2h,tp];simp;exact this);go_wp2_with fail
    go_round
    case rel=>exact⟨k+1,u,by omega,by go_num,rfl,U2⟩
    case measure=>simp [intOf];omega
   ·rw[tp] at hc;have U2:=uU (show u+(1+(x.c k).prs.length)=a2h x p (k+1) by have:=uH hu;simp only [a2h,tp];simp;omega);go_wp2_with fail
    go_round
    case rel=>exact⟨k+1,u+(1+(x.c k).prs.length),by omega,by go_num,by go_num,U2⟩
    case measure=>simp [intOf];omega
  ·have hk2:k=x.cells.length:=by omega
   have U:=uU (show u=a2h x p x.cells.length by have:=uH hu;rw[hk2] at this;exact this);clear hk2;go_wp2_with fail;go_ret;exact⟨by rw[<-uH U];rfl,rfl⟩
def c5t(x:Hp)(r:Nat):Prop:=(eJ x 0/\∃p:Nat->Bool,(∀i,p i=true↔dX x i)/\r=a2h x p x.cells.length)\/(¬eJ x 0/\r=0)
theorem b9q(x:Hp)(b:Nat)(w:World)(h:HAt w b x ar kr ac kc ag kg)(ok:eJ x 0):
  Calls Tryz.prog 75 #[.pointer (some ⟨b,0,none⟩)] w λe w'=>∃r:Nat,Hid (e=.returned (.int .i64 (r:Int)))/\c5t x r/\Ext w w':=by
 have HH:=uU h;have OK:=uU ok;clear h ok;go_enter Tryz.func75,Tryz.ntmps75;go_wp2_with fail;refine(b7e x b _ HH OK.all.2.1 OK.all.2.2.2 OK.n8).mono ?_;rintro e w1 ⟨v,L,rfl,hs,hr,hq⟩;have HS:=uU hs;clear hs;go_wp2_with fail;refine(b3z x b w.heap.size (λi=>decide ((i:Int)∈L)) _ (HH.ext hq) HS.s OK.n8 OK.p200).mono ?_;rintro e w2 ⟨rfl,rfl⟩;go_wp2_with fail;go_ret;exact⟨_,rfl,.inl ⟨OK,_,λi=>by simpa using uH hr i,rfl⟩,hq⟩
end Go.Proofs.YtddkhnclmeikfaaGreat
