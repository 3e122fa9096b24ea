import Derived.Test.YtddkhnclmeikfaaGreatLj
import Derived.Test.YtddkhnclmeikfaaGreatImpS2
set_option maxRecDepth 100000
set_option maxHeartbeats 4000000
namespace Go.Proofs.YtddkhnclmeikfaaGreat
open Go.RowKit
attribute [local go_sem ↓] Go.wp_at_zero Go.wp_at_succ
variable{x z y:Hp}{w w' w1 w2 w4 w5:World}{B br bn kr b hd kn C i kc bc kg g q:Nat}{F G F':List Int}{pb pk cB cO role:Nat->Nat}{pa:Nat->Option Addr}{K:List Nat}{ar ac ag:Option Addr}{v4 vf v8 vk vg vr vc:Value}{S:Nat->Prop}
def HRd(w:World)(y:Hp)(ar:Option Addr)(kr:Nat)(ac:Option Addr)(kc:Nat)(ag:Option Addr)(kg:Nat):Prop:=SlW w (.slice ar y.B.length kr) y.B/\SlC w (.slice ac y.A.length kc) y.A/\SlI w (.slice ag y.D.length kg) y.D
theorem HRd.ext(h:HRd w y ar kr ac kc ag kg)(e:Ext w w'):HRd w' y ar kr ac kc ag kg:=⟨SlW.ext e h.1,SlC.ext e h.2.1,SlI.ext e h.2.2⟩
theorem HRd.zero(w:World):HRd w Hp0 none 0 none 0 none 0:=⟨yU.nil,yU.nil,yU.nil⟩
theorem GAt.low[Inhabited uQ](hz:∀q,(default:uQ).z q=none)(h:GAt B w g x ar kr ac kc vg br bc pb pa pk role)(o:uZ S w w')(hS:∀q,S q->q<B):GAt B w' g x ar kr ac kc vg br bc pb pa pk role:=
 ⟨h.bx.only o (λs=>by have:=hS _ s;have:=h.lo;omega),uV h.nf (o.block g h.nf.1 (λs=>by have:=hS _ s;have:=h.lo;omega)) o.size,h.lo,h.ha,h.hc,h.rw.only o (λhl s=>by have:=hS _ s;have:=(h.rw.nr hl).2;omega) (λhl s=>by have:=hS _ s;have:=(h.rw.nc hl).2;omega) (λq hq hl s=>by have:=hS _ s;have:=(h.rw.pl q hq hl).2.2.2;omega),h.gr.block (λq hq=>o.block q (h.gr.lt q hq).2 (λs=>by have:=hS _ s;have:=(h.gr.lt q hq).1;omega)),h.sp,h.kl,λq o h=>(by rw[hz q] at h;cases h),λhk=>(h.cc hk).block rfl (o.block bc (h.cc hk).nf.1 (λs=>by have:=hS _ s;have:=(h.cc hk).lo;omega)) o.size⟩
theorem GAt.rd[Inhabited uQ](h:GAt B w g x ar kr ac kc (.slice ag x.D.length kg) br bc pb pa pk role)(n1:x.B.length<=1048576)(n2:x.A.length<=1048576)(n3:∀q,q<x.A.length->(x.c q).F.length<=200)(n4:x.D.length<=1048576):HRd w x ar kr ac kc ag kg:=by
 refine⟨h.rw.slW kr h.ha n1,h.rw.slC kc h.hc n2 n3,⟨ag,kg,rfl,by omega,λi hi=>?_⟩⟩;obtain⟨gb,go,e,c,_⟩:=h.gr.at i hi;exact⟨gb,go,e,by rw[Nat.mul_one];exact c⟩
structure Cpl(w w4 wr:World)(x:Hp)(vr vc vg:Value)(pv vp:Nat->Value)(k:Nat):Prop where
 bx:dE wr w.heap.size x vr vc vg
 s:∀q,q<x.A.length->S7 wr (qN vc) (q*8) (x.c q)
 p7:∀q,q<x.A.length->wr.cell? ⟨qN vc,q*8+7,none⟩=some (if q<k then pv q else vp q)
 pr:∀q,q<x.A.length->q<k->wr.ownsRow w4.heap.size 154 6 (pv q) (x.c q).F.length ((x.c q).F.flatMap fP)
 dp:∀q q',q<k->q'<k->q≠q'->∀b,(pv q).ownBlock=some b->(pv q').ownBlock≠some b
 on:uZ (λq=>q=qN vc/\0<x.A.length) w4 wr
 nf:0<x.A.length->Nf1 (qN vc) wr
theorem Cpl.step{wr:World}{v':Value}{pv vp:Nat->Value}{k:Nat}(h:Cpl w w4 wr x vr vc vg pv vp k)(hk:k<x.A.length)(hvc:w.heap.size+2<=qN vc/\qN vc<w4.heap.size)(e:Ext wr w5)(ho:w5.ownsRow wr.heap.size 154 6 v' (x.c k).F.length ((x.c k).F.flatMap fP)):
  Cpl w w4 (w5.setCell ⟨qN vc,k*8+7,none⟩ v') x vr vc vg (λq=>if q=k then v' else pv q) vp (k+1):=by
 have h4:=h.on.size;have far:∀b,b≠qN vc->(w5.setCell ⟨qN vc,k*8+7,none⟩ v').heap[b]?=w5.heap[b]?:=λb hb=>Below.heap_setCell _ _ _ _ hb
 refine⟨(h.bx.ext e).far _ _ _ (.inl (by omega)),λq hq=>?_,λq hq=>?_,λq hq hqk=>?_,λq q' hq hq' hne b hb=>?_,?_,λhn=>((h.nf hn).ext e).set _ _⟩
 ·refine(h.s q hq).of λj hj=>?_
  rw[uC _ (.inr (by omega))];exact e.cell (p:=⟨qN vc,_,none⟩) (by show qN vc<_;omega)
 ·by_cases hqk:q=k
  ·subst hqk;rw[if_pos (by omega),if_pos rfl];exact World.cell?_setCell_same _ _ _ (e.keep (h.p7 q hq))
  ·rw[uC _ (.inr (by omega)),if_neg hqk];have:=e.keep (h.p7 q hq);rw[this];by_cases hlt:q<k
   ·rw[if_pos hlt,if_pos (by omega)]
   ·rw[if_neg hlt,if_neg (by omega)]
 ·by_cases hqe:q=k
  ·subst hqe;simp only [if_pos];exact a3v (uN ho (λb hb=>far b (by have:=(ho.lt b hb).1;omega))) h4
  ·simp only [if_neg hqe];have hq2:=h.pr q hq (by omega);exact uN hq2 (λb hb=>(far b (by have:=(hq2.lt b hb).1;omega)).trans (e.block b (hq2.lt b hb).2))
 ·by_cases h1:q=k <;> by_cases h2:q'=k
  ·omega
  ·rw[if_pos h1] at hb;rw[if_neg h2];intro hb';have:=(ho.lt b hb).1;have:=((h.pr q' (by omega) (by omega)).lt b hb').2;omega
  ·rw[if_neg h1] at hb;rw[if_pos h2];intro hb';have:=(ho.lt b hb').1;have:=((h.pr q (by omega) (by omega)).lt b hb).2;omega
  ·rw[if_neg h1] at hb;rw[if_neg h2];exact h.dp q q' (by omega) (by omega) hne b hb
 ·exact(h.on.trans (uZ.of_ext e)).setCell ⟨rfl,by omega⟩ _
theorem CvAt.ext{w w':World}(e:Ext w w'){b o:Nat}{z:Cl×Value}(h:CvAt w b o z):CvAt w' b o z:=λj hj=>by
 have:=h j hj;cases hc:(fC z)[j]? with
 | none=>match j,hj with | 0,_ | 1,_ | 2,_ | 3,_ | 4,_ | 5,_ | 6,_ | 7,_=>simp [fC] at hc
 | some y=>rw[hc] at this;exact e.keep this
theorem Cpl.V{L:List (Cl×Value)}(hL:L.map (·.1)=x.A)(hb:dE w4 w.heap.size x vr v4 vg)(ho:w4.ownsRow B 62 8 vc L.length (L.flatMap fC))(hB:w.heap.size<B):
  Cpl w (w4.setCell ⟨w.heap.size,4,none⟩ vc) (w4.setCell ⟨w.heap.size,4,none⟩ vc) x vr vc vg (λ_=>.slice none 0 0) (λq=>(L.getD q (Cl0,.slice none 0 0)).2) 0:=by
 have hLl:L.length=x.A.length:=by rw[<-hL,List.length_map]
 have hc:∀q,q<x.A.length->∀j,j<8->(w4.setCell ⟨w.heap.size,4,none⟩ vc).cell? ⟨qN vc,q*8+j,none⟩=(fC (L.getD q (Cl0,.slice none 0 0)))[j]?:=λq hq j hj=>by
  have h1:=b0e ho (by omega);rw[uC _ (.inl (by have:=h1.2;omega)),a8g (f:=fC) (λ_=>rfl) ho q (by omega) j hj]
  congr 2
  simp [hLl,hq]
 have h1:∀q,q<x.A.length->(L.getD q (Cl0,.slice none 0 0)).1=x.c q:=λq hq=>by
  have e:x.A[q]=(L.map (·.1))[q]'(by simpa [hLl] using hq):=by simp [hL]
  rw[<-Hp.c_eq x q hq,e];simp [hLl,hq]
 refine⟨hb.set4 vc,λq hq=>?_,λq hq=>?_,λq _ hq=>by omega,λq q' hq=>by omega,uZ.refl _ _,λhn=>(b0e ho (by omega)).1.set _ _⟩
 ·have:=hc q hq;rw[<-h1 q hq];exact⟨this 0 (by omega),this 1 (by omega),this 2 (by omega),this 3 (by omega),this 4 (by omega),this 5 (by omega),this 6 (by omega)⟩
 ·rw[if_neg (by omega)];exact hc q hq 7 (by omega)
def CapP(x:Hp)(pk:Nat->Nat):Prop:=∀q,q<x.A.length->(x.c q).F.length<=pk q
theorem c8y{t:TypeId}{c n:Nat}{v:Value}{xs:List Value}(h:w.ownsRow B t c v n xs):n<=yX v:=by
 rcases h.2 with⟨rfl,rfl⟩ | ⟨g,cap,cur,rfl,_,_,h4,_⟩
 ·exact Nat.le_refl _
 ·exact h4
def HOwn(B:Nat)(w:World)(x:Hp)(vr vc:Value):Prop:=∃br bc pb pa pk ar kr ac kc,vr=.slice ar x.B.length kr/\(0<x.B.length->ar=some ⟨br,0,none⟩)/\vc=.slice ac x.A.length kc/\(0<x.A.length->ac=some ⟨bc,0,none⟩)/\Rws B w x br bc pb pa pk/\CapP x pk
theorem HOwn.ext(h:HOwn B w x vr vc)(e:Ext w w'):HOwn B w' x vr vc:=by
 obtain⟨br,bc,pb,pa,pk,ar,kr,ac,kc,h1,h2,h3,h4,h5,h6⟩:=h;exact⟨br,bc,pb,pa,pk,ar,kr,ac,kc,h1,h2,h3,h4,h5.ext e,h6⟩
theorem c1x(x:Hp)(ag:Option Addr)(ng kg:Nat)(w:World){ar:Option Addr}{kr:Nat}{ac:Option Addr}{kc:Nat}(hR:SlW w (.slice ar x.B.length kr) x.B)(hC:SlC w (.slice ac x.A.length kc) x.A)(n1:x.B.length<=1048576)(n2:x.A.length<=8000)(n3:∀q,q<x.A.length->(x.c q).F.length<=200):
  Calls Tryz.prog 139 #[x.v (.slice ar x.B.length kr) (.slice ac x.A.length kc) (.slice ag ng kg)] w λe w'=>∃vr vc,e=.returned (x.v vr vc (.slice ag ng kg))/\Hid (HOwn w.heap.size w' x vr vc)/\Ext w w':=by
 obtain⟨L,hL,hLs,hLp⟩:=c7j hC;have hLl:L.length=x.A.length:=by rw[<-hL,List.length_map]
 have HLS:=uU hLs;have HLP:=uU hLp;have HL:=uU hL;have SR:=uU hR;clear hR hC hL hLs hLp;have xa:=((Ext.refl w).alloc (.cells #[iv x.M,iv x.K,iv x.born,.slice ar x.B.length kr,.slice ac x.A.length kc,iv x.E,iv x.I,iv x.sub,(.slice ag ng kg),iv x.per,iv x.V,iv x.Q,iv x.S] 34)).alloc (.cells #[iv 0,iv 0,iv 0,.slice none 0 0,.slice none 0 0,iv 0,iv 0,iv 0,.slice none 0 0,iv 0,iv 0,iv 0,iv 0] 34);have B2:=(dE.new w x (.slice ar x.B.length kr) (.slice ac x.A.length kc) (.slice ag ng kg) 34).ext ((Ext.refl _).alloc (.cells #[iv 0,iv 0,iv 0,.slice none 0 0,.slice none 0 0,iv 0,iv 0,iv 0,.slice none 0 0,iv 0,iv 0,iv 0,iv 0] 34));go_enter Tryz.func139,Tryz.ntmps139;go_wp2_with fail;refine(c0z x.B _ _ (SlW.ext xa SR) n1).mono ?_;rintro e w3 ⟨vr,rfl,hor,q3⟩;obtain⟨avr,kvr,hvr⟩:∃a k,vr=.slice a x.B.length k:=⟨_,_,(a0k hor).1⟩;subst hvr;have hz3:w.heap.size+2<=w3.heap.size:=by have:=q3.size;simp at this;omega
 have B3:=uU (B2.ext q3);have X3:=xa.trans q3;have OR:=uU hor;have c3:=B3.2.2.2.1;have c4:=B3.2.2.2.2.1;have fz:∀o,w3.frozen? ⟨w.heap.size,o,none⟩=false:=λo=>((cD q3).2 w.heap.size o (by simp;omega)).trans (by simp [go_sem])
 have f3:=fz 3;have FZ:=uU fz;have rc:=uU (show ∀o v,((w.alloc (.cells #[iv x.M,iv x.K,iv x.born,.slice ar x.B.length kr,.slice ac x.A.length kc,iv x.E,iv x.I,iv x.sub,(.slice ag ng kg),iv x.per,iv x.V,iv x.Q,iv x.S] 34)).alloc (.cells #[iv 0,iv 0,iv 0,.slice none 0 0,.slice none 0 0,iv 0,iv 0,iv 0,.slice none 0 0,iv 0,iv 0,iv 0,iv 0] 34)).cell? ⟨w.heap.size+1,o,none⟩=some v->w3.cell? ⟨w.heap.size+1,o,none⟩=some v from λo v h=>q3.keep h);have RF:=uU (show ∀o,w3.frozen? ⟨w.heap.size+1,o,none⟩=false from λo=>((cD q3).2 (w.heap.size+1) o (by simp)).trans (by simp [go_sem]));clear hor fz B2 q3;go_wp2_with fail;have X3s:Ext w (w3.setCell ⟨w.heap.size,3,none⟩ (.slice avr x.B.length kvr)):=X3.setCell (Nat.le_refl _) _;refine(c1c L _ _ (by rw[<-hLl];exact(show yU (CvAt _) 8 (.slice ac L.length kc) L from by have:=uH HLS;rw[<-hLl] at this;exact this.mono λ_ _ _ k=>k.ext X3s)) (λz hz=>slP_one (HLP z hz)) (by omega)).mono ?_;rintro e w4 ⟨vc,rfl,hoc,q4⟩;obtain⟨avc,kvc,hvc⟩:∃a k,vc=.slice a x.A.length k:=⟨_,_,by have:=(a0k hoc).1;rw[hLl] at this;exact this⟩;subst hvc;have hs3:(w3.setCell ⟨w.heap.size,3,none⟩ (.slice avr x.B.length kvr)).heap.size=w3.heap.size:=by simp [World.setCell]
 have B4:=uU ((B3.set3 (.slice avr x.B.length kvr)).ext q4);have ST:=uU (Cpl.V HL B4 hoc (by omega));have CB:=uU (a0k hoc).2;have CN:=uU (λh=>b0e hoc h);have hz4:w3.heap.size<=w4.heap.size:=by have:=q4.size;omega
 have d4:=B4.2.2.2.2.1;have g4:w4.frozen? ⟨w.heap.size,4,none⟩=false:=((cD q4).2 w.heap.size 4 (by omega)).trans (by rw[World.frozen?_setCell];exact FZ 4);have FZ4:=uU (show ∀o,w4.frozen? ⟨w.heap.size,o,none⟩=false from λo=>((cD q4).2 w.heap.size o (by omega)).trans (by rw[World.frozen?_setCell];exact FZ o));have X4:=X3s.trans q4;have Q4:=uU q4;clear hoc q4 c3 c4 f3 X3s;go_wp2_with fail;obtain⟨W5,hW5⟩:∃W,W=w4.setCell ⟨w.heap.size,4,none⟩ (.slice avc x.A.length kvc):=⟨_,rfl⟩;rw[<-hW5] at ST ⊢;have s5:W5.heap.size=w4.heap.size:=by rw[hW5];simp [World.setCell]
 have X5:Ext w W5:=by rw[hW5];exact X4.setCell (Nat.le_refl _) _
 have HW5:=uU hW5;clear hW5 d4 g4;go_loopw [15] (λi wr=>∃(k:Nat) (pv:Nat->Value),k<=x.A.length/\i=.int .i64 k/\Hid (Cpl w W5 wr x (.slice avr x.B.length kvr) (.slice avc x.A.length kvc) (.slice ag ng kg) pv (λq=>(L.getD q (Cl0,.slice none 0 0)).2) k)) (λi _=>x.A.length-(intOf i).toNat)
 case atStart=>exact⟨0,_,Nat.zero_le _,rfl,ST⟩
 case round=>
  clear ST;obtain⟨k,pv,hk,rfl,hcp⟩:=hrel;by_cases hlt:k<x.A.length
  ·obtain⟨bc,hbc⟩:∃bc,avc=some ⟨bc,0,none⟩:=⟨_,(CB (by omega)).1⟩;subst hbc;have hbc0:w3.heap.size<=bc/\bc<w4.heap.size:=by have h1:=(CN (by omega)).2;have h2:=(CN (by omega)).1.1;rw[hs3] at h1;exact⟨h1,h2⟩
   have XR:Ext w wr:=hcp.on.ext X5 (λq hq e=>by have e1:q=bc:=e.1;omega)
   have hm:L.getD k (Cl0,.slice none 0 0)∈L:=by
    have:L.getD k (Cl0,.slice none 0 0)=L[k]'(by omega):=by simp [hLl,hlt]
    rw[this];exact List.getElem_mem _
   have h1:(L.getD k (Cl0,.slice none 0 0)).1=x.c k:=by
    have e:x.A[k]=(L.map (·.1))[k]'(by simpa [hLl] using hlt):=by simp [uH HL]
    rw[<-Hp.c_eq x k hlt,e];simp [hLl,hlt]
   have sp0:=uH HLP _ hm;rw[h1] at sp0;obtain⟨apk,kpk,hvk⟩:∃a c,(L.getD k (Cl0,.slice none 0 0)).2=.slice a (x.c k).F.length c:=let ⟨a,c,e,_⟩:=sp0;⟨a,c,e⟩;rw[hvk] at sp0;have SP:=uU sp0
   have p7:wr.cell? ⟨bc,k*8+7,none⟩=some (.slice apk (x.c k).F.length kpk):=by
    have:=hcp.p7 k hlt;rw[if_neg (by omega),hvk] at this;exact this
   have c4:wr.cell? ⟨w.heap.size,4,none⟩=some (.slice (some ⟨bc,0,none⟩) x.A.length kvc):=hcp.bx.2.2.2.2.1;have f7:wr.frozen? ⟨bc,k*8+7,none⟩=false:=(hcp.nf (by omega)).2 _;have hl2:=n3 k hlt;have hbw:bc<wr.heap.size:=uL p7;have hk0:(0:Int)<=(k:Int):=by omega
   have hk1:(k:Int)<(x.A.length:Int):=by omega
   have hne:¬w.heap.size=bc:=by omega
   have hne2:¬bc=w.heap.size:=by omega
   clear sp0 hm h1;go_wp2_with fail;go_region_with (go_at_call 212;refine(c1a (x.c k).F _ _ (SlP.ext XR.drew SP) (by omega)).mono ?_;rintro e w6 ⟨v',rfl,hop,q6⟩;obtain⟨a',k',hv'⟩:∃a c,v'=.slice a (x.c k).F.length c:=⟨_,_,(a0k hop).1⟩;subst hv';have q6:=Ext.trans ((Ext.refl wr).drew) q6;have d4:=q6.keep c4;have d7:=q6.keep p7;have g7:=((cD q6).2 bc (k*8+7) hbw).trans f7;have R:=uU (hcp.step hlt ⟨by show w.heap.size+2<=bc;omega,by show bc<_;omega⟩ q6 hop);clear hop q6)
   all_goals
    go_wp2_with fail;go_roundw
    case rel=>exact⟨k+1,_,by omega,by go_num,R⟩
    case measure=>simp [intOf];omega
  ·have hk2:k=x.A.length:=by omega
   subst hk2
   have XR:Ext w wr:=hcp.on.ext X5 (λq hq e=>by
    have e1:q=qN (.slice avc x.A.length kvc):=e.1;have h1:=(CN (by have:=e.2;omega)).2;rw[hs3] at h1;omega)
   have hvc3:0<x.A.length->w3.heap.size<=qN (.slice avc x.A.length kvc)/\qN (.slice avc x.A.length kvc)<w4.heap.size:=λh=>by
    have h1:=(CN (by omega)).2;rw[hs3] at h1;exact⟨h1,(CN (by omega)).1.1⟩
   have WB:∀b,b<w3.heap.size->b≠w.heap.size->wr.heap[b]?=w3.heap[b]?:=λb hb hne=>by
    have e1:w4.heap[b]?=w3.heap[b]?:=(Q4.block b (by rw[hs3];exact hb)).trans (Below.heap_setCell _ _ _ _ hne);have e2:W5.heap[b]?=w4.heap[b]?:=by rw[uH HW5];exact Below.heap_setCell _ _ _ _ hne
    exact(hcp.on.block b (by omega) (λe=>by have e1:b=qN (.slice avc x.A.length kvc):=e.1;have:=(hvc3 e.2).1;omega)).trans (e2.trans e1)
   have RW:=uU (show Rws (w.heap.size+2) wr x _ _ _ _ _ from by
    have hb0:∀b,(Value.slice avr x.B.length kvr).ownBlock=some b->w.heap.size+2<=b/\b<w3.heap.size:=λb hb=>by have:=OR.lt b hb;simp at this;omega
    have hvb:qN (.slice avr x.B.length kvr)<w3.heap.size:=by
     unfold qN;cases e:(Value.slice avr x.B.length kvr).ownBlock with
     | none=>simp;omega
     | some b=>simp;exact(hb0 b e).2
    refine Rws.of (vr:=.slice avr x.B.length kvr) (bc:=qN (.slice avc x.A.length kvc)) (pv:=pv) (uN (a3v OR (by simp)) (λb hb=>WB b (hb0 b hb).2 (by have:=(hb0 b hb).1;omega))) hcp.s (λq hq=>by have:=hcp.p7 q hq;rw[if_pos hq] at this;exact this) (λh=>⟨hcp.nf h,by have:=(hvc3 h).1;omega⟩) (λh=>by have:=(hvc3 h).1;omega) (λq hq=>⟨a3v (hcp.pr q hq hq) (by omega),λb hb=>?_⟩) (λq q' hq hq' hne b hb=>hcp.dp q q' hq hq' hne b hb);have h1:=((hcp.pr q hq hq).lt b hb).1;have h2:=hvc3 (by omega);omega)
   have RG:=uU (a0k OR).2;have CP:=uU (show CapP x (λq=>yX (pv q)) from λq hq=>c8y (hcp.pr q hq hq))
   have rcell:∀o v,((w.alloc (.cells #[iv x.M,iv x.K,iv x.born,.slice ar x.B.length kr,.slice ac x.A.length kc,iv x.E,iv x.I,iv x.sub,(.slice ag ng kg),iv x.per,iv x.V,iv x.Q,iv x.S] 34)).alloc (.cells #[iv 0,iv 0,iv 0,.slice none 0 0,.slice none 0 0,iv 0,iv 0,iv 0,.slice none 0 0,iv 0,iv 0,iv 0,iv 0] 34)).cell? ⟨w.heap.size+1,o,none⟩=some v->wr.cell? ⟨w.heap.size+1,o,none⟩=some v:=λo v h=>
    (World.cell?_of_block (a:=⟨w.heap.size+1,o,none⟩) (WB (w.heap.size+1) (by omega) (by omega))).trans (rc o v h)
   have rfz:∀o,wr.frozen? ⟨w.heap.size+1,o,none⟩=false:=λo=>(World.frozen?_of_block (a:=⟨w.heap.size+1,o,none⟩) (WB (w.heap.size+1) (by omega) (by omega))).trans (RF o)
   have r0:=rcell 0 (iv 0) (by simp [go_sem]);have r1:=rcell 1 (iv 0) (by simp [go_sem]);have r2:=rcell 2 (iv 0) (by simp [go_sem]);have r3:=rcell 3 (.slice none 0 0) (by simp [go_sem]);have r4:=rcell 4 (.slice none 0 0) (by simp [go_sem]);have r5:=rcell 5 (iv 0) (by simp [go_sem]);have r6:=rcell 6 (iv 0) (by simp [go_sem]);have r7:=rcell 7 (iv 0) (by simp [go_sem]);have r8:=rcell 8 (.slice none 0 0) (by simp [go_sem]);have r9:=rcell 9 (iv 0) (by simp [go_sem]);have r10:=rcell 10 (iv 0) (by simp [go_sem]);have r11:=rcell 11 (iv 0) (by simp [go_sem]);have r12:=rcell 12 (iv 0) (by simp [go_sem]);have f0:=rfz 0;have f1:=rfz 1;have f2:=rfz 2;have f3:=rfz 3;have f4:=rfz 4;have f5:=rfz 5;have f6:=rfz 6;have f7:=rfz 7;have f8:=rfz 8;have f9:=rfz 9;have f10:=rfz 10;have f11:=rfz 11;have f12:=rfz 12;obtain⟨b0,b1,b2,b3,b4,b5,b6,b7,b8,b9,b10,b11,b12⟩:=hcp.bx;have hb0:w.heap.size<wr.heap.size:=uL b0;have hr0:w.heap.size+1<wr.heap.size:=uL r0;clear hcp rcell rfz WB hvc3;go_wp2_with fail;refine bodyPost_ret (v:=x.v (.slice avr x.B.length kvr) (.slice avc x.A.length kvc) (.slice ag ng kg)) (by simp [results,Tryz.results139,go_sem,r0,r1,r2,r3,r4,r5,r6,r7,r8,r9,r10,r11,r12]) rfl ⟨_,_,rfl,?_⟩;refine(λ(F:uZ (λq=>q=w.heap.size+1) wr _)=>⟨⟨_,_,_,_,_,_,_,_,_,rfl,λh=>(RG h).1,rfl,λh=>(CB (by omega)).1,(RW.only F (λh e=>by have:=(RW.nr h).2;omega) (λh e=>by have:=(RW.nc h).2;omega) (λq hq hl e=>by have:=(RW.pl q hq hl).2.2.2;omega)).less (by omega),CP⟩,F.ext XR (λq hq e=>by omega)⟩) ?_
   repeat (first | refine uZ.setCell ?_ (by simp) _ | exact uZ.refl _ _)
structure Rwn(B:Nat)(w:World)(x:Hp)(br:Nat)(cB cO:Nat->Nat)(pb:Nat->Nat)(pa:Nat->Option Addr)(pk:Nat->Nat):Prop where
 r:∀i (hi:i<x.B.length),yQ w br (i*3) x.B[i]
 s:∀q,q<x.A.length->S7 w (cB q) (cO q) (x.c q)
 p7:∀q,q<x.A.length->w.cell? ⟨cB q,cO q+7,none⟩=some (.slice (pa q) (x.c q).F.length (pk q))
 p:∀q,q<x.A.length->∀k,k<(x.c q).F.length->tQ w (pb q) (k*6) ((x.c q).p k)
 pl:∀q,q<x.A.length->0<pk q->pa q=some ⟨pb q,0,none⟩/\Nfp (pb q) (pk q) w/\(pb q≠br/\∀j,j<x.A.length->pb q≠cB j)/\B<=pb q
 nr:0<x.B.length->Nf1 br w/\B<=br
 nc:∀q,q<x.A.length->Nf1 (cB q) w/\B<=cB q
 d:∀q,q<x.A.length->br≠cB q
 dp:∀q q',q<x.A.length->q'<x.A.length->q≠q'->0<pk q->0<pk q'->pb q≠pb q'
 dc:∀q q',q<x.A.length->q'<x.A.length->q≠q'->cB q≠cB q'\/cO q+8<=cO q'\/cO q'+8<=cO q
 kp:CapP x pk
theorem Rwn.pw(h:Rwn B w x br cB cO pb pa pk)(hq:q<x.A.length)(hl:0<(x.c q).F.length):0<pk q:=Nat.lt_of_lt_of_le hl (h.kp q hq)
theorem Rwn.same(h:Rwn B w x br cB cO pb pa pk)(hs:w.heap.size<=w'.heap.size)
  (hr:0<x.B.length->w'.heap[br]?=w.heap[br]?) (hc:∀q,q<x.A.length->w'.heap[cB q]?=w.heap[cB q]?) (hp:∀q,q<x.A.length->0<pk q->w'.heap[pb q]?=w.heap[pb q]?):Rwn B w' x br cB cO pb pa pk where
 r:=λi hi=>(h.r i hi).of λj _=>World.cell?_of_block (a:=⟨br,_,none⟩) (hr (by omega))
 s:=λq hq=>(h.s q hq).of λj _=>World.cell?_of_block (a:=⟨cB q,_,none⟩) (hc q hq)
 p7:=λq hq=>(World.cell?_of_block (a:=⟨cB q,_,none⟩) (hc q hq)).trans (h.p7 q hq)
 p:=λq hq k hk=>(h.p q hq k hk).of λj _=>World.cell?_of_block (a:=⟨pb q,_,none⟩) (hp q hq (h.pw hq (by omega)))
 pl:=λq hq hl=>let ⟨a,b,c⟩:=h.pl q hq hl;⟨a,a0f b (hp q hq hl) hs,c⟩
 nr:=λhl=>⟨uV (h.nr hl).1 (hr hl) hs,(h.nr hl).2⟩
 nc:=λq hq=>⟨uV (h.nc q hq).1 (hc q hq) hs,(h.nc q hq).2⟩
 d:=h.d
 dp:=h.dp
 dc:=h.dc
 kp:=h.kp
theorem Rwn.ext(h:Rwn B w x br cB cO pb pa pk)(e:Ext w w'):Rwn B w' x br cB cO pb pa pk:=
 h.same e.size (λhl=>e.block _ (h.nr hl).1.1) (λq hq=>e.block _ (h.nc q hq).1.1) (λq hq hl=>e.block _ (h.pl q hq hl).2.1.1)
theorem Rwn.only(h:Rwn B w x br cB cO pb pa pk)(e:uZ S w w')(hr:0<x.B.length->¬S br)(hc:∀q,q<x.A.length->¬S (cB q))(hp:∀q,q<x.A.length->0<pk q->¬S (pb q)):Rwn B w' x br cB cO pb pa pk:=
 h.same e.size (λhl=>e.block _ (h.nr hl).1.1 (hr hl)) (λq hq=>e.block _ (h.nc q hq).1.1 (hc q hq)) (λq hq hl=>e.block _ (h.pl q hq hl).2.1.1 (hp q hq hl))
theorem Rwn.slW(h:Rwn B w x br cB cO pb pa pk){ad:Option Addr}(kr:Nat)(ha:0<x.B.length->ad=some ⟨br,0,none⟩)(hl:x.B.length<=1048576):SlW w (.slice ad x.B.length kr) x.B:=
 ⟨_,_,rfl,by omega,λi hi=>⟨br,0,ha (by omega),by rw[Nat.zero_add];exact h.r i hi⟩⟩
theorem Rwn.far8(h:Rwn B w x br cB cO pb pa pk)(hi:i<x.A.length)(hq:q<x.A.length)(e:q≠i)(hs:w.heap.size<=w1.heap.size)(o:uZ (λd=>d=cB i) w1 w2)(ho:∀k,(k<cO i\/cO i+8<=k)->w2.cell? ⟨cB i,k,none⟩=w1.cell? ⟨cB i,k,none⟩)(k:Nat)(hk:k<8):w2.cell? ⟨cB q,cO q+k,none⟩=w1.cell? ⟨cB q,cO q+k,none⟩:=by
 by_cases e2:cB q=cB i
 ·rw[e2];rcases h.dc q i hq hi e with d | d | d
  ·exact(d e2).elim
  ·exact ho _ (by omega)
  ·exact ho _ (by omega)
 ·exact World.cell?_of_block (a:=⟨cB q,_,none⟩) (o.block (cB q) (Nat.lt_of_lt_of_le (h.nc q hq).1.1 hs) e2)
theorem a6s(h:Nf1 (cB q) w1)(n:Nf1 (cB i) w2)(o:uZ (λd=>d=cB i) w1 w2):Nf1 (cB q) w2:=by
 by_cases e2:cB q=cB i
 ·rw[e2];exact n
 ·exact uV h (o.block (cB q) h.1 e2) o.size
theorem Rws.rwn(h:Rws B w x br bc pb pa pk):Rwn B w x br (λ_=>bc) (λq=>q*8) pb pa pk where
 r:=h.r
 s:=h.s
 p7:=h.p7
 p:=h.p
 pl:=λq hq hl=>let ⟨a,b,c,d⟩:=h.pl q hq hl;⟨a,b,⟨c.1,λ_ _=>c.2⟩,d⟩
 nr:=h.nr
 nc:=λq hq=>h.nc (by omega)
 d:=λq hq=>h.d (by omega)
 dp:=h.dp
 dc:=λq q' _ _ e=>.inr (by omega)
 kp:=h.kp
theorem a7p:Tryz.zeroCells132.size=4018/\Tryz.zeroCells132[4015]?=some (iv 0)/\Tryz.zeroCells132[4016]?=some (iv 0)/\Tryz.zeroCells132[4017]?=some (.slice none 0 0):=⟨by kernel_rfl,by kernel_rfl,by kernel_rfl,by kernel_rfl⟩
abbrev stZ(cs:Array Value)(v0 v1 v2 v3 v4 v5 v6 v7 v8 v9 v10 v11 v12 v13 v14:Value):Array Value:=(((((((((((((((cs.setIfInBounds 0 v0).setIfInBounds 1 v1).setIfInBounds 2 v2).setIfInBounds 3 v3).setIfInBounds 4 v4).setIfInBounds 5 v5).setIfInBounds 6 v6).setIfInBounds 7 v7).setIfInBounds 8 v8).setIfInBounds 9 v9).setIfInBounds 10 v10).setIfInBounds 11 v11).setIfInBounds 12 v12).setIfInBounds 13 v13).setIfInBounds 14 v14)
theorem stZ_at(cs:Array Value)(v0 v1 v2 v3 v4 v5 v6 v7 v8 v9 v10 v11 v12 v13 v14:Value)(s0:cs.size=4018)(s1:cs[4015]?=some (iv 0))(s2:cs[4016]?=some (iv 0))(s3:cs[4017]?=some (.slice none 0 0)):(stZ cs v0 v1 v2 v3 v4 v5 v6 v7 v8 v9 v10 v11 v12 v13 v14).size=4018/\
   ((stZ cs v0 v1 v2 v3 v4 v5 v6 v7 v8 v9 v10 v11 v12 v13 v14)[0]?=some v0/\(stZ cs v0 v1 v2 v3 v4 v5 v6 v7 v8 v9 v10 v11 v12 v13 v14)[1]?=some v1/\(stZ cs v0 v1 v2 v3 v4 v5 v6 v7 v8 v9 v10 v11 v12 v13 v14)[2]?=some v2/\(stZ cs v0 v1 v2 v3 v4 v5 v6 v7 v8 v9 v10 v11 v12 v13 v14)[3]?=some v3/\(stZ cs v0 v1 v2 v3 v4 v5 v6 v7 v8 v9 v10 v11 v12 v13 v14)[4]?=some v4/\(stZ cs v0 v1 v2 v3 v4 v5 v6 v7 v8 v9 v10 v11 v12 v13 v14)[5]?=some v5/\(stZ cs v0 v1 v2 v3 v4 v5 v6 v7 v8 v9 v10 v11 v12 v13 v14)[6]?=some v6/\(stZ cs v0 v1 v2 v3 v4 v5 v6 v7 v8 v9 v10 v11 v12 v13 v14)[7]?=some v7/\(stZ cs v0 v1 v2 v3 v4 v5 v6 v7 v8 v9 v10 v11 v12 v13 v14)[8]?=some v8/\(stZ cs v0 v1 v2 v3 v4 v5 v6 v7 v8 v9 v10 v11 v12 v13 v14)[9]?=some v9/\(stZ cs v0 v1 v2 v3 v4 v5 v6 v7 v8 v9 v10 v11 v12 v13 v14)[10]?=some v10/\(stZ cs v0 v1 v2 v3 v4 v5 v6 v7 v8 v9 v10 v11 v12 v13 v14)[11]?=some v11/\(stZ cs v0 v1 v2 v3 v4 v5 v6 v7 v8 v9 v10 v11 v12 v13 v14)[12]?=some v12/\(stZ cs v0 v1 v2 v3 v4 v5 v6 v7 v8 v9 v10 v11 v12 v13 v14)[13]?=some v13/\(stZ cs v0 v1 v2 v3 v4 v5 v6 v7 v8 v9 v10 v11 v12 v13 v14)[14]?=some v14)/\
   (stZ cs v0 v1 v2 v3 v4 v5 v6 v7 v8 v9 v10 v11 v12 v13 v14)[4015]?=some (iv 0)/\(stZ cs v0 v1 v2 v3 v4 v5 v6 v7 v8 v9 v10 v11 v12 v13 v14)[4016]?=some (iv 0)/\(stZ cs v0 v1 v2 v3 v4 v5 v6 v7 v8 v9 v10 v11 v12 v13 v14)[4017]?=some (.slice none 0 0):=by
 unfold stZ;exact⟨by simp [s0],by simp [s0],by simp [s1],by simp [s2],by simp [s3]⟩
abbrev ndp(bn i:Nat):Value:=.pointer (some ⟨bn,i*2,none⟩)
structure SSep(x:Hp)(role:Nat->Nat)(b br:Nat)(cB:Nat->Nat)(bn:Nat)(pb pk:Nat->Nat)(vf vk:Value):Prop where
 b:role b=0
 n:role bn=1
 r:0<x.B.length->role br=2
 c:∀q,q<x.A.length->role (cB q)=3
 f:∀q,vf.ownBlock=some q->role q=4
 k:∀q,vk.ownBlock=some q->role q=5
 p:∀q,q<x.A.length->0<pk q->role (pb q)=6+q
structure RAt(w:World)(b bn hd:Nat)(G:List Int):Prop where
 h0:hd<4000
 hl:G.length<=4000
 r0:w.cell? ⟨b,4015,none⟩=some (iv hd)
 r1:w.cell? ⟨b,4016,none⟩=some (iv G.length)
 rg:∀i (hi:i<G.length),w.cell? ⟨b,15+(hd+i) % 4000,none⟩=some (ndp bn G[i].toNat)
 ro:∀j,j<4000->∃v,w.cell? ⟨b,15+j,none⟩=some v
def NdB(w:World)(bn kn:Nat):Prop:=bn<w.heap.size/\∀j,j<kn*2->yN w bn j
theorem NdB.of(h:NdB w bn kn)(e:w'.heap[bn]?=w.heap[bn]?)(hs:w.heap.size<=w'.heap.size):NdB w' bn kn:=
 ⟨Nat.lt_of_lt_of_le h.1 hs,λj hj=>by
  obtain⟨⟨v,hv⟩,hf⟩:=h.2 j hj;exact⟨⟨v,(World.cell?_of_block (a:=⟨bn,j,none⟩) e).trans hv⟩,(World.frozen?_of_block (a:=⟨bn,j,none⟩) e).trans hf⟩⟩
structure SB(B:Nat)(w:World)(b:Nat)(x:Hp)(ar:Option Addr)(kr:Nat)(v4 v8:Value)(br:Nat)(cB cO:Nat->Nat)(bn:Nat)(kn hd:Nat)(vf:Value)(F:List Int)(vk:Value)(K:List Nat):Prop where
 bx:dE w b x (.slice ar x.B.length kr) v4 v8
 ha:0<x.B.length->ar=some ⟨br,0,none⟩
 n13:w.cell? ⟨b,13,none⟩=some (.slice (some ⟨bn,0,none⟩) x.A.length kn)
 nd:∀i,i<x.A.length->w.cell? ⟨bn,i*2,none⟩=some (iv i)/\w.cell? ⟨bn,i*2+1,none⟩=some (.pointer (some ⟨cB i,cO i,none⟩))
 fr:eK w B b 14 vf F
 rg:RAt w b bn hd x.D
 k0:w.cell? ⟨b,4017,none⟩=some vk
 kp:w.ownsRow B 126 1 vk K.length (K.map (ndp bn))
 nb:Nf1 b w
 lo:B<=b/\B<=bn/\NdB w bn kn
structure SAt[Inhabited uQ](B:Nat)(w:World)(b:Nat)(x:Hp)(ar:Option Addr)(kr:Nat)(v4 v8:Value)(br:Nat)(cB cO:Nat->Nat)(bn:Nat)(pb:Nat->Nat)(pa:Nat->Option Addr)(pk:Nat->Nat)(kn hd:Nat)(vf:Value)(F:List Int)(vk:Value)(K:List Nat)(role:Nat->Nat):Prop where
 sb:SB B w b x ar kr v4 v8 br cB cO bn kn hd vf F vk K
 rw:Rwn B w x br cB cO pb pa pk
 sp:SSep x role b br cB bn pb pk vf vk
 pr:Prt w role
theorem b3u(a:Nat):((a:Int).tmod 4000)=((a % 4000:Nat):Int):=by
 rw[Int.tmod_eq_emod_of_nonneg (by omega)];omega
theorem RAt.of(h:RAt w b bn hd G)(e:∀o,15<=o->o<4017->w'.cell? ⟨b,o,none⟩=w.cell? ⟨b,o,none⟩):RAt w' b bn hd G:=
 ⟨h.h0,h.hl,(e 4015 (by omega) (by omega)).trans h.r0,(e 4016 (by omega) (by omega)).trans h.r1,λi hi=>(e _ (by omega) (by have:(hd+i) % 4000<4000:=Nat.mod_lt _ (by omega);omega)).trans (h.rg i hi),λj hj=>let ⟨v,q⟩:=h.ro j hj;⟨v,(e _ (by omega) (by omega)).trans q⟩⟩
theorem RAt.block(h:RAt w b bn hd G)(e:w'.heap[b]?=w.heap[b]?):RAt w' b bn hd G:=h.of λo _ _=>World.cell?_of_block (a:=⟨b,o,none⟩) e
theorem RAt.put{m:Nat}(h:RAt w b bn hd G)(hl:G.length<4000)(hm:m=(hd+G.length) % 4000):
  RAt ((w.setCell ⟨b,15+m,none⟩ (ndp bn i)).setCell ⟨b,4016,none⟩ (iv (G.length+1))) b bn hd (G++[(i:Int)]):=by
 have hm4:m<4000:=by rw[hm];exact Nat.mod_lt _ (by omega)
 refine⟨h.h0,by simp;omega,?_,?_,λk hk=>?_,λj hj=>?_⟩
 ·rw[uC _ (.inr (by omega)),uC _ (.inr (by omega))];exact h.r0
 ·have:(w.setCell ⟨b,15+m,none⟩ (ndp bn i)).cell? ⟨b,4016,none⟩=some (iv G.length):=by rw[uC _ (.inr (by omega))];exact h.r1
  rw[World.cell?_setCell_same _ _ _ this];simp
 ·have hk2:(hd+k) % 4000<4000:=Nat.mod_lt _ (by omega);rw[uC _ (.inr (by omega))];by_cases e:k=G.length
  ·subst e;obtain⟨v,hv⟩:=h.ro m hm4;rw[<-hm,World.cell?_setCell_same _ _ _ hv];simp
  ·have hk3:k<G.length:=by simp at hk;omega
   rw[uC _ (.inr (by have:=h.h0;omega)),h.rg k hk3];simp [hk3]
 ·rw[uC _ (.inr (by omega))];obtain⟨v,hv⟩:=h.ro j hj;exact cell?_setCell_some hv
theorem a0y(w:World)(p:Addr):w.drew.cell? p=w.cell? p:=World.cell?_of_block (a:=p) rfl
theorem SB.same(h:SB B w b x ar kr v4 v8 br cB cO bn kn hd vf F vk K)(hs:w.heap.size<=w'.heap.size)(hb:w'.heap[b]?=w.heap[b]?)(hn:w'.heap[bn]?=w.heap[bn]?)(hf:∀q,vf.ownBlock=some q->w'.heap[q]?=w.heap[q]?)(hk:∀q,vk.ownBlock=some q->w'.heap[q]?=w.heap[q]?):SB B w' b x ar kr v4 v8 br cB cO bn kn hd vf F vk K where
 bx:=h.bx.block hb
 ha:=h.ha
 n13:=(World.cell?_of_block (a:=⟨b,13,none⟩) hb).trans h.n13
 nd:=λi hi=>⟨(World.cell?_of_block (a:=⟨bn,_,none⟩) hn).trans (h.nd i hi).1,(World.cell?_of_block (a:=⟨bn,_,none⟩) hn).trans (h.nd i hi).2⟩
 fr:=⟨(World.cell?_of_block (a:=⟨b,14,none⟩) hb).trans h.fr.hd,(World.frozen?_of_block (a:=⟨b,14,none⟩) hb).trans h.fr.hf,uN h.fr.own hf,h.fr.apart⟩
 rg:=h.rg.block hb
 k0:=(World.cell?_of_block (a:=⟨b,4017,none⟩) hb).trans h.k0
 kp:=uN h.kp hk
 nb:=uV h.nb hb hs
 lo:=⟨h.lo.1,h.lo.2.1,h.lo.2.2.of hn hs⟩
theorem SAt.ext[Inhabited uQ](h:SAt B w b x ar kr v4 v8 br cB cO bn pb pa pk kn hd vf F vk K role)(e:Ext w w'):SAt B w' b x ar kr v4 v8 br cB cO bn pb pa pk kn hd vf F vk K role:=
 ⟨h.sb.same e.size (e.block b h.sb.nb.1) (e.block bn h.sb.lo.2.2.1) (λq hq=>e.block q (h.sb.fr.own.lt q hq).2) (λq hq=>e.block q (h.sb.kp.lt q hq).2),h.rw.ext e,h.sp,h.pr.of (λq hq _=>e.block q hq) (λ_ _ h=>h)⟩
theorem SAt.push[Inhabited uQ]{W:World}{cap:Nat}(h:SAt B W b x ar kr v4 v8 br cB cO bn pb pa pk kn hd vf F vk K role)(hg:W.grownBy w5 vk.ownBlock)(h5:w5.ownsRow B 126 1 (.slice (some ⟨g,0,none⟩) (K.length+1) cap) (K.length+1) (K.map (ndp bn)++[ndp bn i]))(hat:vk.ownBlock=some g\/g=W.heap.size):
  SAt B (w5.setCell ⟨b,4017,none⟩ (.slice (some ⟨g,0,none⟩) (K.length+1) cap)) b x ar kr v4 v8 br cB cO bn pb pa pk kn hd vf F (.slice (some ⟨g,0,none⟩) (K.length+1) cap) (K++[i]) (λq=>if q=g then 5 else role q):=by
 have hgb:∀q,q<W.heap.size->role q≠5->q≠g:=λq hq hr e=>by
  rcases hat with a | a
  ·exact hr (by rw[e];exact h.sp.k g a)
  ·omega
 have far:∀q,q<W.heap.size->role q≠5->w5.heap[q]?=W.heap[q]?:=λq hq hr=>hg.block q hq (λe=>hr (h.sp.k q e.symm))
 have hb:=h.sb.nb.1;have rb:role b≠5:=by rw[h.sp.b];omega
 have fb:=far b hb rb;have nbg:=hgb b hb rb;have far2:∀q,q<W.heap.size->role q≠5->q≠b->(w5.setCell ⟨b,4017,none⟩ (.slice (some ⟨g,0,none⟩) (K.length+1) cap)).heap[q]?=W.heap[q]?:=λq hq hr hne=>(Below.heap_setCell _ _ _ _ hne).trans (far q hq hr)
 have cb:∀o,o≠4017->(w5.setCell ⟨b,4017,none⟩ (.slice (some ⟨g,0,none⟩) (K.length+1) cap)).cell? ⟨b,o,none⟩=W.cell? ⟨b,o,none⟩:=λo ho=>(uC _ (.inr (λe=>ho e.symm))).trans (World.cell?_of_block (a:=⟨b,o,none⟩) fb)
 have hsz:W.heap.size<=(w5.setCell ⟨b,4017,none⟩ (.slice (some ⟨g,0,none⟩) (K.length+1) cap)).heap.size:=by have:=hg.size;simpa [World.setCell] using this
 have rn:role bn≠5:=by rw[h.sp.n];omega
 have nnb:bn≠b:=λe=>by have h1:=h.sp.n;have h2:=h.sp.b;rw[e] at h1;omega
 have fn:=far2 bn h.sb.lo.2.2.1 rn nnb;have ff:∀q,vf.ownBlock=some q->(w5.setCell ⟨b,4017,none⟩ (.slice (some ⟨g,0,none⟩) (K.length+1) cap)).heap[q]?=W.heap[q]?:=λq hq=>far2 q (h.sb.fr.own.lt q hq).2 (by rw[h.sp.f q hq];omega) (λe=>by have h1:=h.sp.f q hq;have h2:=h.sp.b;rw[e] at h1;omega)
 refine⟨⟨h.sb.bx.of λo ho=>cb o (by omega),h.sb.ha,(cb 13 (by omega)).trans h.sb.n13,λk hk=>⟨(World.cell?_of_block (a:=⟨bn,_,none⟩) fn).trans (h.sb.nd k hk).1,(World.cell?_of_block (a:=⟨bn,_,none⟩) fn).trans (h.sb.nd k hk).2⟩,⟨(cb 14 (by omega)).trans h.sb.fr.hd,?_,uN h.sb.fr.own ff,h.sb.fr.apart⟩,h.sb.rg.of λo _ h2=>cb o (by omega),?_,?_,?_,⟨h.sb.lo.1,h.sb.lo.2.1,h.sb.lo.2.2.of fn hsz⟩⟩,?_,?_,h.pr.of (λq hq h1=>far2 q hq (by rw[h1];omega) (λe=>by have h2:=h.sp.b;rw[e] at h1;omega)) (λq hq h1=>by(try dsimp only);rw[if_neg (hgb q hq (by rw[h1];omega))];exact h1)⟩
 ·rw[World.frozen?_setCell];exact(World.frozen?_of_block (a:=⟨b,14,none⟩) fb).trans h.sb.fr.hf
 ·exact World.cell?_setCell_same _ _ _ ((World.cell?_of_block (a:=⟨b,4017,none⟩) fb).trans h.sb.k0)
 ·have:=uN (w':=w5.setCell ⟨b,4017,none⟩ (.slice (some ⟨g,0,none⟩) (K.length+1) cap)) h5 (λq hq=>Below.heap_setCell _ _ _ _ (λe=>nbg (by simp [Value.ownBlock] at hq;rw[hq];exact e.symm)))
  simpa using this
 ·refine⟨Nat.lt_of_lt_of_le hb hsz,λj=>?_⟩;rw[World.frozen?_setCell];exact(World.frozen?_of_block (a:=⟨b,j,none⟩) fb).trans (h.sb.nb.2 j)
 ·exact h.rw.same hsz (λhl=>far2 br (h.rw.nr hl).1.1 (by rw[h.sp.r hl];omega) (λe=>by have h1:=h.sp.r hl;have h2:=h.sp.b;rw[e] at h1;omega)) (λq hq=>far2 (cB q) (h.rw.nc q hq).1.1 (by rw[h.sp.c q hq];omega) (λe=>by have h1:=h.sp.c q hq;have h2:=h.sp.b;rw[e] at h1;omega)) (λq hq hl=>far2 (pb q) (h.rw.pl q hq hl).2.1.1 (by rw[h.sp.p q hq hl];omega) (λe=>by have h1:=h.sp.p q hq hl;have h2:=h.sp.b;rw[e] at h1;omega))
 ·refine⟨?_,?_,λhl=>?_,λq hq=>?_,λq hq=>?_,λq hq=>?_,λq hq hl=>?_⟩
  ·rw[if_neg nbg];exact h.sp.b
  ·rw[if_neg (hgb bn h.sb.lo.2.2.1 rn)];exact h.sp.n
  ·rw[if_neg (hgb br (h.rw.nr hl).1.1 (by rw[h.sp.r hl];omega))];exact h.sp.r hl
  ·rw[if_neg (hgb (cB q) (h.rw.nc q hq).1.1 (by rw[h.sp.c q hq];omega))];exact h.sp.c q hq
  ·rw[if_neg (hgb q (h.sb.fr.own.lt q hq).2 (by rw[h.sp.f q hq];omega))];exact h.sp.f q hq
  ·simp [Value.ownBlock] at hq;rw[if_pos hq.symm]
  ·rw[if_neg (hgb (pb q) (h.rw.pl q hq hl).2.1.1 (by rw[h.sp.p q hq hl];omega))];exact h.sp.p q hq hl
def a1j(x:Hp)(i:Nat):Bool:=x.E == 4 || (x.E == 3 && decide ((i:Int)<x.I))
theorem c5g(x:Hp)(b bn i:Nat)(w:World)(c5:w.cell? ⟨b,5,none⟩=some (iv x.E))(c6:w.cell? ⟨b,6,none⟩=some (iv x.I))(m0:w.cell? ⟨bn,i*2,none⟩=some (iv i)):
  Calls Tryz.prog 142 #[.pointer (some ⟨b,0,none⟩),ndp bn i] w λe w'=>e=.returned (.bool (a1j x i))/\Ext w w':=by
 cases q4:(x.E == 4)
 ·cases q3:(x.E == 3)
  ·have E:=uU (show a1j x i=false by simp [a1j,q4,q3]);go_enter Tryz.func142,Tryz.ntmps142;go_wp2_with fail;go_quiet (fail);go_wp2_with fail;go_ret;exact⟨by rw[uH E];rfl,Ext.drewN (Ext.refl _) _⟩
  ·have E:=uU (show a1j x i=decide ((i:Int)<x.I) by simp [a1j,q4,q3]);go_enter Tryz.func142,Tryz.ntmps142;go_wp2_with fail;go_quiet (fail);go_wp2_with fail;go_ret;exact⟨by rw[uH E];rfl,Ext.drewN (Ext.refl _) _⟩
 ·have E:=uU (show a1j x i=true by simp [a1j,q4]);go_enter Tryz.func142,Tryz.ntmps142;go_wp2_with fail;go_quiet (fail);go_wp2_with fail;go_ret;exact⟨by rw[uH E];rfl,Ext.drewN (Ext.refl _) _⟩
theorem b9i(b bn hd i:Nat)(G:List Int)(w:World)(h:RAt w b bn hd G)(hn:Nf1 b w)(hl:G.length<4000):
  Calls Tryz.prog 141 #[.pointer (some ⟨b,15,none⟩),ndp bn i] w λe w'=>e=.returned (.tuple #[])/\RAt w' b bn hd (G++[(i:Int)])/\uZ (λq=>q=b) w w'/\Nf1 b w'/\∀o,(o<15\/o=4015\/o=4017)->w'.cell? ⟨b,o,none⟩=w.cell? ⟨b,o,none⟩:=by
 have r0:=h.r0;have r1:=h.r1;have h0:=h.h0;obtain⟨u,ru⟩:=h.ro ((hd+G.length) % 4000) (Nat.mod_lt _ (by omega));have f0:=hn.2 (15+(hd+G.length) % 4000);have f1:=hn.2 4016;obtain⟨m,hm⟩:∃m,m=(hd+G.length) % 4000:=⟨_,rfl⟩;rw[<-hm] at ru f0;have hm4:m<4000:=by rw[hm];exact Nat.mod_lt _ (by omega)
 have hr:((hd:Int)+(G.length:Int)).tmod 4000=(m:Int):=by have:=b3u (hd+G.length);rw[<-hm] at this;simpa using this
 have m0:(0:Int)<=(m:Int):=by omega
 have m1:(m:Int)<4000:=by omega
 have HM:=uU hm;have H:=uU h;clear h hm;go_enter Tryz.func141,Tryz.ntmps141;go_wp2_with fail
 go_region
 all_goals
  go_wp2_with fail
  go_end0
  refine⟨rfl,(H.put hl HM).block rfl,(uZ.setCell (S:=λq=>q=b) (uZ.setCell (S:=λq=>q=b) (uZ.refl _ w) (p:=⟨b,15+m,none⟩) rfl _) (p:=⟨b,4016,none⟩) rfl _).drew,⟨by have:=hn.1;simpa [World.setCell] using this,λj=>by rw[show ∀(W:World) (p:Addr),W.drew.frozen? p=W.frozen? p from λW p=>World.frozen?_of_block (a:=p) rfl,World.frozen?_setCell,World.frozen?_setCell];exact hn.2 j⟩,λo ho=>?_⟩;rw[a0y,uC _ (.inr (by omega)),uC _ (.inr (by omega))]
theorem SAt.ring[Inhabited uQ]{hd':Nat}(h:SAt B w b x ar kr v4 v8 br cB cO bn pb pa pk kn hd vf F vk K role)(r:RAt w' b bn hd' G)(o:uZ (λq=>q=b) w w')(n:Nf1 b w')(c:∀k,(k<15\/k=4017)->w'.cell? ⟨b,k,none⟩=w.cell? ⟨b,k,none⟩):
  SAt B w' b { x with D:=G } ar kr v4 v8 br cB cO bn pb pa pk kn hd' vf F vk K role:=by
 have far:∀q,q<w.heap.size->role q≠0->w'.heap[q]?=w.heap[q]?:=λq hq hr=>o.block q hq (λe=>hr (by rw[e];exact h.sp.b))
 have fn:=far bn h.sb.lo.2.2.1 (by rw[h.sp.n];omega);refine⟨⟨h.sb.bx.of λk hk=>c k (by omega),h.sb.ha,(c 13 (by omega)).trans h.sb.n13,λk hk=>⟨(World.cell?_of_block (a:=⟨bn,_,none⟩) fn).trans (h.sb.nd k hk).1,(World.cell?_of_block (a:=⟨bn,_,none⟩) fn).trans (h.sb.nd k hk).2⟩,⟨(c 14 (by omega)).trans h.sb.fr.hd,n.2 14,uN h.sb.fr.own (λq hq=>far q (h.sb.fr.own.lt q hq).2 (by rw[h.sp.f q hq];omega)),h.sb.fr.apart⟩,r,(c 4017 (by omega)).trans h.sb.k0,uN h.sb.kp (λq hq=>far q (h.sb.kp.lt q hq).2 (by rw[h.sp.k q hq];omega)),n,⟨h.sb.lo.1,h.sb.lo.2.1,h.sb.lo.2.2.of fn o.size⟩⟩,?_,⟨h.sp.b,h.sp.n,h.sp.r,h.sp.c,h.sp.f,h.sp.k,h.sp.p⟩,h.pr.of (λq hq h1=>far q hq (by rw[h1];omega)) (λ_ _ h=>h)⟩;have:=h.rw.same o.size (λhl=>far br (h.rw.nr hl).1.1 (by rw[h.sp.r hl];omega)) (λq hq=>far (cB q) (h.rw.nc q hq).1.1 (by rw[h.sp.c q hq];omega)) (λq hq hl=>far (pb q) (h.rw.pl q hq hl).2.1.1 (by rw[h.sp.p q hq hl];omega));exact⟨this.r,this.s,this.p7,this.p,this.pl,this.nr,this.nc,this.d,this.dp,this.dc,this.kp⟩
theorem SAt.V[Inhabited uQ]{bx b2:Nat}{Z:Array Value}{T:TypeId}(hz:∀q,(default:uQ).z q=none)
  (ho:Opn w1 w2 x bx b2 bn x.A.length x.A.length ar kr ac kc ag kg vf F) (hrw:Rws B w1 x br bc pb pa pk) (hB:B<=w1.heap.size) (har:0<x.B.length->ar=some ⟨br,0,none⟩) (hac:0<x.A.length->ac=some ⟨bc,0,none⟩) (hr:0<x.B.length)
  (hZ:Z.size=4018/\(Z[0]?=some (iv x.M)/\Z[1]?=some (iv x.K)/\Z[2]?=some (iv x.born)/\Z[3]?=some (.slice ar x.B.length kr)/\Z[4]?=some (.slice ac x.A.length kc)/\Z[5]?=some (iv x.E)/\Z[6]?=some (iv x.I)/\Z[7]?=some (iv x.sub)/\Z[8]?=some (.slice ag x.D.length kg)/\Z[9]?=some (iv x.per)/\Z[10]?=some (iv x.V)/\Z[11]?=some (iv x.Q)/\Z[12]?=some (iv x.S)/\Z[13]?=some (.slice (some ⟨bn,0,none⟩) x.A.length x.A.length)/\Z[14]?=some vf)/\Z[4015]?=some (iv 0)/\Z[4016]?=some (iv 0)/\Z[4017]?=some (.slice none 0 0)) :
  ∃role,SAt B (w2.alloc (.cells Z T)) w2.heap.size { x with D:=[] } ar kr (.slice ac x.A.length kc) (.slice ag x.D.length kg) br (λ_=>bc) (λq=>q*8) bn pb pa pk x.A.length 0 vf F (.slice none 0 0) [] role:=by
 obtain⟨hZs,⟨z0,z1,z2,z3,z4,z5,z6,z7,z8,z9,z10,z11,z12,z13,z14⟩,y0,y1,y2⟩:=hZ;obtain⟨hb1,hb2,hb3,hb4⟩:=ho.hb;have xe:Ext w1 (w2.alloc (.cells Z T)):=ho.e.alloc _;have x2:Ext w2 (w2.alloc (.cells Z T)):=(Ext.refl w2).alloc _;have hnew:(w2.alloc (.cells Z T)).heap[w2.heap.size]?=some (.cells Z T):=heap_alloc_new w2 _;have cz:∀o,(w2.alloc (.cells Z T)).cell? ⟨w2.heap.size,o,none⟩=Z[o]?:=λo=>cell_of_row _ w2.heap.size o _ _ (0,0) hnew
 have nz:Nf1 w2.heap.size (w2.alloc (.cells Z T)):=⟨by simp,λj=>by simp [go_sem]⟩;have lr:=(hrw.nr hr).1.1;have lsz:=ho.e.size;have lp:∀q,q<x.A.length->0<pk q->pb q<w1.heap.size:=λq hq hl=>(hrw.pl q hq hl).2.1.1
 have lf:∀q,vf.ownBlock=some q->bn+1<=q/\q<w2.heap.size:=λq hq=>ho.f.own.lt q hq
 refine⟨λq=>if q=w2.heap.size then 0 else if q=bn then 1 else if q=br then 2 else if 0<x.A.length/\q=bc then 3 else
  (open Classical in if h:∃i,i<x.A.length/\0<pk i/\pb i=q then 6+Classical.choose h else 4),⟨⟨(cz 0).trans z0,(cz 1).trans z1,(cz 2).trans z2,(cz 3).trans z3,(cz 4).trans z4,(cz 5).trans z5,(cz 6).trans z6,(cz 7).trans z7,(cz 8).trans z8,(cz 9).trans z9,(cz 10).trans z10,(cz 11).trans z11,(cz 12).trans z12⟩,har,(cz 13).trans z13,λi hi=>?_,⟨(cz 14).trans z14,nz.2 14,a3v (ho.f.own.alloc _) (by omega),λe=>by have:=(lf _ e).2;omega⟩,⟨by omega,by simp,(cz 4015).trans y0,(cz 4016).trans y1,λi hi=>by simp at hi,λj hj=>⟨Z[15+j]'(by omega),(cz _).trans (by simp)⟩⟩,(cz 4017).trans y2,World.ownsRow_nil _ _ _ _,nz,⟨by omega,by omega,by simp;omega,λj hj=>(ho.o j hj).ext x2⟩⟩,?_,?_,λq o h=>by rw[hz q] at h;cases h⟩
 ·obtain⟨bc',oc,e,p,q⟩:=ho.n i hi;have e2:=(hac (Nat.lt_of_le_of_lt (Nat.zero_le _) hi)).symm.trans e;simp only [Option.some.injEq,Addr.mk.injEq] at e2;obtain⟨rfl,rfl,_⟩:=e2;rw[Nat.zero_add] at q;exact⟨x2.keep p,x2.keep q⟩
 ·have:=(hrw.ext xe).rwn;exact⟨this.r,this.s,this.p7,this.p,this.pl,this.nr,this.nc,this.d,this.dp,this.dc,this.kp⟩
 ·refine⟨if_pos rfl,?_,λ_=>?_,λq hq=>?_,λq hq=>?_,λq hq=>by simp [Value.ownBlock] at hq,λq hq hl=>?_⟩
  ·rw[if_neg (by omega),if_pos rfl]
  ·rw[if_neg (by omega),if_neg (by omega),if_pos rfl]
  ·have hl:0<x.A.length:=by have:q<x.A.length:=hq;omega
   have l1:=(hrw.nc hl).1.1;have l2:=hrw.d hl;rw[if_neg (by omega),if_neg (by omega),if_neg (λe=>l2 e.symm),if_pos ⟨hl,rfl⟩]
  ·have l1:=lf q hq;rw[if_neg (by omega),if_neg (by omega),if_neg (by omega),if_neg (λe=>by have:=(hrw.nc e.1).1.1;omega),dif_neg (λ⟨i,h1,h2,h3⟩=>by have:=lp i h1 h2;omega)]
  ·have l1:=lp q hq hl;have l2:=(hrw.pl q hq hl).2.2.1;have hex:∃i,i<x.A.length/\0<pk i/\pb i=pb q:=⟨q,hq,hl,rfl⟩;rw[if_neg (by omega),if_neg (by omega),if_neg l2.1,if_neg (λe=>l2.2 e.2),dif_pos hex];have sp:=Classical.choose_spec hex
   have:Classical.choose hex=q:=by
    rcases Nat.decEq (Classical.choose hex) q with h | h
    ·exact absurd sp.2.2 (hrw.dp _ q sp.1 hq h sp.2.1 hl)
    ·exact h
   rw[this]
theorem SAt.setc[Inhabited uQ]{c':Cl}
  (h:SAt B w b x ar kr v4 v8 br cB cO bn pb pa pk kn hd vf F vk K role) (hi:i<x.A.length) (hp:c'.F=(x.c i).F) (o:uZ (λq=>q=cB i) w w') (hs:S7 w' (cB i) (cO i) c') (ho:∀k,(k<cO i\/cO i+7<=k)->w'.cell? ⟨cB i,k,none⟩=w.cell? ⟨cB i,k,none⟩) (nf:Nf1 (cB i) w') :
  SAt B w' b { x with A:=x.A.set i c' } ar kr v4 v8 br cB cO bn pb pa pk kn hd vf F vk K role:=by
 have far:∀q,q<w.heap.size->role q≠3->w'.heap[q]?=w.heap[q]?:=λq hq hr=>o.block q hq (λe=>hr (by rw[e];exact h.sp.c i hi))
 have hl:({ x with A:=x.A.set i c' }:Hp).A.length=x.A.length:=by simp
 have hc:=Hp.c_set x i c' hi
 have hpr:∀q,(({ x with A:=x.A.set i c' }:Hp).c q).F=(x.c q).F:=λq=>by
  rw[hc q];by_cases e:q=i
  ·rw[if_pos e,hp,e]
  ·rw[if_neg e]
 have sb:=h.sb.same o.size (far b h.sb.nb.1 (by rw[h.sp.b];omega)) (far bn h.sb.lo.2.2.1 (by rw[h.sp.n];omega)) (λq hq=>far q (h.sb.fr.own.lt q hq).2 (by rw[h.sp.f q hq];omega)) (λq hq=>far q (h.sb.kp.lt q hq).2 (by rw[h.sp.k q hq];omega));have pf:∀q,q<x.A.length->0<pk q->w'.heap[pb q]?=w.heap[pb q]?:=λq hq hl=>far (pb q) (h.rw.pl q hq hl).2.1.1 (by rw[h.sp.p q hq hl];omega)
 have cf:∀q,q<x.A.length->cB q≠cB i->w'.heap[cB q]?=w.heap[cB q]?:=λq hq e=>o.block (cB q) (h.rw.nc q hq).1.1 e
 have ck:∀q,q<x.A.length->q≠i->∀k,k<8->w'.cell? ⟨cB q,cO q+k,none⟩=w.cell? ⟨cB q,cO q+k,none⟩:=λq hq e k hk=>by
  by_cases e2:cB q=cB i
  ·rw[e2];rcases h.rw.dc q i hq hi e with d | d | d
   ·exact(d e2).elim
   ·exact ho _ (by omega)
   ·exact ho _ (by omega)
  ·exact World.cell?_of_block (a:=⟨cB q,_,none⟩) (cf q hq e2)
 have cn:∀q,q<x.A.length->Nf1 (cB q) w':=λq hq=>by
  by_cases e2:cB q=cB i
  ·rw[e2];exact nf
  ·exact uV (h.rw.nc q hq).1 (cf q hq e2) o.size
 refine⟨⟨sb.bx,sb.ha,by rw[hl];exact sb.n13,λk hk=>sb.nd k (by rw[hl] at hk;exact hk),sb.fr,sb.rg,sb.k0,sb.kp,sb.nb,sb.lo⟩,⟨λk hk=>?_,λq hq=>?_,λq hq=>?_,λq hq k hk=>?_,λq hq hlq=>?_,λhr=>⟨uV (h.rw.nr hr).1 (far br (h.rw.nr hr).1.1 (by rw[h.sp.r hr];omega)) o.size,(h.rw.nr hr).2⟩,λq hq=>⟨cn q (by rw[hl] at hq;exact hq),(h.rw.nc q (by rw[hl] at hq;exact hq)).2⟩,λq hq=>h.rw.d q (by rw[hl] at hq;exact hq),λq q' hq hq' hne h1 h2=>?_,λq q' hq hq' hne=>h.rw.dc q q' (by rw[hl] at hq;exact hq) (by rw[hl] at hq';exact hq') hne,λq hq=>?_⟩,⟨h.sp.b,h.sp.n,h.sp.r,λq hq=>h.sp.c q (by rw[hl] at hq;exact hq),h.sp.f,h.sp.k,λq hq hlq=>?_⟩,h.pr.of (λq hq h1=>far q hq (by rw[h1];omega)) (λ_ _ h=>h)⟩
 ·exact(h.rw.r k hk).of λj _=>World.cell?_of_block (a:=⟨br,_,none⟩) (far br (h.rw.nr (by have:k<x.B.length:=hk;omega)).1.1 (by rw[h.sp.r (by have:k<x.B.length:=hk;omega)];omega))
 ·rw[hl] at hq;rw[hc q];by_cases e:q=i
  ·subst e;rw[if_pos rfl];exact hs
  ·rw[if_neg e];exact(h.rw.s q hq).of λj hj=>ck q hq e j (by omega)
 ·rw[hl] at hq;rw[hpr q];by_cases e:q=i
  ·subst e;rw[ho _ (by omega)];exact h.rw.p7 q hq
  ·rw[ck q hq e 7 (by omega)];exact h.rw.p7 q hq
 ·rw[hl] at hq;have e2:(({ x with A:=x.A.set i c' }:Hp).c q).p k=(x.c q).p k:=by simp only [Cl.p,hpr q]
  rw[hpr q] at hk;rw[e2];exact(h.rw.p q hq k hk).of λj _=>World.cell?_of_block (a:=⟨pb q,_,none⟩) (pf q hq (h.rw.pw hq (by omega)))
 ·rw[hl] at hq;obtain⟨a1,a2,a3,a4⟩:=h.rw.pl q hq hlq;exact⟨a1,a0f a2 (pf q hq hlq) o.size,⟨a3.1,λj hj=>a3.2 j (by rw[hl] at hj;exact hj)⟩,a4⟩
 ·rw[hl] at hq hq';exact h.rw.dp q q' hq hq' hne h1 h2
 ·rw[hl] at hq;rw[hpr q];exact h.rw.kp q hq
 ·rw[hl] at hq;exact h.sp.p q hq hlq
theorem b6x(x:Hp)(b:Nat)(w:World)(c5:w.cell? ⟨b,5,none⟩=some (iv x.E)):
  Calls Tryz.prog 145 #[.pointer (some ⟨b,0,none⟩)] w λe w'=>e=.returned (.bool (mkB x))/\w'=w:=by
 cases q:(x.E == 1)
 ·have E:=uU (show mkB x=(x.E == 2) by simp [mkB,q]);go_enter Tryz.func145,Tryz.ntmps145;go_wp2_with fail;go_ret;exact⟨by rw[uH E];rfl,rfl⟩
 ·have E:=uU (show mkB x=true by simp [mkB,q]);go_enter Tryz.func145,Tryz.ntmps145;go_wp2_with fail;go_ret;exact⟨by rw[uH E];rfl,rfl⟩
theorem a5o(c:Cl)(bn i cb co:Nat)(w:World)(m1:w.cell? ⟨bn,i*2+1,none⟩=some (.pointer (some ⟨cb,co,none⟩)))(s:S7 w cb co c):
  Calls Tryz.prog 146 #[ndp bn i] w λe w'=>e=.returned (.bool (whB c))/\w'=w:=by
 have s0:=s.1;have s5:=s.2.2.2.2.2.1;clear s;cases q:(c.st == 1)
 ·have E:=uU (show whB c=false by simp [whB,q]);go_enter Tryz.func146,Tryz.ntmps146;go_wp2_with fail;go_ret;exact⟨by rw[uH E];rfl,rfl⟩
 ·have E:=uU (show whB c=(c.J == 0) by simp [whB,q]);go_enter Tryz.func146,Tryz.ntmps146;go_wp2_with fail;go_ret;exact⟨by rw[uH E];rfl,rfl⟩
theorem b5n[Inhabited uQ](i:Nat)(w:World)
  (h:SAt B w b x ar kr v4 v8 br cB cO bn pb pa pk kn hd vf F vk K role) (hi:i<x.A.length) (hg:eJ x i=true->x.D.length<4000) (a:World) (ha:a.heap.size<=B) (hx:Ext a w) :
  Calls Tryz.prog 82 #[.pointer (some ⟨b,0,none⟩),ndp bn i] w λe w'=>e=.returned (.tuple #[])/\Hid (SAt B w' b (uW x i) ar kr v4 v8 br cB cO bn pb pa pk kn hd vf F vk K role)/\Ext a w'/\Hid (∀q,q<w.heap.size->q≠b->q≠cB i->w'.heap[q]?=w.heap[q]?):=by
 have H:=uU h;have c5:=h.sb.bx.2.2.2.2.2.1;obtain⟨m0,m1⟩:=h.sb.nd i hi;have S:=uU (h.rw.s i hi);clear h;go_enter Tryz.func82,Tryz.ntmps82;go_wp2_with fail;refine(b6x x b _ c5).mono ?_;rintro e w1 ⟨rfl,rfl⟩;cases q1:mkB x
 ·have E:=uU (show uW x i=x by unfold uW;rw[if_neg (by simp [eJ,q1])]);go_wp2_with fail
  try simp only [Exit.inBlock,Exit.then]
  refine bodyPost_ret (results_none rfl _ _ _) rfl ?_;exact⟨rfl,by rw[uH E];exact uH H,hx,λ_ _ _ _=>rfl⟩
 ·go_wp2_with fail;refine(a5o (x.c i) bn i (cB i) (cO i) _ m1 S).mono ?_;rintro e w2 ⟨rfl,rfl⟩;cases q2:whB (x.c i)
  ·have E:=uU (show uW x i=x by unfold uW;rw[if_neg (by simp [eJ,q2])]);go_wp2_with fail
   try simp only [Exit.inBlock,Exit.then]
   refine bodyPost_ret (results_none rfl _ _ _) rfl ?_;exact⟨rfl,by rw[uH E];exact uH H,hx,λ_ _ _ _=>rfl⟩
  ·have hb:eJ x i=true:=by simp [eJ,q1,q2]
   have E:=uU (show uW x i={ x with A:=x.A.set i (tY (x.c i)),D:=x.D++[(i:Int)] } by unfold uW;rw[if_pos hb]);have hl4:=hg hb;have s5:=S.2.2.2.2.2.1;have f5:=(H.rw.nc i hi).1.2 (cO i+5)
   have C:=uU (show SAt B (w2.setCell ⟨cB i,cO i+5,none⟩ (iv 1)) b { x with A:=x.A.set i (tY (x.c i)) } ar kr v4 v8 br cB cO bn pb pa pk kn hd vf F vk K role from
    H.setc hi rfl (uZ.setCell (S:=λq=>q=cB i) (uZ.refl _ w2) (p:=⟨cB i,cO i+5,none⟩) rfl _) (by
     obtain⟨a0,a1,a2,a3,a4,a5,a6⟩:=S;refine⟨?_,?_,?_,?_,?_,World.cell?_setCell_same _ _ _ a5,?_⟩
     ·rw[uC _ (.inr (by omega))];exact a0
     ·rw[uC _ (.inr (by omega))];exact a1
     ·rw[uC _ (.inr (by omega))];exact a2
     ·rw[uC _ (.inr (by omega))];exact a3
     ·rw[uC _ (.inr (by omega))];exact a4
     ·rw[uC _ (.inr (by omega))];exact a6) (λk hk=>uC _ (.inr (by omega))) ((H.rw.nc i hi).1.set _ _))
   have X2:=uU (hx.setCell (p:=⟨cB i,cO i+5,none⟩) (show a.heap.size<=cB i from Nat.le_trans ha (H.rw.nc i hi).2) (iv 1));have LB:=uU (Nat.le_trans ha H.sb.lo.1);clear hb hg;go_wp2_with fail;refine(b9i b bn hd i x.D _ C.sb.rg C.sb.nb hl4).mono ?_;rintro e w3 ⟨rfl,hr3,ho3,hn3,hc3⟩;have R:=uU (C.ring hr3 ho3 hn3 (λo ho=>hc3 o (by omega)));have FR:=uU (show ∀q,q<w2.heap.size->q≠b->q≠cB i->w3.heap[q]?=w2.heap[q]? from λq hq h1 h2=>(ho3.block q (by simpa [World.setCell] using hq) h1).trans (Below.heap_setCell _ _ _ _ h2));have XX:=uU (ho3.ext X2 (λq hq e=>by have:=uH LB;omega));clear hr3 ho3 hn3 hc3;go_wp2_with fail
   go_end0
   exact⟨rfl,by rw[uH E];exact uH R,XX,FR⟩
def zK(p:Int)(b:Nat):Value:=if p=1 then .iface 233 (.agg #[.pointer (some ⟨b,0,none⟩)]) else if p=2 then .iface 234 (.agg #[.pointer (some ⟨b,0,none⟩)]) else if p=3 then .iface 235 (.agg #[.pointer (some ⟨b,0,none⟩)]) else if p=4 then .iface 236 (.agg #[.pointer (some ⟨b,0,none⟩)]) else if p=5 then .iface 237 (.agg #[.pointer (some ⟨b,0,none⟩)]) else if p=6 then .iface 238 (.agg #[.pointer (some ⟨b,0,none⟩)]) else .nilIface
theorem b1u(p:Int)(b:Nat)(w:World)(c5:w.cell? ⟨b,5,none⟩=some (iv p))(hp:0<=p/\p<=6):
  Calls Tryz.prog 213 #[.pointer (some ⟨b,0,none⟩)] w λe w'=>e=.returned (zK p b)/\w'=w:=by
 have h:p=0\/p=1\/p=2\/p=3\/p=4\/p=5\/p=6:=by omega
 clear hp;rcases h with rfl | rfl | rfl | rfl | rfl | rfl | rfl
 all_goals
  go_enter Tryz.func213,Tryz.ntmps213;go_wp2_with fail;go_ret;exact⟨rfl,rfl⟩
theorem a6t(hd:Int)(b n kn:Nat)(an:Option Addr)(w:World)(c6:w.cell? ⟨b,6,none⟩=some (iv hd))(c13:w.cell? ⟨b,13,none⟩=some (.slice an n kn))(h:(hd == (n:Int))=true):
  Calls Tryz.prog 236 #[.pointer (some ⟨b,0,none⟩)] w λe w'=>e=.returned (.pointer none)/\Ext w w':=by
 go_enter Tryz.func236,Tryz.ntmps236;go_wp2_with fail;go_quiet (fail);go_wp2_with fail;go_ret;exact⟨rfl,(Ext.refl _).drewN _⟩
theorem a1q(b n kn bn i:Nat)(w:World)(c6:w.cell? ⟨b,6,none⟩=some (iv i))(c13:w.cell? ⟨b,13,none⟩=some (.slice (some ⟨bn,0,none⟩) n kn))(hi:i<n):
  Calls Tryz.prog 236 #[.pointer (some ⟨b,0,none⟩)] w λe w'=>e=.returned (ndp bn i)/\Ext w w':=by
 have h:((i:Int) == (n:Int))=false:=by simp;omega
 have i0:(0:Int)<=(i:Int):=by omega
 have i1:(i:Int)<(n:Int):=by omega
 go_enter Tryz.func236,Tryz.ntmps236;go_wp2_with fail;go_quiet (fail);obtain⟨m1,rfl⟩:∃m,m=nq:=⟨_,rfl⟩;go_wp2_with fail;go_quiet (fail);go_wp2_with fail;go_ret;exact⟨rfl,((Ext.refl _).drewN _).drewN _⟩
theorem SAt.boxed[Inhabited uQ]{x':Hp}(h:SAt B w b x ar kr v4 v8 br cB cO bn pb pa pk kn hd vf F vk K role)(o:uZ (λq=>q=b) w w')(nf:Nf1 b w')(hr:x'.B=x.B)(hc:x'.A=x.A)(hg:x'.D=x.D)(bx:dE w' b x' (.slice ar x.B.length kr) v4 v8)(c:∀k,13<=k->w'.cell? ⟨b,k,none⟩=w.cell? ⟨b,k,none⟩):
  SAt B w' b x' ar kr v4 v8 br cB cO bn pb pa pk kn hd vf F vk K role:=by
 have far:∀q,q<w.heap.size->role q≠0->w'.heap[q]?=w.heap[q]?:=λq hq hn=>o.block q hq (λe=>hn (by rw[e];exact h.sp.b))
 have fn:=far bn h.sb.lo.2.2.1 (by rw[h.sp.n];omega);have cc:∀q,x'.c q=x.c q:=λq=>by simp only [Hp.c,hc]
 have rw2:=h.rw.same o.size (λhl=>far br (h.rw.nr hl).1.1 (by rw[h.sp.r hl];omega)) (λq hq=>far (cB q) (h.rw.nc q hq).1.1 (by rw[h.sp.c q hq];omega)) (λq hq hl=>far (pb q) (h.rw.pl q hq hl).2.1.1 (by rw[h.sp.p q hq hl];omega));refine⟨⟨by rw[hr];exact bx,by rw[hr];exact h.sb.ha,by rw[hc];exact(c 13 (by omega)).trans h.sb.n13,λk hk=>?_,⟨(c 14 (by omega)).trans h.sb.fr.hd,nf.2 14,uN h.sb.fr.own (λq hq=>far q (h.sb.fr.own.lt q hq).2 (by rw[h.sp.f q hq];omega)),h.sb.fr.apart⟩,?_,(c 4017 (by omega)).trans h.sb.k0,uN h.sb.kp (λq hq=>far q (h.sb.kp.lt q hq).2 (by rw[h.sp.k q hq];omega)),nf,⟨h.sb.lo.1,h.sb.lo.2.1,h.sb.lo.2.2.of fn o.size⟩⟩,?_,?_,h.pr.of (λq hq h1=>far q hq (by rw[h1];omega)) (λ_ _ h=>h)⟩
 ·rw[hc] at hk;exact⟨(World.cell?_of_block (a:=⟨bn,_,none⟩) fn).trans (h.sb.nd k hk).1,(World.cell?_of_block (a:=⟨bn,_,none⟩) fn).trans (h.sb.nd k hk).2⟩
 ·rw[hg];exact h.sb.rg.of λo h1 _=>c o (by omega)
 ·refine⟨λi hi=>?_,λq hq=>?_,λq hq=>?_,λq hq k hk=>?_,λq hq hl=>?_,?_,?_,?_,λq q' hq hq' hne h1 h2=>?_,λq q' hq hq' hne=>?_,λq hq=>?_⟩
  ·have hi2:i<x.B.length:=by rw[<-hr];exact hi
   have e2:x'.B[i]=x.B[i]:=by simp [hr]
   rw[e2];exact rw2.r i hi2
  ·rw[hc] at hq;rw[cc];exact rw2.s q hq
  ·rw[hc] at hq;rw[cc];exact rw2.p7 q hq
  ·rw[hc] at hq;rw[cc] at hk ⊢;exact rw2.p q hq k hk
  ·rw[hc] at hq ⊢;exact rw2.pl q hq hl
  ·rw[hr];exact rw2.nr
  ·rw[hc];exact rw2.nc
  ·rw[hc];exact rw2.d
  ·rw[hc] at hq hq';exact rw2.dp q q' hq hq' hne h1 h2
  ·rw[hc] at hq hq';exact rw2.dc q q' hq hq' hne
  ·rw[hc] at hq;rw[cc];exact rw2.kp q hq
 ·refine⟨h.sp.b,h.sp.n,by rw[hr];exact h.sp.r,by rw[hc];exact h.sp.c,h.sp.f,h.sp.k,λq hq hl=>?_⟩;rw[hc] at hq;exact h.sp.p q hq hl
def yY(x:Hp):Nat:=if x.E=1\/x.E=2 then 16000 else if x.E=3 then 8000+(x.A.length-x.I.toNat) else if x.E=4\/x.E=5 then 8000 else if x.E=6 then x.I.toNat else 0
def KOk(x:Hp)(h:Nat)(K:List Nat):Prop:=K.Pairwise (· < ·)/\(∀i,i∈K->i<h/\(x.c i).st=1)/\∀i,i<h->(x.c i).st=1->i ∉ K->∀j,j<x.A.length->(x.c j).st=0->i<j
structure tN(C:Nat)(x:Hp)(F:List Int)(K:List Nat):Prop where
 ho:Ho F
 al:∀i,i<x.A.length->(x.c i).st=0->(i:Int)∈F
 nn:∀v,v∈F->0<=v
 le:F.length+yY x<=C
 k3:x.E=3->KOk x x.I.toNat K
 k4:x.E=4->K.Pairwise (· < ·)/\(∀i,i∈K->i<x.A.length/\(x.c i).st=1)/\∀i,i<x.A.length->(x.c i).st=1->i ∉ K->∀j,j<x.A.length->(x.c j).st=0->i<j
 k0:x.E≠3->x.E≠4->K=[]
def qH(x z:Hp):Prop:=z.A.length=x.A.length/\∀q,(z.c q).st=(x.c q).st
theorem qH.refl(x:Hp):qH x x:=⟨rfl,λ_=>rfl⟩
theorem qH.trans(h:qH x y)(k:qH y z):qH x z:=⟨k.1.trans h.1,λq=>(k.2 q).trans (h.2 q)⟩
theorem qH.set(x:Hp)(i:Nat)(c:Cl)(hc:c.st=(x.c i).st)(hz:z.A=x.A.set i c):qH x z:=by
 refine⟨by rw[hz];simp,λq=>?_⟩;have e:z.c q=({ x with A:=x.A.set i c }:Hp).c q:=by simp only [Hp.c,hz]
 rw[e];rcases Nat.lt_or_ge i x.A.length with hi | hi
 ·rw[Hp.c_set x i c hi q];by_cases h:q=i
  ·rw[if_pos h,h];exact hc
  ·rw[if_neg h]
 ·rw[List.set_eq_of_length_le hi]
theorem qH.A(hz:z.A=x.A):qH x z:=⟨by rw[hz],λq=>by simp only [Hp.c,hz]⟩
theorem b3v(x:Hp)(i:Nat):qH x (uW x i):=by
 unfold uW
 split
 ·exact qH.set x i (tY (x.c i)) rfl rfl
 ·exact qH.refl x
theorem a6u(x:Hp)(y:Wd):qH x (shadeW x y):=by
 unfold shadeW
 split
 ·exact b3v x _
 ·exact qH.refl x
theorem b5o:∀(ys:List Wd) (z:Hp),qH z (ys.foldl shadeW z)/\(ys.foldl shadeW z).E=z.E
 | [],z=>⟨qH.refl z,rfl⟩
 | y::ys,z=>by
  obtain⟨a,b⟩:=b5o ys (shadeW z y);exact⟨(a6u z y).trans a,b.trans (a0a z y).2.2.1⟩
theorem a7q(h:x.E=1\/x.E=2):yY x=16000:=by unfold yY;rw[if_pos h]
theorem b6y(h:x.E=3):yY x=8000+(x.A.length-x.I.toNat):=by unfold yY;rw[if_neg (by omega),if_pos h]
theorem b6z(h:x.E=4\/x.E=5):yY x=8000:=by unfold yY;rw[if_neg (by omega),if_neg (by omega),if_pos h]
theorem c1y(h:x.E=6):yY x=x.I.toNat:=by unfold yY;rw[if_neg (by omega),if_neg (by omega),if_neg (by omega),if_pos h]
theorem remU_0(h:x.E=0):yY x=0:=by unfold yY;rw[if_neg (by omega),if_neg (by omega),if_neg (by omega),if_neg (by omega)]
theorem tN.same(h:tN C x F K)(hs:qH x z)(hp:x.E≠3/\x.E≠4)(hr:yY z<=yY x)(h4:z.E≠4)(h3:z.E=3->z.I=0):tN C z F K where
 ho:=h.ho
 al:=λi hi h0=>h.al i (by rw[<-hs.1];exact hi) (by rw[<-hs.2];exact h0)
 nn:=h.nn
 le:=by have:=h.le;omega
 k3:=λe=>by rw[h.k0 hp.1 hp.2];exact⟨List.Pairwise.nil,λi hi=>by simp at hi,λi hi=>by rw[h3 e] at hi;simp at hi⟩
 k4:=λe=>absurd e h4
 k0:=λ_ _=>h.k0 hp.1 hp.2
theorem inv1(h:tN C x F K)(hp:x.E=1):tN C (eZ x) F K:=by
 have hr:=a7q (.inl hp);have key:∀z:Hp,qH x z->z.E=1->tN C z F K:=λz hs hz=>h.same hs ⟨by omega,by omega⟩ (by rw[hr,a7q (.inl hz)];omega) (by omega) (λe=>by omega)
 unfold eZ
 split
 ·refine h.same (z:=dN x 2 0) (qH.A rfl) ⟨by omega,by omega⟩ ?_ (by simp [dN]) (by simp [dN]);rw[hr,a7q (.inr rfl)];omega
 ·by_cases e:tJ (x.c x.I.toNat)=true
  ·simp only [if_pos e];exact key _ ((b3v x x.I.toNat).trans (qH.A rfl)) ((cV x _).2.2.2.2.2.1.trans hp)
  ·simp only [if_neg e];exact key _ (qH.A rfl) hp
theorem inv2(h:tN C x F K)(hp:x.E=2)(n8:x.A.length<=8000):tN C (dY x) F K:=by
 have hr:=a7q (.inr hp);have key:∀z:Hp,qH x z->z.E=2->tN C z F K:=λz hs hz=>h.same hs ⟨by omega,by omega⟩ (by rw[hr,a7q (.inr hz)];omega) (by omega) (λe=>by omega)
 unfold dY
 split
 ·rename_i g G hg
  split
  ·refine key _ (((a6u x _).trans (a6u _ _)).trans (qH.A rfl)) ?_;exact(a0a _ _).2.2.1.trans ((a0a _ _).2.2.1.trans hp)
  ·exact key _ (qH.set x g.toNat (qV (x.c g.toNat)) rfl rfl) hp
 ·obtain⟨a,b⟩:=b5o x.B x;have len:(qC x).A.length<=8000:=by have:=a.1;unfold qC;omega
  split
  ·refine h.same (a.trans (qH.A rfl)) ⟨by omega,by omega⟩ ?_ (by simp [dN]) (by simp [dN]);rw[hr,b6y rfl];simp only [dN];omega
  ·exact key _ a (b.trans hp)
theorem inv5(h:tN C x F K)(hp:x.E=5)(n8:x.A.length<=8000):tN C (eH x) F K:=by
 have hr:=b6z (.inr hp);have key:∀z:Hp,qH x z->z.E=5->tN C z F K:=λz hs hz=>h.same hs ⟨by omega,by omega⟩ (by rw[hr,b6z (.inr hz)];omega) (by omega) (λe=>by omega)
 unfold eH
 split
 ·refine h.same (z:=dN x 6 x.A.length) (qH.A rfl) ⟨by omega,by omega⟩ ?_ (by simp [dN]) (by simp [dN]);rw[hr,c1y rfl];simp [dN];exact n8
 ·split
  ·exact key _ (qH.set x x.I.toNat (qD x (x.c x.I.toNat) x.sub.toNat) rfl rfl) hp
  ·exact key _ (qH.A rfl) hp
theorem c9m(h:tN C x F K)(hp:x.E=3)(he:x.I=x.A.length):tN C (dN x 4 0) F K where
 ho:=h.ho
 al:=h.al
 nn:=h.nn
 le:=by have:=h.le;rw[b6y hp] at this;rw[b6z (.inl rfl)];omega
 k3:=λe=>by simp [dN] at e
 k4:=λ_=>by
  have k:=h.k3 hp;rw[show x.I.toNat=x.A.length by omega] at k;exact k
 k0:=λ_ e=>by simp [dN] at e
theorem b0u(h:tN C x F K)(hp:x.E=3)(hz:z.E=3)(i:Nat)(hi:x.I=(i:Int))(hin:i<x.A.length)(hzi:z.I=(i:Int)+1)(hl:z.A.length=x.A.length)(hs:∀q,q≠i->(z.c q).st=(x.c q).st)(ho:Ho F')(hf:(F'=F/\((z.c i).st=0->(x.c i).st=0))\/F'.Perm ((i:Int)::F)):tN C z F' (K++if (z.c i).st=1 then [i] else []) where
 ho:=ho
 al:=λq hq h0=>by
  rw[hl] at hq;rcases hf with⟨e,e2⟩ | e
  ·rw[e];refine h.al q hq ?_;by_cases c:q=i
   ·rw[c] at h0 ⊢;exact e2 h0
   ·rw[<-hs q c];exact h0
  ·refine e.mem_iff.2 ?_;by_cases c:q=i
   ·rw[c];exact List.mem_cons_self
   ·exact List.mem_cons_of_mem _ (h.al q hq (by rw[<-hs q c];exact h0))
 nn:=λv hv=>by
  rcases hf with⟨e,_⟩ | e
  ·rw[e] at hv;exact h.nn v hv
  ·rcases List.mem_cons.1 (e.mem_iff.1 hv) with e2 | e2
   ·omega
   ·exact h.nn v e2
 le:=by
  have h1:=h.le;rw[b6y hp] at h1;rw[b6y hz]
  have:F'.length<=F.length+1:=by
   rcases hf with⟨e,_⟩ | e
   ·rw[e];omega
   ·have:=e.length_eq;simp at this;omega
  omega
 k3:=λ_=>by
  have e:z.I.toNat=i+1:=by omega
  have e2:x.I.toNat=i:=by omega
  obtain⟨p1,p2,p3⟩:=h.k3 hp;rw[e2] at p2 p3;rw[e]
  have mem:∀q,q∈(K++if (z.c i).st=1 then [i] else [])↔q∈K\/((z.c i).st=1/\q=i):=λq=>by
   by_cases c:(z.c i).st=1
   ·simp [c]
   ·simp [c]
  refine⟨?_,λq hq=>?_,λq hq h1 hn j hj h0=>?_⟩
  ·by_cases c:(z.c i).st=1
   ·rw[if_pos c];refine List.pairwise_append.2 ⟨p1,List.pairwise_singleton _ _,λa ha b hb=>?_⟩;simp at hb;have:=(p2 a ha).1;omega
   ·rw[if_neg c,List.append_nil];exact p1
  ·rcases (mem q).1 hq with c | ⟨c,d⟩
   ·have:=p2 q c;exact⟨by omega,by rw[hs q (by omega)];exact this.2⟩
   ·rw[d];exact⟨by omega,c⟩
  ·have hne:q≠i:=λc=>hn ((mem q).2 (.inr ⟨by rw[<-c];exact h1,c⟩))
   by_cases c:j=i
   ·omega
   ·exact p3 q (by omega) (by rw[<-hs q hne];exact h1) (λc2=>hn ((mem q).2 (.inl c2))) j (by omega) (by rw[<-hs j c];exact h0)
 k4:=λe=>by omega
 k0:=λe=>absurd hz e
theorem c9n(h:tN C x F K)(hp:x.E=6)(hz:z.E=0)(hc:z.A=x.A):tN C z F K:=
 h.same (qH.A hc) ⟨by omega,by omega⟩ (by rw[remU_0 hz];omega) (by omega) (λe=>by omega)
theorem c5h(h:tN C x F K)(hp:x.E=6)(hz:z.E=6)(i:Nat)(hi:x.I=(i:Int)+1)(hzi:z.I=(i:Int))(hl:z.A.length<=x.A.length)(hs:∀q,q<z.A.length->q≠i->(z.c q).st=(x.c q).st)(ho:Ho F')(hf:(F'=F/\(i<z.A.length->(z.c i).st=0->(x.c i).st=0))\/F'.Perm ((i:Int)::F)):tN C z F' K where
 ho:=ho
 al:=λq hq h0=>by
  rcases hf with⟨e,e2⟩ | e
  ·rw[e];refine h.al q (by omega) ?_;by_cases c:q=i
   ·rw[c] at h0 ⊢;exact e2 (by omega) h0
   ·rw[<-hs q hq c];exact h0
  ·refine e.mem_iff.2 ?_;by_cases c:q=i
   ·rw[c];exact List.mem_cons_self
   ·exact List.mem_cons_of_mem _ (h.al q (by omega) (by rw[<-hs q hq c];exact h0))
 nn:=λv hv=>by
  rcases hf with⟨e,_⟩ | e
  ·rw[e] at hv;exact h.nn v hv
  ·rcases List.mem_cons.1 (e.mem_iff.1 hv) with e2 | e2
   ·omega
   ·exact h.nn v e2
 le:=by
  have h1:=h.le;rw[c1y hp] at h1;rw[c1y hz]
  have:F'.length<=F.length+1:=by
   rcases hf with⟨e,_⟩ | e
   ·rw[e];omega
   ·have:=e.length_eq;simp at this;omega
  omega
 k3:=λe=>by omega
 k4:=λe=>by omega
 k0:=λ_ _=>h.k0 (by omega) (by omega)
theorem inv0(h:tN C x F K)(hp:x.E=0):tN (C+16000) (dN x 1 0) F K where
 ho:=h.ho
 al:=h.al
 nn:=h.nn
 le:=by have:=h.le;rw[a7q (.inl rfl)];omega
 k3:=λe=>by simp [dN] at e
 k4:=λe=>by simp [dN] at e
 k0:=λ_ _=>h.k0 (by omega) (by omega)
theorem SAt.turned[Inhabited uQ](h:SAt B w b x ar kr v4 v8 br cB cO bn pb pa pk kn hd vf F vk K role)(cs:List Cl)(hl:cs.length=x.A.length)(so:Nat->Nat)(pa':Nat->Option Addr)(pk':Nat->Nat)(role':Nat->Nat)
  (o:uZ (λq=>∃j,j<x.A.length/\q=cB j) w w') (nf:∀j,j<x.A.length->Nf1 (cB j) w') (hkp:CapP { x with A:=cs } pk')
  (hs:∀q,q<x.A.length->S7 w' (cB q) (cO q) (({ x with A:=cs }:Hp).c q))
  (h7:∀q,q<x.A.length->w'.cell? ⟨cB q,cO q+7,none⟩=some (.slice (pa' q) (({ x with A:=cs }:Hp).c q).F.length (pk' q)))
  (hso:∀q,q<x.A.length->0<pk' q->(so q<x.A.length/\pk' q=pk (so q))/\(x.c (so q)).F=(({ x with A:=cs }:Hp).c q).F/\pa' q=pa (so q)/\role' (pb (so q))=6+q)
  (hro:∀q,role q<6->role' q=role q) :
  SAt B w' b { x with A:=cs } ar kr v4 v8 br cB cO bn (λq=>pb (so q)) pa' pk' kn hd vf F vk K role':=by
 have far:∀q,q<w.heap.size->role q≠3->w'.heap[q]?=w.heap[q]?:=λq hq hr=>o.block q hq (λ⟨j,hj,e⟩=>hr (by rw[e];exact h.sp.c j hj))
 have hl':({ x with A:=cs }:Hp).A.length=x.A.length:=hl;have pf:∀q,q<x.A.length->0<pk q->w'.heap[pb q]?=w.heap[pb q]?:=λq hq hl=>far (pb q) (h.rw.pl q hq hl).2.1.1 (by rw[h.sp.p q hq hl];omega)
 have sb2:=h.sb.same o.size (far b h.sb.nb.1 (by rw[h.sp.b];omega)) (far bn h.sb.lo.2.2.1 (by rw[h.sp.n];omega)) (λq hq=>far q (h.sb.fr.own.lt q hq).2 (by rw[h.sp.f q hq];omega)) (λq hq=>far q (h.sb.kp.lt q hq).2 (by rw[h.sp.k q hq];omega));refine⟨⟨sb2.bx,sb2.ha,by rw[hl'];exact sb2.n13,λk hk=>sb2.nd k (by rw[hl'] at hk;exact hk),sb2.fr,sb2.rg,sb2.k0,sb2.kp,sb2.nb,sb2.lo⟩,⟨λk hk=>?_,λq hq=>?_,λq hq=>?_,λq hq k hk=>?_,λq hq hlq=>?_,λhr=>⟨uV (h.rw.nr hr).1 (far br (h.rw.nr hr).1.1 (by rw[h.sp.r hr];omega)) o.size,(h.rw.nr hr).2⟩,λq hq=>⟨nf q (by rw[hl'] at hq;exact hq),(h.rw.nc q (by rw[hl'] at hq;exact hq)).2⟩,λq hq=>h.rw.d q (by rw[hl'] at hq;exact hq),λq q' hq hq' hne h1 h2=>?_,λq q' hq hq' hne=>h.rw.dc q q' (by rw[hl'] at hq;exact hq) (by rw[hl'] at hq';exact hq') hne,hkp⟩,⟨?_,?_,λhr=>?_,λq hq=>?_,λq hq=>?_,λq hq=>?_,λq hq hlq=>?_⟩,h.pr.of (λq hq h1=>far q hq (by rw[h1];omega)) (λq _ h1=>by rw[hro q (by rw[h1];omega)];exact h1)⟩
 ·exact(h.rw.r k hk).of λj _=>World.cell?_of_block (a:=⟨br,_,none⟩) (far br (h.rw.nr (by have:k<x.B.length:=hk;omega)).1.1 (by rw[h.sp.r (by have:k<x.B.length:=hk;omega)];omega))
 ·rw[hl'] at hq;exact hs q hq
 ·rw[hl'] at hq;exact h7 q hq
 ·rw[hl'] at hq;obtain⟨⟨a1,_⟩,a2,_⟩:=hso q hq (by have:=hkp q (by rw[hl'];exact hq);omega);have e2:(({ x with A:=cs }:Hp).c q).p k=(x.c (so q)).p k:=by simp only [Cl.p,a2]
  rw[<-a2] at hk;rw[e2];exact(h.rw.p (so q) a1 k hk).of λj _=>World.cell?_of_block (a:=⟨pb (so q),_,none⟩) (pf (so q) a1 (h.rw.pw a1 (by omega)))
 ·rw[hl'] at hq;obtain⟨⟨a1,a0⟩,a2,a3,_⟩:=hso q hq hlq;rw[a0] at hlq;obtain⟨b1,b2,b3,b4⟩:=h.rw.pl (so q) a1 hlq;exact⟨a3.trans b1,by rw[a0];exact a0f b2 (pf (so q) a1 hlq) o.size,⟨b3.1,λj hj=>b3.2 j (by rw[hl'] at hj;exact hj)⟩,b4⟩
 ·rw[hl'] at hq hq';intro e;have r1:=(hso q hq h1).2.2.2;have r2:=(hso q' hq' h2).2.2.2;have e':pb (so q)=pb (so q'):=e;rw[e',r2] at r1;omega
 ·rw[hro b (by rw[h.sp.b];omega)];exact h.sp.b
 ·rw[hro bn (by rw[h.sp.n];omega)];exact h.sp.n
 ·have:=h.sp.r hr;rw[hro br (by omega)];exact this
 ·rw[hl'] at hq;have:=h.sp.c q hq;rw[hro (cB q) (by omega)];exact this
 ·have:=h.sp.f q hq;rw[hro q (by omega)];exact this
 ·have:=h.sp.k q hq;rw[hro q (by omega)];exact this
 ·rw[hl'] at hq;exact(hso q hq hlq).2.2.2
theorem SAt.wiped[Inhabited uQ](h:SAt B w b x ar kr v4 v8 br cB cO bn pb pa pk kn hd vf F vk K role)(i:Nat)(hi:i<x.A.length)(st tt:Int):
  SAt B (zZ w (cB i) (cO i) st tt) b { x with A:=x.A.set i ⟨st,0,0,0,0,0,tt,[]⟩ } ar kr v4 v8 br cB cO bn pb (λq=>if q=i then none else pa q) (λq=>if q=i then 0 else pk q) kn hd vf F vk K role:=by
 have hc:=Hp.c_set x i ⟨st,0,0,0,0,0,tt,[]⟩ hi;obtain⟨k1,k2⟩:=a4p w (cB i) (cO i) st tt _ _ (h.rw.s i hi) (h.rw.p7 i hi);have ho:=a3x w (cB i) (cO i) st tt;refine h.turned (x.A.set i ⟨st,0,0,0,0,0,tt,[]⟩) (by simp) (λq=>q) _ _ role ((a0g _ _ _ _ _).mono (λq e=>⟨i,hi,e⟩)) (λq hq=>a6s (h.rw.nc q hq).1 (a9j (h.rw.nc i hi).1 _ _ _) (a0g _ _ _ _ _)) (λq hq=>?_) (λq hq=>?_) (λq hq=>?_) (λq hq hl=>?_) (λ_ _=>rfl)
 ·have hq':q<x.A.length:=by simpa using hq
  rw[hc q];by_cases e:q=i
  ·rw[if_pos e];exact Nat.zero_le _
  ·simp only [if_neg e];exact h.rw.kp q hq'
 ·rw[hc q];by_cases e:q=i
  ·subst e;rw[if_pos rfl];exact k1
  ·rw[if_neg e];exact(h.rw.s q hq).of λj hj=>h.rw.far8 hi hq e (Nat.le_refl _) (a0g _ _ _ _ _) ho j (by omega)
 ·rw[hc q];by_cases e:q=i
  ·subst e;simp only [if_true];exact k2
  ·simp only [if_neg e];rw[h.rw.far8 hi hq e (Nat.le_refl _) (a0g _ _ _ _ _) ho 7 (by omega)];exact h.rw.p7 q hq
 ·rw[hc q];by_cases e:q=i
  ·rw[if_pos e] at hl;omega
  ·rw[if_neg e] at hl;exact⟨⟨hq,if_neg e⟩,by rw[if_neg e],if_neg e,h.sp.p q hq hl⟩
theorem SAt.freed[Inhabited uQ](h:SAt B w b x ar kr v4 v8 br cB cO bn pb pa pk kn hd vf F vk K role){vf':Value}(l:eK w' B b 14 vf' F')(q:QFr b 14 vf vf' w w')(nf:Nf1 b w'):
  ∃role',SAt B w' b x ar kr v4 v8 br cB cO bn pb pa pk kn hd vf' F' vk K role':=by
 have nfree:∀k,role k≠4->vf.ownBlock≠some k:=λk hk e=>hk (h.sp.f k e)
 have far:∀k,k<w.heap.size->role k≠4->role k≠0->w'.heap[k]?=w.heap[k]?:=λk hk h1 h2=>q.block k hk (λe=>h2 (by rw[e];exact h.sp.b)) (nfree k h1)
 have cb:∀o,o≠14->w'.cell? ⟨b,o,none⟩=w.cell? ⟨b,o,none⟩:=λo ho=>q.hdr o ho
 have own2:∀k,vf'.ownBlock=some k->vf.ownBlock=some k\/w.heap.size<=k:=λk hk=>by
  rcases q.own with e | ⟨g,e,hg⟩
  ·exact .inl (e ▸ hk)
  ·rw[e] at hk;injection hk with hk;exact .inr (by omega)
 have ne4:∀k,k<w.heap.size->role k≠4->vf'.ownBlock≠some k:=λk hk hr e=>by
  rcases own2 k e with e2 | e2
  ·exact hr (h.sp.f k e2)
  ·omega
 have fn:=far bn h.sb.lo.2.2.1 (by rw[h.sp.n];omega) (by rw[h.sp.n];omega);refine⟨λk=>(open Classical in if vf'.ownBlock=some k then 4 else role k),⟨h.sb.bx.of λo ho=>cb o (by omega),h.sb.ha,(cb 13 (by omega)).trans h.sb.n13,λk hk=>⟨(World.cell?_of_block (a:=⟨bn,_,none⟩) fn).trans (h.sb.nd k hk).1,(World.cell?_of_block (a:=⟨bn,_,none⟩) fn).trans (h.sb.nd k hk).2⟩,l,h.sb.rg.of λo h1 _=>cb o (by omega),(cb 4017 (by omega)).trans h.sb.k0,uN h.sb.kp (λk hk=>far k (h.sb.kp.lt k hk).2 (by rw[h.sp.k k hk];omega) (by rw[h.sp.k k hk];omega)),nf,⟨h.sb.lo.1,h.sb.lo.2.1,h.sb.lo.2.2.of fn q.size⟩⟩,h.rw.same q.size (λhl=>far br (h.rw.nr hl).1.1 (by rw[h.sp.r hl];omega) (by rw[h.sp.r hl];omega)) (λk hk=>far (cB k) (h.rw.nc k hk).1.1 (by rw[h.sp.c k hk];omega) (by rw[h.sp.c k hk];omega)) (λk hk hl=>far (pb k) (h.rw.pl k hk hl).2.1.1 (by rw[h.sp.p k hk hl];omega) (by rw[h.sp.p k hk hl];omega)),?_,h.pr.of (λq hq h1=>far q hq (by rw[h1];omega) (by rw[h1];omega)) (λq hq h1=>by(try dsimp only);rw[if_neg (ne4 q hq (by rw[h1];omega))];exact h1)⟩;refine⟨?_,?_,λhl=>?_,λk hk=>?_,λk hk=>?_,λk hk=>?_,λk hk hl=>?_⟩
 ·rw[if_neg (ne4 b h.sb.nb.1 (by rw[h.sp.b];omega))];exact h.sp.b
 ·rw[if_neg (ne4 bn h.sb.lo.2.2.1 (by rw[h.sp.n];omega))];exact h.sp.n
 ·rw[if_neg (ne4 br (h.rw.nr hl).1.1 (by rw[h.sp.r hl];omega))];exact h.sp.r hl
 ·rw[if_neg (ne4 (cB k) (h.rw.nc k hk).1.1 (by rw[h.sp.c k hk];omega))];exact h.sp.c k hk
 ·rw[if_pos hk]
 ·rw[if_neg (ne4 k (h.sb.kp.lt k hk).2 (by rw[h.sp.k k hk];omega))];exact h.sp.k k hk
 ·rw[if_neg (ne4 (pb k) (h.rw.pl k hk hl).2.1.1 (by rw[h.sp.p k hk hl];omega))];exact h.sp.p k hk hl
theorem SAt.drop[Inhabited uQ](h:SAt B w b x ar kr v4 v8 br cB cO bn pb pa pk kn hd vf F vk K role)(i:Nat)(hi:i+1=x.A.length):
  SAt B (w.setCell ⟨b,13,none⟩ (.slice (some ⟨bn,0,none⟩) i kn)) b { x with A:=x.A.take i } ar kr v4 v8 br cB cO bn pb pa pk kn hd vf F vk K role:=by
 have far:∀q,q<w.heap.size->role q≠0->(w.setCell ⟨b,13,none⟩ (.slice (some ⟨bn,0,none⟩) i kn)).heap[q]?=w.heap[q]?:=λq hq hn=>Below.heap_setCell _ _ _ _ (λe=>hn (by rw[e];exact h.sp.b))
 have hsz:w.heap.size<=(w.setCell ⟨b,13,none⟩ (.slice (some ⟨bn,0,none⟩) i kn)).heap.size:=by simp [World.setCell]
 have rw2:=h.rw.same (w':=w.setCell ⟨b,13,none⟩ (.slice (some ⟨bn,0,none⟩) i kn)) hsz (λhl=>far br (h.rw.nr hl).1.1 (by rw[h.sp.r hl];omega)) (λq hq=>far (cB q) (h.rw.nc q hq).1.1 (by rw[h.sp.c q hq];omega)) (λq hq hl=>far (pb q) (h.rw.pl q hq hl).2.1.1 (by rw[h.sp.p q hq hl];omega));have hl:({ x with A:=x.A.take i }:Hp).A.length=i:=by simp;omega
 have hc:∀q,q<i->({ x with A:=x.A.take i }:Hp).c q=x.c q:=λq hq=>by
  simp only [Hp.c,List.getD_eq_getElem?_getD,List.getElem?_take_of_lt hq]
 have cb:∀o,o≠13->(w.setCell ⟨b,13,none⟩ (.slice (some ⟨bn,0,none⟩) i kn)).cell? ⟨b,o,none⟩=w.cell? ⟨b,o,none⟩:=λo ho=>uC _ (.inr (λe=>ho e.symm))
 have fn:=far bn h.sb.lo.2.2.1 (by rw[h.sp.n];omega);refine⟨⟨h.sb.bx.of λo ho=>cb o (by omega),h.sb.ha,?_,λk hk=>?_,⟨(cb 14 (by omega)).trans h.sb.fr.hd,(h.sb.nb.set _ _).2 14,uN h.sb.fr.own (λq hq=>far q (h.sb.fr.own.lt q hq).2 (by rw[h.sp.f q hq];omega)),h.sb.fr.apart⟩,h.sb.rg.of λo h1 _=>cb o (by omega),(cb 4017 (by omega)).trans h.sb.k0,uN h.sb.kp (λq hq=>far q (h.sb.kp.lt q hq).2 (by rw[h.sp.k q hq];omega)),h.sb.nb.set _ _,⟨h.sb.lo.1,h.sb.lo.2.1,h.sb.lo.2.2.of fn hsz⟩⟩,⟨rw2.r,λq hq=>?_,λq hq=>?_,λq hq k hk=>?_,λq hq hlq=>?_,rw2.nr,λq hq=>rw2.nc q (by rw[hl] at hq;omega),λq hq=>rw2.d q (by rw[hl] at hq;omega),λq q' hq hq' hne h1 h2=>?_,λq q' hq hq' hne=>rw2.dc q q' (by rw[hl] at hq;omega) (by rw[hl] at hq';omega) hne,λq hq=>by rw[hl] at hq;rw[hc q hq];exact rw2.kp q (by omega)⟩,⟨h.sp.b,h.sp.n,h.sp.r,λq hq=>h.sp.c q (by rw[hl] at hq;omega),h.sp.f,h.sp.k,λq hq hlq=>?_⟩,h.pr.of (λq hq h1=>far q hq (by rw[h1];omega)) (λ_ _ h=>h)⟩
 ·rw[hl];exact World.cell?_setCell_same _ _ _ h.sb.n13
 ·rw[hl] at hk;exact⟨(World.cell?_of_block (a:=⟨bn,_,none⟩) fn).trans (h.sb.nd k (by omega)).1,(World.cell?_of_block (a:=⟨bn,_,none⟩) fn).trans (h.sb.nd k (by omega)).2⟩
 ·rw[hl] at hq;rw[hc q hq];exact rw2.s q (by omega)
 ·rw[hl] at hq;rw[hc q hq];exact rw2.p7 q (by omega)
 ·rw[hl] at hq;rw[hc q hq] at hk ⊢;exact rw2.p q (by omega) k hk
 ·rw[hl] at hq;have z:=rw2.pl q (by omega) hlq;exact⟨z.1,z.2.1,⟨z.2.2.1.1,λj hj=>z.2.2.1.2 j (by rw[hl] at hj;omega)⟩,z.2.2.2⟩
 ·rw[hl] at hq hq';exact rw2.dp q q' (by omega) (by omega) hne h1 h2
 ·rw[hl] at hq;exact h.sp.p q (by omega) hlq
theorem SAt.setr[Inhabited uQ](h:SAt B w b x ar kr v4 v8 br cB cO bn pb pa pk kn hd vf F vk K role)(j:Nat)(hj:j<x.B.length)(y:Wd)(o:uZ (λq=>q=br) w w')(nf:Nf1 br w')(hy:yQ w' br (j*3) y)(ho:∀m,(m<j*3\/j*3+3<=m)->w'.cell? ⟨br,m,none⟩=w.cell? ⟨br,m,none⟩):
  SAt B w' b { x with B:=x.B.set j y } ar kr v4 v8 br cB cO bn pb pa pk kn hd vf F vk K role:=by
 have hr:0<x.B.length:=by omega
 have far:∀q,q<w.heap.size->role q≠2->w'.heap[q]?=w.heap[q]?:=λq hq hn=>o.block q hq (λe=>hn (by rw[e];exact h.sp.r hr))
 have hl:({ x with B:=x.B.set j y }:Hp).B.length=x.B.length:=by simp
 have pf:∀q,q<x.A.length->0<pk q->w'.heap[pb q]?=w.heap[pb q]?:=λq hq hl=>far (pb q) (h.rw.pl q hq hl).2.1.1 (by rw[h.sp.p q hq hl];omega)
 have fc:∀q,q<x.A.length->w'.heap[cB q]?=w.heap[cB q]?:=λq hq=>far (cB q) (h.rw.nc q hq).1.1 (by rw[h.sp.c q hq];omega)
 have sb2:=h.sb.same o.size (far b h.sb.nb.1 (by rw[h.sp.b];omega)) (far bn h.sb.lo.2.2.1 (by rw[h.sp.n];omega)) (λq hq=>far q (h.sb.fr.own.lt q hq).2 (by rw[h.sp.f q hq];omega)) (λq hq=>far q (h.sb.kp.lt q hq).2 (by rw[h.sp.k q hq];omega));refine⟨⟨by rw[hl];exact sb2.bx,λ_=>sb2.ha hr,sb2.n13,sb2.nd,sb2.fr,sb2.rg,sb2.k0,sb2.kp,sb2.nb,sb2.lo⟩,⟨λm hm=>?_,λq hq=>?_,λq hq=>?_,λq hq k hk=>?_,λq hq hlq=>?_,λ_=>⟨nf,(h.rw.nr hr).2⟩,λq hq=>⟨uV (h.rw.nc q hq).1 (fc q hq) o.size,(h.rw.nc q hq).2⟩,h.rw.d,h.rw.dp,h.rw.dc,h.rw.kp⟩,⟨h.sp.b,h.sp.n,λ_=>h.sp.r hr,h.sp.c,h.sp.f,h.sp.k,h.sp.p⟩,h.pr.of (λq hq h1=>far q hq (by rw[h1];omega)) (λ_ _ h=>h)⟩
 ·have hm2:m<x.B.length:=by rw[hl] at hm;exact hm
  by_cases e:m=j
  ·subst e;have:({ x with B:=x.B.set m y }:Hp).B[m]=y:=by simp
   rw[this];exact hy
  ·have hjm:j≠m:=λe'=>e e'.symm
   have:({ x with B:=x.B.set j y }:Hp).B[m]=x.B[m]:=by simp [List.getElem_set_ne hjm]
   rw[this];exact(h.rw.r m hm2).of λk hk=>ho _ (by omega)
 ·exact(h.rw.s q hq).of λm _=>World.cell?_of_block (a:=⟨cB q,_,none⟩) (fc q hq)
 ·exact(World.cell?_of_block (a:=⟨cB q,_,none⟩) (fc q hq)).trans (h.rw.p7 q hq)
 ·have hk2:k<(x.c q).F.length:=hk;exact(h.rw.p q hq k hk).of λm _=>World.cell?_of_block (a:=⟨pb q,_,none⟩) (pf q hq (h.rw.pw hq (by omega)))
 ·obtain⟨a1,a2,a3⟩:=h.rw.pl q hq hlq;exact⟨a1,a0f a2 (pf q hq hlq) o.size,a3⟩
end Go.Proofs.YtddkhnclmeikfaaGreat
