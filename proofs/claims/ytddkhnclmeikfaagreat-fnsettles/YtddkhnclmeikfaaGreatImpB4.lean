import Derived.Test.YtddkhnclmeikfaaGreatImpO
set_option maxRecDepth 100000
set_option maxHeartbeats 4000000
namespace Go.Proofs.YtddkhnclmeikfaaGreat
open Go.RowKit
attribute [local go_sem ↓] Go.wp_at_zero Go.wp_at_succ
variable{ar ac ag an:Option Addr}{kr kc kg kn:Nat}{x:Hp}
theorem a2b:a1s x=true↔uE x:=by simp [a1s,uE]
theorem a8n(x:Hp)(b:Nat)(s:Bool)(hs:a1s x=s)(w:World)(c5:w.cell? ⟨b,5,none⟩=some (iv x.phase)):
  Calls Tryz.prog 145 #[.pointer (some ⟨b,0,none⟩)] w λe w'=>e=.returned (.bool s)/\w'=w:=by
 rw[<-hs];exact b1n x b w c5
def a0r(x:Hp)(i:Nat):Bool:=a1s x || ((x.phase == 3) && decide (x.hand<=(i:Int)))
theorem a8g{i:Nat}:a0r x i=true↔a4c x i:=by
 simp [a0r,a4c,a2b]
theorem b3a(x:Hp)(b bn q i:Nat)(w:World)(c5:w.cell? ⟨b,5,none⟩=some (iv x.phase))(c6:w.cell? ⟨b,6,none⟩=some (iv x.hand))(m0:w.cell? ⟨bn,q,none⟩=some (iv i)):
  Calls Tryz.prog 180 #[.pointer (some ⟨b,0,none⟩),.pointer (some ⟨bn,q,none⟩)] w λe w'=>e=.returned (.bool (a0r x i))/\Ext w w':=by
 have HM:=uU (λn s (hs:a1s x=s)=>a8n x b s hs (w.drewN n) (((Ext.refl w).drewN n).keep c5));cases t1:a1s x
 ·cases t2:(x.phase == 3)
  ·have E:=uU (show a0r x i=false by simp [a0r,t1,t2]);go_enter Tryz.func180,Tryz.ntmps180;go_wp2_with fail;go_quiet ((go_at_call 145;exact Calls.quiet_of_same (HM _ _ t1)));go_wp2_with fail;go_ret;exact⟨by rw[uH E];rfl,(Ext.refl w).drewN _⟩
  ·by_cases t3:x.hand<=(i:Int)
   ·have E:=uU (show a0r x i=true by simp [a0r,t2,t3]);go_enter Tryz.func180,Tryz.ntmps180;go_wp2_with fail;go_quiet ((go_at_call 145;exact Calls.quiet_of_same (HM _ _ t1)));go_wp2_with fail;go_ret;exact⟨by rw[uH E];rfl,(Ext.refl w).drewN _⟩
   ·have E:=uU (show a0r x i=false by simp [a0r,t1];omega);have t3b:decide (x.hand<=(i:Int))=false:=decide_eq_false t3;clear t3;go_enter Tryz.func180,Tryz.ntmps180;go_wp2_with fail;go_quiet ((go_at_call 145;exact Calls.quiet_of_same (HM _ _ t1)));go_wp2_with fail;go_ret;exact⟨by rw[uH E];rfl,(Ext.refl w).drewN _⟩
 ·have E:=uU (show a0r x i=true by simp [a0r,t1]);go_enter Tryz.func180,Tryz.ntmps180;go_wp2_with fail;go_quiet ((go_at_call 145;exact Calls.quiet_of_same (HM _ _ t1)));go_wp2_with fail;go_ret;exact⟨by rw[uH E];rfl,(Ext.refl w).drewN _⟩
def b6s(x:Hp):Prop:=(∀g,g∈x.gray->(0<=g/\g<x.cells.length)/\(x.c g.toNat).color=1)/\x.gray.Nodup
theorem b6t(x:Hp)(k:Nat)(h:k<x.gray.length):x.gray[k]=it x.gray k:=a9a _ _ h
theorem a9n(x:Hp)(b:Nat)(w:World)(h:VAt w b x ar kr ac kc ag kg an kn)(hn:x.gray.length<=8000):
  Calls Tryz.prog 181 #[.pointer (some ⟨b,0,none⟩)] w λe w'=>∃r:Bool,Hid (e=.returned (.bool r))/\(r=true↔b6s x)/\Ext w w':=by
 have c8:=h.H.c8;have hb:b<w.heap.size:=uL c8;have lc:=h.H.lc;have HV:=uU h;clear h;go_enter Tryz.func181,Tryz.ntmps181;go_wp2_with fail;go_loopw [12] (λi wr=>∃(k:Nat) (v1:Value) (L1:List Int),k<=x.gray.length/\i=.int .i64 k/\Hid (∀j,j<k->(0<=it x.gray j/\it x.gray j<x.cells.length)/\(x.c (it x.gray j).toNat).color=1)/\eX wr w.heap.size w.heap.size 0 v1 L1/\Ho L1/\L1.Perm (x.gray.take k)/\Ext w wr) (λi _=>x.gray.length-(intOf i).toNat)
 case atStart=>exact⟨0,_,[],Nat.zero_le _,rfl,λj hj=>by omega,eX.nil (by simp [go_sem]) (by simp [go_sem]),Ho.nil,by simp,(Ext.refl w).alloc _⟩
 case round=>
  clear c8;obtain⟨k,v1,L1,hk,rfl,HA,ls,ho,hp,hbl⟩:=hrel;have HLS:=uU ls;have HO:=uU ho;have HP:=uU hp;have hlen:L1.length<=1000000000:=by have:=hp.length_eq;simp at this;omega
  clear ls ho hp;by_cases hlt:k<x.gray.length
  ·have hv:=HV.ext hbl;obtain⟨bg,og,rfl,pg⟩:=hv.H.G k hlt;unfold yD at pg;rw[b6t x k hlt] at pg;have d13:=hv.n13;have HV1:=uU hv;have hk0:(0:Int)<=(k:Int):=by omega
   have hk1:(k:Int)<(x.gray.length:Int):=by omega
   obtain⟨y,hy⟩:∃z,it x.gray k=z:=⟨_,rfl⟩;rw[hy] at pg;have HY:=uU hy;have MEM:=uU (show y∈x.gray by rw[<-hy];exact a3j _ _ hlt);have hbs:w.heap.size<=wr.heap.size:=hbl.size;clear hv hy;simp only [Nat.mul_one] at pg;cases t1:uQ y 0 ((x.cells.length:Int)-1)
   ·have N:=uU (show ¬b6s x from λr=>by have:=a0a t1;have:=(r.1 y MEM).1;omega);go_wp2_with fail;refine(uD _ _ _ false t1 _).mono ?_;rintro e w2 ⟨rfl,rfl⟩;go_wp2_with fail;go_ret;exact⟨false,rfl,⟨λf=>by simp at f,λr=>(N r).elim⟩,hbl⟩
   ·obtain⟨i,hi⟩:∃i:Nat,y=(i:Int):=⟨y.toNat,by have:=uW t1;omega⟩;subst hi;have hin:i<x.cells.length:=by have:=uW t1;omega
    obtain⟨bn,on,bc,oc,e1,e2,m0,m1⟩:=HV1.N i hin;subst e1;subst e2;obtain⟨bc2,oc2,ap,kp,e3,C⟩:=HV1.H.cell i hin;cases e3;have p5:=C.p5;have hi0:(0:Int)<=(i:Int):=by omega
    have hi1:(i:Int)<(x.cells.length:Int):=by omega
    clear C m0;cases t2:((x.c i).color == 1)
    ·have t2b:((x.c i).color != 1)=true:=by simpa using t2
     have N:=uU (show ¬b6s x from λr=>by have:=(r.1 _ MEM).2;simp at this t2;omega);go_wp2_with fail;refine(uD _ _ _ true t1 _).mono ?_;rintro e w2 ⟨rfl,rfl⟩;go_wp2_with fail;go_ret;exact⟨false,rfl,⟨λf=>by simp at f,λr=>(N r).elim⟩,hbl⟩
    ·have t2b:((x.c i).color != 1)=false:=by simpa using t2
     have OK:=uU (show ∀j,j<k+1->(0<=it x.gray j/\it x.gray j<x.cells.length)/\(x.c (it x.gray j).toNat).color=1 from λj hj=>by
      by_cases e:j=k
      ·rw[e,uH HY];exact⟨⟨hi0,hi1⟩,by simpa using t2⟩
      ·exact HA j (by omega))
     have TK:=uU (show x.gray.take (k+1)=x.gray.take k++[(i:Int)] by
      rw[<-uH HY,<-b6t x k hlt];exact(List.take_append_getElem hlt).symm)
     go_wp2_with fail;refine(uD _ _ _ true t1 _).mono ?_;rintro e w2 ⟨rfl,rfl⟩;go_wp2_with fail;refine(b6r _ w.heap.size w.heap.size 0 v1 L1 (i:Int) HLS hbs HO (by omega)).mono ?_;rintro e w3 ⟨rfl,v3,L3,l3,o3,p3,q3⟩
     have R:=uU (show eX w3 w.heap.size w.heap.size 0 v3 L3/\Ho L3/\L3.Perm (x.gray.take (k+1))/\Ext w w3 from
      ⟨l3,o3,by rw[uH TK];exact(p3.trans (HP.cons _)).trans (List.perm_append_singleton _ _).symm,q3.ext hbl (Nat.le_refl _) (λk hk=>(HLS.rlt k hk).1)⟩)
     clear l3 o3 p3 q3;go_wp2_with fail;go_roundw
     case rel=>exact⟨k+1,v3,L3,by omega,by go_num,OK,R⟩
     case measure=>simp [intOf];omega
  ·have hk2:k=x.gray.length:=by omega
   have P1:=uU (show L1.Nodup↔x.gray.Nodup by have:=uH HP;rw[hk2,List.take_length] at this;exact this.nodup_iff)
   have A1:=uU (show ∀g,g∈x.gray->(0<=g/\g<x.cells.length)/\(x.c g.toNat).color=1 from λg hg=>by
    obtain⟨j,hj,e⟩:=List.getElem_of_mem hg;rw[b6t x j hj] at e;rw[<-e];exact HA j (by omega))
   clear hk2;go_wp2_with fail;refine(b2z _ w.heap.size w.heap.size 0 v1 L1 HLS HO hlen).mono ?_;rintro e w2 ⟨r,rfl,hr,v3,q3⟩;have E2:=uU (q3.ext hbl (Nat.le_refl _) (λk hk=>(HLS.rlt k hk).1));have RR:=uU (show r=true↔b6s x from⟨λe=>⟨A1,P1.1 (hr.1 e)⟩,λq=>hr.2 (P1.2 q.2)⟩);clear q3 hr;go_wp2_with fail;go_ret;exact⟨r,rfl,RR,E2⟩
theorem b3b(x:Hp)(b:Nat)(w:World)(h:VAt w b x ar kr ac kc ag kg an kn)(hn:x.gray.length<=8000)(hc:x.cells.length<=8000):
  Calls Tryz.prog 111 #[.pointer (some ⟨b,0,none⟩)] w λe w'=>∃r:Bool,Hid (e=.returned (.bool r))/\(r=true↔R5 x)/\Ext w w':=by
 have n13:=h.n13;have c8:=h.H.c8;have HV:=uU h;clear h;go_enter Tryz.func111,Tryz.ntmps111;go_wp2_with fail;go_loopw [3,11] (λs i wr=>∃(k u:Nat),k<=x.cells.length/\i=.int .i64 k/\s=.int .i64 u/\u<=k/\Hid (u=(a6h x k).length)/\Hid (∀j,j<k->(x.c j).color=2->a4c x j)/\Ext w wr) (λ_ i _=>x.cells.length-(intOf i).toNat)
 case atStart=>exact⟨0,0,Nat.zero_le _,rfl,rfl,Nat.le_refl _,rfl,λj hj=>by omega,Ext.refl _⟩
 case round=>
  clear n13;obtain⟨k,u,hk,rfl,rfl,huk,hu,HA,hbl⟩:=hrel;by_cases hlt:k<x.cells.length
  ·have hv:=HV.ext hbl;obtain⟨bn,on,bc,oc,rfl,rfl,m0,m1⟩:=hv.N k hlt;obtain⟨bc2,oc2,ap,kp,e2,C⟩:=hv.H.cell k hlt;cases e2;have p5:=C.p5;have d13:=hv.n13;have HV1:=uU hv;have hk0:(0:Int)<=(k:Int):=by omega
   have hk1:(k:Int)<(x.cells.length:Int):=by omega
   clear C hv
   have step:((x.c k).color=2->a4c x k)->Hid (∀j,j<k+1->(x.c j).color=2->a4c x j):=λhc j hj=>by
    by_cases e:j=k
    ·rw[e];exact hc
    ·exact HA j (by omega)
   have ST:=uU step;clear step;cases s1:((x.c k).color == 1)
   ·have U2:=uU (show u=(a6h x (k+1)).length by have:=uH hu;unfold a6h at *;rw[a2r _ _ _ (by simpa [a6u] using s1)];exact this);cases s2:((x.c k).color == 2)
    ·have OK:=uH ST (λe=>by rw[e] at s2;simp at s2);go_wp2_with fail;go_roundw
     case rel=>exact⟨k+1,u,by omega,by go_num,rfl,by omega,U2,OK,hbl⟩
     case measure=>simp [intOf];omega
    ·go_wp2_with fail;refine(b3a x b bn (on+k*2) k _ HV1.H.c5 HV1.H.c6 m0).mono ?_;rintro e w2 ⟨rfl,hq⟩;have x2:=hbl.trans hq;cases tb:a0r x k
     ·have N:=uU (show ¬R5 x from λr=>by
       have:=((a8k x).1 r).1 k hlt (by simpa using s2);rw[<-a8g,tb] at this;simp at this)
      go_wp2_with fail;go_ret;exact⟨false,rfl,⟨λf=>by simp at f,λr=>(N r).elim⟩,x2⟩
     ·have OK:=uH ST (λ_=>a8g.1 tb);go_wp2_with fail;go_roundw
      case rel=>exact⟨k+1,u,by omega,by go_num,rfl,by omega,U2,OK,x2⟩
      case measure=>simp [intOf];omega
   ·have U2:=uU (show u+1=(a6h x (k+1)).length by have:=uH hu;unfold a6h at *;rw[a2q _ _ _ (by simpa [a6u] using s1)];simp;exact this);have OK:=uH ST (λe=>by rw[e] at s1;simp at s1);go_wp2_with fail;go_roundw
    case rel=>exact⟨k+1,u+1,by omega,by go_num,by go_num,by omega,U2,OK,hbl⟩
    case measure=>simp [intOf];omega
  ·have hk2:k=x.cells.length:=by omega
   have U:=uU (show u=(a6h x x.cells.length).length by have:=uH hu;rw[hk2] at this;exact this);have A1:=uU (show ∀j,j<x.cells.length->(x.c j).color=2->a4c x j from λj hj=>uH HA j (by omega));clear hk2 hu HA;have h1:=HV.ext hbl;have d8:=h1.H.c8;have HV1:=uU h1;clear h1;go_wp2_with fail;refine(b1n x b _ HV1.H.c5).mono ?_;rintro e w2 ⟨rfl,rfl⟩;cases tm:a1s x
   ·have NM:=uU (show ¬uE x from λm=>by rw[<-a2b,tm] at m;simp at m);by_cases hu0:0<u
    ·have hu0b:(0:Int)<(u:Int):=by omega
     have N:=uU (show ¬R5 x from λr=>by
      have:=((a8k x).1 r).2.1 NM;have:=uH U;omega)
     go_wp2_with fail;go_ret;exact⟨false,rfl,⟨λf=>by simp at f,λr=>(N r).elim⟩,hbl⟩
    ·have hu0b:u=0:=by omega
     subst hu0b;cases tl:((x.gray.length:Int) == 0)
     ·have N:=uU (show ¬R5 x from λr=>by
       have:=((a8k x).1 r).2.2.1;have:=uH U;have tl2:=beq_eq_false_iff_ne.1 tl;omega)
      go_wp2_with fail;go_ret;exact⟨false,rfl,⟨λf=>by simp at f,λr=>(N r).elim⟩,hbl⟩
     ·go_wp2_with fail;refine(a9n x b _ HV1 hn).mono ?_;rintro e w3 ⟨r,rfl,hr,hq⟩;have x3:=hbl.trans hq
      have RR:=uU (show r=true↔R5 x by
       rw[a8k];refine⟨λe=>⟨A1,λ_=>U.symm,?_,(hr.1 e).1,(hr.1 e).2⟩,λq=>hr.2 ⟨q.2.2.2.1,q.2.2.2.2⟩⟩;have:=uH U;simp at tl;rw[tl];exact this)
      clear hr;go_wp2_with fail;go_ret;exact⟨r,rfl,RR,x3⟩
   ·have YM:=uU (a2b.1 tm);cases tl:((x.gray.length:Int) == (u:Int))
    ·have N:=uU (show ¬R5 x from λr=>by
      have:=((a8k x).1 r).2.2.1;have:=uH U;simp at tl;omega)
     go_wp2_with fail;go_ret;exact⟨false,rfl,⟨λf=>by simp at f,λr=>(N r).elim⟩,hbl⟩
    ·go_wp2_with fail;refine(a9n x b _ HV1 hn).mono ?_;rintro e w3 ⟨r,rfl,hr,hq⟩;have x3:=hbl.trans hq
     have RR:=uU (show r=true↔R5 x by
      rw[a8k];refine⟨λe=>⟨A1,λnm=>(nm YM).elim,?_,(hr.1 e).1,(hr.1 e).2⟩,λq=>hr.2 ⟨q.2.2.2.1,q.2.2.2.2⟩⟩;have:=uH U;simp at tl;omega)
     clear hr;go_wp2_with fail;go_ret;exact⟨r,rfl,RR,x3⟩
def a2k(w:World)(x:Hp)(ac:Option Addr):Prop:=∀i,i<x.cells.length->∀bc oc ad l c,ac=some ⟨bc,oc,none⟩->w.cell? ⟨bc,oc+i*8+7,none⟩=some (.slice ad l c)->l<=c\/l=0
theorem a2k.ext{w w':World}{b:Nat}(h:a2k w x ac)(hh:HAt w b x ar kr ac kc ag kg)(e:Ext w w'):a2k w' x ac:=λi hi bc oc ad l c ha hc=>by
 obtain⟨b2,o2,ap,kp,e2,C⟩:=hh.cell i hi;rw[ha] at e2;cases e2;have:=(C.ext e).p7;rw[this] at hc;cases hc;exact h i hi _ _ _ _ _ ha C.p7
theorem a8o(r4:R4 x)(m:uE x)(i k:Nat)(hi:i<x.cells.length)(hk:k<(x.c i).prs.length):
  (uJ ((x.c i).p k).key x.cells.length/\uJ ((x.c i).p k).val x.cells.length)/\(hwB x ((x.c i).p k).key=true↔cX x ((x.c i).p k).key)/\(hwB x ((x.c i).p k).val=true↔cX x ((x.c i).p k).val):=by
 have nd:∀j,¬cL x j:=λj d=>by have:=d.1;unfold uE at m;omega
 have hm:cD x i k:=⟨by unfold uE at m;omega,λe=>by unfold uE at m;omega⟩;have hp:=((r4.2 i hi).2 k hk).2 (nd i)
 have key:∀y:Wd,cZ x y (¬cD x i k)->(hwB x y=true↔cX x y):=λy hl=>by
  unfold cX hwB qJ;simp only [Bool.and_eq_true,beq_iff_eq];constructor
  ·intro h;exact⟨h.1,h.2.2⟩
  ·intro h;refine⟨h.1,?_,h.2⟩;rcases hl.2 h.1 with h2 | h2
   ·exact(h2.2 hm).elim
   ·exact h2.1
 exact⟨⟨hp.1.1,hp.2.1⟩,key _ hp.1,key _ hp.2⟩
theorem a0x(r2:R2 x)(i:Nat)(hi:i<x.cells.length)(h:cQ (x.c i)):(x.c i).st=1:=by
 have:=r2.1 i hi;unfold cQ at h;unfold dN eV a5k at this;omega
def R7b(x:Hp):Prop:=
 (∀i,i<x.cells.length->¬(a0q (x.c i)=true/\qJ (x.c i)=true/\(x.phase=2\/(i:Int)<x.hand))/\((x.c i).color=2->¬∃k,k<(x.c i).prs.length/\(hwB x ((x.c i).p k).key=true\/hwB x ((x.c i).p k).val=true)))
def R7c(x:Hp):Prop:=x.phase=2->x.gray.length≠0->∀k:Nat,k<x.sub.toNat->¬(hwB x ((x.c x.g0).p k).key=true\/hwB x ((x.c x.g0).p k).val=true)
theorem g0_ok(r5:R5 x)(h:x.gray.length≠0):x.g0<x.cells.length/\x.gray.getD 0 0=(x.g0:Int)/\(x.c x.g0).color=1:=by
 have hm:x.gray.getD 0 0∈x.gray:=a3j x.gray 0 (by omega);have:=((a8k x).1 r5).2.2.2.1 _ hm;unfold Hp.g0;exact⟨by omega,by omega,this.2⟩
theorem R7_iff(r2:R2 x)(r4:R4 x)(r5:R5 x)(r6:R6 x)(m:uE x):R7 x↔R7b x/\R7c x:=by
 have mp:=λi k hi hk=>a8o r4 m i k hi hk
 have hsub:x.phase=2->x.gray.length≠0->x.sub<=(x.c x.g0).prs.length:=λp g=>(r6.2.1 p).2.2 g
 constructor
 ·intro h;have h:=h m;refine⟨λi hi=>⟨λ⟨a,b,c⟩=>?_,λhc ⟨k,hk,hw⟩=>?_⟩,λp g k hk hw=>?_⟩
  ·refine(h i hi).1 ⟨a3e.1 a,?_,c⟩;unfold qJ at b;simp at b;exact b.2
  ·have:=(h i hi).2 k (by unfold cN;rw[if_pos hc];exact hk);rcases hw with hw | hw
   ·exact this.1 ((mp i k hi hk).2.1.1 hw)
   ·exact this.2 ((mp i k hi hk).2.2.1 hw)
  ·obtain⟨g1,g2,g3⟩:=g0_ok r5 g;have hs:=hsub p g;have hk2:k<(x.c x.g0).prs.length:=by omega
   have:=(h x.g0 g1).2 k (by unfold cN;rw[if_neg (by omega),if_pos ⟨p,g,g2⟩];exact hk);rcases hw with hw | hw
   ·exact this.1 ((mp _ k g1 hk2).2.1.1 hw)
   ·exact this.2 ((mp _ k g1 hk2).2.2.1 hw)
 ·intro⟨hb,hc⟩ _ i hi;refine⟨λ⟨a,b,c⟩=>(hb i hi).1 ⟨a3e.2 a,?_,c⟩,λk hk=>?_⟩
  ·unfold qJ;simp;exact⟨a0x r2 i hi a,b⟩
  ·unfold cN at hk;by_cases e1:(x.c i).color=2
   ·rw[if_pos e1] at hk;have:=(hb i hi).2 e1;exact⟨λw=>this ⟨k,hk,.inl ((mp i k hi hk).2.1.2 w)⟩,λw=>this ⟨k,hk,.inr ((mp i k hi hk).2.2.2 w)⟩⟩
   ·rw[if_neg e1] at hk;by_cases e2:x.phase=2/\x.gray.length≠0/\x.gray.getD 0 0=(i:Int)
    ·rw[if_pos e2] at hk;obtain⟨g1,g2,g3⟩:=g0_ok r5 e2.2.1;have hig:i=x.g0:=by have:=e2.2.2;omega
     have hs:=hsub e2.1 e2.2.1;have hk2:k<(x.c i).prs.length:=by rw[hig];omega
     have:=hc e2.1 e2.2.1 k hk;rw[<-hig] at this;exact⟨λw=>this (.inl ((mp i k hi hk2).2.1.2 w)),λw=>this (.inr ((mp i k hi hk2).2.2.2 w))⟩
    ·rw[if_neg e2] at hk;omega
theorem c5j(x:Hp)(b:Nat)(w:World)(h:HAt w b x ar kr ac kc ag kg)(q0:uQ x.room 1 4000=true)(q1:((x.regs.length:Int) == 16)=true)(q2:decide ((x.cells.length:Int)<=2*x.room)=true)(q3:decide ((x.gray.length:Int)<=(x.cells.length:Int))=true)(q4:uQ x.born 0 1000000000=true)(q5:uQ x.rounds 0 1000000000=true)(q6:uQ x.forced 0 1000000000=true)(q7:uQ x.per 0 64=true)(q8:uQ x.start 0 4000=true)(q9:uQ x.phase 0 6=true)(q10:uQ x.hand 0 (x.cells.length:Int)=true)(q11:uQ x.sub 0 200=true):
  Calls Tryz.prog 106 #[.pointer (some ⟨b,0,none⟩)] w λe w'=>e=.returned (.bool true)/\Ext w w':=by
 obtain⟨c0,c1,c2,c3,c4,c5,c6,c7,c8,c9,c10,c11,c12,lr,lc,lg,R,C,G⟩:=h;clear R C G;have p0:=uW q0;have p1:(0:Int)<=x.room:=by omega
 have q2b:(x.cells.length:Int)<=2*x.room:=of_decide_eq_true q2;clear q2;have q3b:x.gray.length<=x.cells.length:=by have:=of_decide_eq_true q3;omega
 clear q3;have q1b:(x.regs.length:Int)=16:=by simpa using q1
 clear q1;go_enter Tryz.func106,Tryz.ntmps106;go_wp2_with fail;simp only [List.append];refine wp_region_quiet_lit (by kernel_rfl) a1o ?_
 repeat (go_big_quiet_step ((go_at_call 78;first | (refine Calls.quiet_of_same (uD _ _ _ true ?_ _);assumption) | (refine Calls.quiet_of_same (uD _ _ _ false ?_ _);assumption))))
 refine wpQuiet_nil ?_;intro _ hw';obtain⟨nq,hw''⟩:=hw';subst hw'';go_wp2_with fail;go_ret;exact⟨rfl,Ext.drewN (Ext.refl w) _⟩
theorem c5k(x:Hp)(b:Nat)(w:World)(h:HAt w b x ar kr ac kc ag kg)(q0:uQ x.room 1 4000=true)(q1:((x.regs.length:Int) == 16)=true)(q2:decide ((x.cells.length:Int)<=2*x.room)=true)(q3:decide ((x.gray.length:Int)<=(x.cells.length:Int))=true)(q4:uQ x.born 0 1000000000=true)(q5:uQ x.rounds 0 1000000000=true)(q6:uQ x.forced 0 1000000000=true)(q7:uQ x.per 0 64=true)(q8:uQ x.start 0 4000=true)(q9:uQ x.phase 0 6=true)(q10:uQ x.hand 0 (x.cells.length:Int)=true)(q11:uQ x.sub 0 200=false):
  Calls Tryz.prog 106 #[.pointer (some ⟨b,0,none⟩)] w λe w'=>e=.returned (.bool false)/\Ext w w':=by
 obtain⟨c0,c1,c2,c3,c4,c5,c6,c7,c8,c9,c10,c11,c12,lr,lc,lg,R,C,G⟩:=h;clear R C G;have p0:=uW q0;have p1:(0:Int)<=x.room:=by omega
 have q2b:(x.cells.length:Int)<=2*x.room:=of_decide_eq_true q2;clear q2;have q3b:x.gray.length<=x.cells.length:=by have:=of_decide_eq_true q3;omega
 clear q3;have q1b:(x.regs.length:Int)=16:=by simpa using q1
 clear q1;go_enter Tryz.func106,Tryz.ntmps106;go_wp2_with fail;simp only [List.append];refine wp_region_quiet_lit (by kernel_rfl) a1o ?_
 repeat (go_big_quiet_step ((go_at_call 78;first | (refine Calls.quiet_of_same (uD _ _ _ true ?_ _);assumption) | (refine Calls.quiet_of_same (uD _ _ _ false ?_ _);assumption))))
 refine wpQuiet_nil ?_;intro _ hw';obtain⟨nq,hw''⟩:=hw';subst hw'';go_wp2_with fail;go_ret;exact⟨rfl,Ext.drewN (Ext.refl w) _⟩
theorem c5m(x:Hp)(b:Nat)(w:World)(h:HAt w b x ar kr ac kc ag kg)(q0:uQ x.room 1 4000=true)(q1:((x.regs.length:Int) == 16)=true)(q2:decide ((x.cells.length:Int)<=2*x.room)=true)(q3:decide ((x.gray.length:Int)<=(x.cells.length:Int))=true)(q4:uQ x.born 0 1000000000=true)(q5:uQ x.rounds 0 1000000000=true)(q6:uQ x.forced 0 1000000000=true)(q7:uQ x.per 0 64=true)(q8:uQ x.start 0 4000=true)(q9:uQ x.phase 0 6=true)(q10:uQ x.hand 0 (x.cells.length:Int)=false):
  Calls Tryz.prog 106 #[.pointer (some ⟨b,0,none⟩)] w λe w'=>e=.returned (.bool false)/\Ext w w':=by
 obtain⟨c0,c1,c2,c3,c4,c5,c6,c7,c8,c9,c10,c11,c12,lr,lc,lg,R,C,G⟩:=h;clear R C G;have p0:=uW q0;have p1:(0:Int)<=x.room:=by omega
 have q2b:(x.cells.length:Int)<=2*x.room:=of_decide_eq_true q2;clear q2;have q3b:x.gray.length<=x.cells.length:=by have:=of_decide_eq_true q3;omega
 clear q3;have q1b:(x.regs.length:Int)=16:=by simpa using q1
 clear q1;go_enter Tryz.func106,Tryz.ntmps106;go_wp2_with fail;simp only [List.append];refine wp_region_quiet_lit (by kernel_rfl) a1o ?_
 repeat (go_big_quiet_step ((go_at_call 78;first | (refine Calls.quiet_of_same (uD _ _ _ true ?_ _);assumption) | (refine Calls.quiet_of_same (uD _ _ _ false ?_ _);assumption))))
 refine wpQuiet_nil ?_;intro _ hw';obtain⟨nq,hw''⟩:=hw';subst hw'';go_wp2_with fail;go_ret;exact⟨rfl,Ext.drewN (Ext.refl w) _⟩
theorem c7v(x:Hp)(b:Nat)(w:World)(h:HAt w b x ar kr ac kc ag kg)(q0:uQ x.room 1 4000=true)(q1:((x.regs.length:Int) == 16)=true)(q2:decide ((x.cells.length:Int)<=2*x.room)=true)(q3:decide ((x.gray.length:Int)<=(x.cells.length:Int))=true)(q4:uQ x.born 0 1000000000=true)(q5:uQ x.rounds 0 1000000000=true)(q6:uQ x.forced 0 1000000000=true)(q7:uQ x.per 0 64=true)(q8:uQ x.start 0 4000=true)(q9:uQ x.phase 0 6=false):
  Calls Tryz.prog 106 #[.pointer (some ⟨b,0,none⟩)] w λe w'=>e=.returned (.bool false)/\Ext w w':=by
 obtain⟨c0,c1,c2,c3,c4,c5,c6,c7,c8,c9,c10,c11,c12,lr,lc,lg,R,C,G⟩:=h;clear R C G;have p0:=uW q0;have p1:(0:Int)<=x.room:=by omega
 have q2b:(x.cells.length:Int)<=2*x.room:=of_decide_eq_true q2;clear q2;have q3b:x.gray.length<=x.cells.length:=by have:=of_decide_eq_true q3;omega
 clear q3;have q1b:(x.regs.length:Int)=16:=by simpa using q1
 clear q1;go_enter Tryz.func106,Tryz.ntmps106;go_wp2_with fail;simp only [List.append];refine wp_region_quiet_lit (by kernel_rfl) a1o ?_
 repeat (go_big_quiet_step ((go_at_call 78;first | (refine Calls.quiet_of_same (uD _ _ _ true ?_ _);assumption) | (refine Calls.quiet_of_same (uD _ _ _ false ?_ _);assumption))))
 refine wpQuiet_nil ?_;intro _ hw';obtain⟨nq,hw''⟩:=hw';subst hw'';go_wp2_with fail;go_ret;exact⟨rfl,Ext.drewN (Ext.refl w) _⟩
theorem c7w(x:Hp)(b:Nat)(w:World)(h:HAt w b x ar kr ac kc ag kg)(q0:uQ x.room 1 4000=true)(q1:((x.regs.length:Int) == 16)=true)(q2:decide ((x.cells.length:Int)<=2*x.room)=true)(q3:decide ((x.gray.length:Int)<=(x.cells.length:Int))=true)(q4:uQ x.born 0 1000000000=true)(q5:uQ x.rounds 0 1000000000=true)(q6:uQ x.forced 0 1000000000=true)(q7:uQ x.per 0 64=true)(q8:uQ x.start 0 4000=false):
  Calls Tryz.prog 106 #[.pointer (some ⟨b,0,none⟩)] w λe w'=>e=.returned (.bool false)/\Ext w w':=by
 obtain⟨c0,c1,c2,c3,c4,c5,c6,c7,c8,c9,c10,c11,c12,lr,lc,lg,R,C,G⟩:=h;clear R C G;have p0:=uW q0;have p1:(0:Int)<=x.room:=by omega
 have q2b:(x.cells.length:Int)<=2*x.room:=of_decide_eq_true q2;clear q2;have q3b:x.gray.length<=x.cells.length:=by have:=of_decide_eq_true q3;omega
 clear q3;have q1b:(x.regs.length:Int)=16:=by simpa using q1
 clear q1;go_enter Tryz.func106,Tryz.ntmps106;go_wp2_with fail;simp only [List.append];refine wp_region_quiet_lit (by kernel_rfl) a1o ?_
 repeat (go_big_quiet_step ((go_at_call 78;first | (refine Calls.quiet_of_same (uD _ _ _ true ?_ _);assumption) | (refine Calls.quiet_of_same (uD _ _ _ false ?_ _);assumption))))
 refine wpQuiet_nil ?_;intro _ hw';obtain⟨nq,hw''⟩:=hw';subst hw'';go_wp2_with fail;go_ret;exact⟨rfl,Ext.drewN (Ext.refl w) _⟩
theorem c7x(x:Hp)(b:Nat)(w:World)(h:HAt w b x ar kr ac kc ag kg)(q0:uQ x.room 1 4000=false):
  Calls Tryz.prog 106 #[.pointer (some ⟨b,0,none⟩)] w λe w'=>e=.returned (.bool false)/\Ext w w':=by
 obtain⟨c0,c1,c2,c3,c4,c5,c6,c7,c8,c9,c10,c11,c12,lr,lc,lg,R,C,G⟩:=h;clear R C G;go_enter Tryz.func106,Tryz.ntmps106;go_wp2_with fail;simp only [List.append];refine wp_region_quiet_lit (by kernel_rfl) a1o ?_
 repeat (go_big_quiet_step ((go_at_call 78;first | (refine Calls.quiet_of_same (uD _ _ _ true ?_ _);assumption) | (refine Calls.quiet_of_same (uD _ _ _ false ?_ _);assumption))))
 refine wpQuiet_nil ?_;intro _ hw';obtain⟨nq,hw''⟩:=hw';subst hw'';go_wp2_with fail;go_ret;exact⟨rfl,Ext.drewN (Ext.refl w) _⟩
theorem c7y(x:Hp)(b:Nat)(w:World)(h:HAt w b x ar kr ac kc ag kg)(q0:uQ x.room 1 4000=true)(q1:((x.regs.length:Int) == 16)=false):
  Calls Tryz.prog 106 #[.pointer (some ⟨b,0,none⟩)] w λe w'=>e=.returned (.bool false)/\Ext w w':=by
 obtain⟨c0,c1,c2,c3,c4,c5,c6,c7,c8,c9,c10,c11,c12,lr,lc,lg,R,C,G⟩:=h;clear R C G;go_enter Tryz.func106,Tryz.ntmps106;go_wp2_with fail;simp only [List.append];refine wp_region_quiet_lit (by kernel_rfl) a1o ?_
 repeat (go_big_quiet_step ((go_at_call 78;first | (refine Calls.quiet_of_same (uD _ _ _ true ?_ _);assumption) | (refine Calls.quiet_of_same (uD _ _ _ false ?_ _);assumption))))
 refine wpQuiet_nil ?_;intro _ hw';obtain⟨nq,hw''⟩:=hw';subst hw'';go_wp2_with fail;go_ret;exact⟨rfl,Ext.drewN (Ext.refl w) _⟩
theorem c7z(x:Hp)(b:Nat)(w:World)(h:HAt w b x ar kr ac kc ag kg)(q0:uQ x.room 1 4000=true)(q1:((x.regs.length:Int) == 16)=true)(q2:decide ((x.cells.length:Int)<=2*x.room)=true)(q3:decide ((x.gray.length:Int)<=(x.cells.length:Int))=true)(q4:uQ x.born 0 1000000000=true)(q5:uQ x.rounds 0 1000000000=true)(q6:uQ x.forced 0 1000000000=true)(q7:uQ x.per 0 64=false):
  Calls Tryz.prog 106 #[.pointer (some ⟨b,0,none⟩)] w λe w'=>e=.returned (.bool false)/\Ext w w':=by
 obtain⟨c0,c1,c2,c3,c4,c5,c6,c7,c8,c9,c10,c11,c12,lr,lc,lg,R,C,G⟩:=h;clear R C G;have p0:=uW q0;have p1:(0:Int)<=x.room:=by omega
 have q2b:(x.cells.length:Int)<=2*x.room:=of_decide_eq_true q2;clear q2;have q3b:x.gray.length<=x.cells.length:=by have:=of_decide_eq_true q3;omega
 clear q3;have q1b:(x.regs.length:Int)=16:=by simpa using q1
 clear q1;go_enter Tryz.func106,Tryz.ntmps106;go_wp2_with fail;simp only [List.append];refine wp_region_quiet_lit (by kernel_rfl) a1o ?_
 repeat (go_big_quiet_step ((go_at_call 78;first | (refine Calls.quiet_of_same (uD _ _ _ true ?_ _);assumption) | (refine Calls.quiet_of_same (uD _ _ _ false ?_ _);assumption))))
 refine wpQuiet_nil ?_;intro _ hw';obtain⟨nq,hw''⟩:=hw';subst hw'';go_wp2_with fail;go_ret;exact⟨rfl,Ext.drewN (Ext.refl w) _⟩
theorem c8a(x:Hp)(b:Nat)(w:World)(h:HAt w b x ar kr ac kc ag kg)(q0:uQ x.room 1 4000=true)(q1:((x.regs.length:Int) == 16)=true)(q2:decide ((x.cells.length:Int)<=2*x.room)=true)(q3:decide ((x.gray.length:Int)<=(x.cells.length:Int))=true)(q4:uQ x.born 0 1000000000=true)(q5:uQ x.rounds 0 1000000000=true)(q6:uQ x.forced 0 1000000000=false):
  Calls Tryz.prog 106 #[.pointer (some ⟨b,0,none⟩)] w λe w'=>e=.returned (.bool false)/\Ext w w':=by
 obtain⟨c0,c1,c2,c3,c4,c5,c6,c7,c8,c9,c10,c11,c12,lr,lc,lg,R,C,G⟩:=h;clear R C G;have p0:=uW q0;have p1:(0:Int)<=x.room:=by omega
 have q2b:(x.cells.length:Int)<=2*x.room:=of_decide_eq_true q2;clear q2;have q3b:x.gray.length<=x.cells.length:=by have:=of_decide_eq_true q3;omega
 clear q3;have q1b:(x.regs.length:Int)=16:=by simpa using q1
 clear q1;go_enter Tryz.func106,Tryz.ntmps106;go_wp2_with fail;simp only [List.append];refine wp_region_quiet_lit (by kernel_rfl) a1o ?_
 repeat (go_big_quiet_step ((go_at_call 78;first | (refine Calls.quiet_of_same (uD _ _ _ true ?_ _);assumption) | (refine Calls.quiet_of_same (uD _ _ _ false ?_ _);assumption))))
 refine wpQuiet_nil ?_;intro _ hw';obtain⟨nq,hw''⟩:=hw';subst hw'';go_wp2_with fail;go_ret;exact⟨rfl,Ext.drewN (Ext.refl w) _⟩
theorem c8b(x:Hp)(b:Nat)(w:World)(h:HAt w b x ar kr ac kc ag kg)(q0:uQ x.room 1 4000=true)(q1:((x.regs.length:Int) == 16)=true)(q2:decide ((x.cells.length:Int)<=2*x.room)=true)(q3:decide ((x.gray.length:Int)<=(x.cells.length:Int))=true)(q4:uQ x.born 0 1000000000=true)(q5:uQ x.rounds 0 1000000000=false):
  Calls Tryz.prog 106 #[.pointer (some ⟨b,0,none⟩)] w λe w'=>e=.returned (.bool false)/\Ext w w':=by
 obtain⟨c0,c1,c2,c3,c4,c5,c6,c7,c8,c9,c10,c11,c12,lr,lc,lg,R,C,G⟩:=h;clear R C G;have p0:=uW q0;have p1:(0:Int)<=x.room:=by omega
 have q2b:(x.cells.length:Int)<=2*x.room:=of_decide_eq_true q2;clear q2;have q3b:x.gray.length<=x.cells.length:=by have:=of_decide_eq_true q3;omega
 clear q3;have q1b:(x.regs.length:Int)=16:=by simpa using q1
 clear q1;go_enter Tryz.func106,Tryz.ntmps106;go_wp2_with fail;simp only [List.append];refine wp_region_quiet_lit (by kernel_rfl) a1o ?_
 repeat (go_big_quiet_step ((go_at_call 78;first | (refine Calls.quiet_of_same (uD _ _ _ true ?_ _);assumption) | (refine Calls.quiet_of_same (uD _ _ _ false ?_ _);assumption))))
 refine wpQuiet_nil ?_;intro _ hw';obtain⟨nq,hw''⟩:=hw';subst hw'';go_wp2_with fail;go_ret;exact⟨rfl,Ext.drewN (Ext.refl w) _⟩
end Go.Proofs.YtddkhnclmeikfaaGreat
