import Derived.Test.YtddkhnclmeikfaaGreatImpO
set_option maxRecDepth 100000
set_option maxHeartbeats 4000000
namespace Go.Proofs.YtddkhnclmeikfaaGreat
open Go.RowKit
attribute [local go_sem ↓] Go.wp_at_zero Go.wp_at_succ
variable{x:Hp}{n op a b c:Int}{w W w' W':World}{kr k i kc kg B g kn j:Nat}{ar ac ag an:Option Addr}{L0 T L T':List Int}{y:Wd}
theorem a2d:a1q x=true↔uE x:=by simp [a1q,uE]
theorem a7z(x:Hp)(b:Nat)(s:Bool)(hs:a1q x=s)(w:World)(c5:w.cell? ⟨b,5,none⟩=some (iv x.phase)):
  Calls Tryz.prog 145 #[.pointer (some ⟨b,0,none⟩)] w λe w'=>e=.returned (.bool s)/\w'=w:=by
 rw[<-hs];exact b0q x b w c5
def a0s(x:Hp)(i:Nat):Bool:=a1q x || ((x.phase == 3) && decide (x.hand<=(i:Int)))
theorem a7o:a0s x i=true↔a3s x i:=by
 simp [a0s,a3s,a2d]
theorem b2m(x:Hp)(b bn q i:Nat)(w:World)(c5:w.cell? ⟨b,5,none⟩=some (iv x.phase))(c6:w.cell? ⟨b,6,none⟩=some (iv x.hand))(m0:w.cell? ⟨bn,q,none⟩=some (iv i)):
  Calls Tryz.prog 180 #[.pointer (some ⟨b,0,none⟩),.pointer (some ⟨bn,q,none⟩)] w λe w'=>e=.returned (.bool (a0s x i))/\Ext w w':=by
 have HM:=uU (λn s (hs:a1q x=s)=>a7z x b s hs (w.drewN n) (((Ext.refl w).drewN n).keep c5));cases t1:a1q x
 ·cases t2:(x.phase == 3)
  ·have E:=uU (show a0s x i=false by simp [a0s,t1,t2]);go_enter Tryz.func180,Tryz.ntmps180;go_wp2_with fail;go_quiet ((go_at_call 145;exact Calls.quiet_of_same (HM _ _ t1)));go_wp2_with fail;go_ret;exact⟨by rw[uH E];rfl,(Ext.refl w).drewN _⟩
  ·by_cases t3:x.hand<=(i:Int)
   ·have E:=uU (show a0s x i=true by simp [a0s,t2,t3]);go_enter Tryz.func180,Tryz.ntmps180;go_wp2_with fail;go_quiet ((go_at_call 145;exact Calls.quiet_of_same (HM _ _ t1)));go_wp2_with fail;go_ret;exact⟨by rw[uH E];rfl,(Ext.refl w).drewN _⟩
   ·have E:=uU (show a0s x i=false by simp [a0s,t1];omega);have t3b:decide (x.hand<=(i:Int))=false:=decide_eq_false t3;clear t3;go_enter Tryz.func180,Tryz.ntmps180;go_wp2_with fail;go_quiet ((go_at_call 145;exact Calls.quiet_of_same (HM _ _ t1)));go_wp2_with fail;go_ret;exact⟨by rw[uH E];rfl,(Ext.refl w).drewN _⟩
 ·have E:=uU (show a0s x i=true by simp [a0s,t1]);go_enter Tryz.func180,Tryz.ntmps180;go_wp2_with fail;go_quiet ((go_at_call 145;exact Calls.quiet_of_same (HM _ _ t1)));go_wp2_with fail;go_ret;exact⟨by rw[uH E];rfl,(Ext.refl w).drewN _⟩
def b5i(x:Hp):Prop:=(∀g,g∈x.gray->(0<=g/\g<x.cells.length)/\(x.c g.toNat).color=1)/\x.gray.Nodup
theorem b5j(x:Hp)(k:Nat)(h:k<x.gray.length):x.gray[k]=it x.gray k:=a8h _ _ h
theorem a9b(x:Hp)(b:Nat)(w:World)(h:VAt w b x ar kr ac kc ag kg an kn)(hn:x.gray.length<=8000):
  Calls Tryz.prog 181 #[.pointer (some ⟨b,0,none⟩)] w λe w'=>∃r:Bool,Hid (e=.returned (.bool r))/\(r=true↔b5i x)/\Ext w w':=by
 have c8:=h.H.c8;have hb:b<w.heap.size:=uL c8;have lc:=h.H.lc;have HV:=uU h;clear h;go_enter Tryz.func181,Tryz.ntmps181;go_wp2_with fail;go_loopw [12] (λi wr=>∃(k:Nat) (v1:Value) (L1:List Int),k<=x.gray.length/\i=.int .i64 k/\Hid (∀j,j<k->(0<=it x.gray j/\it x.gray j<x.cells.length)/\(x.c (it x.gray j).toNat).color=1)/\eX wr w.heap.size w.heap.size 0 v1 L1/\Ho L1/\L1.Perm (x.gray.take k)/\Ext w wr) (λi _=>x.gray.length-(intOf i).toNat)
 case atStart=>exact⟨0,_,[],Nat.zero_le _,rfl,λj hj=>by omega,eX.nil (by simp [go_sem]) (by simp [go_sem]),Ho.nil,by simp,(Ext.refl w).alloc _⟩
 case round=>
  clear c8;obtain⟨k,v1,L1,hk,rfl,HA,ls,ho,hp,hbl⟩:=hrel;have HLS:=uU ls;have HO:=uU ho;have HP:=uU hp;have hlen:L1.length<=1000000000:=by have:=hp.length_eq;simp at this;omega
  clear ls ho hp;by_cases hlt:k<x.gray.length
  ·have hv:=HV.ext hbl;obtain⟨bg,og,rfl,pg⟩:=hv.H.G k hlt;unfold yQ at pg;rw[b5j x k hlt] at pg;have d13:=hv.n13;have HV1:=uU hv;have hk0:(0:Int)<=(k:Int):=by omega
   have hk1:(k:Int)<(x.gray.length:Int):=by omega
   obtain⟨y,hy⟩:∃z,it x.gray k=z:=⟨_,rfl⟩;rw[hy] at pg;have HY:=uU hy;have MEM:=uU (show y∈x.gray by rw[<-hy];exact a2m _ _ hlt);have hbs:w.heap.size<=wr.heap.size:=hbl.size;clear hv hy;simp only [Nat.mul_one] at pg;cases t1:uZ y 0 ((x.cells.length:Int)-1)
   ·have N:=uU (show ¬b5i x from λr=>by have:=a0a t1;have:=(r.1 y MEM).1;omega);go_wp2_with fail;refine(uD _ _ _ false t1 _).mono ?_;rintro e w2 ⟨rfl,rfl⟩;go_wp2_with fail;go_ret;exact⟨false,rfl,⟨λf=>by simp at f,λr=>(N r).elim⟩,hbl⟩
   ·obtain⟨i,hi⟩:∃i:Nat,y=(i:Int):=⟨y.toNat,by have:=uJ t1;omega⟩;subst hi;have hin:i<x.cells.length:=by have:=uJ t1;omega
    obtain⟨bn,on,bc,oc,e1,e2,m0,m1⟩:=HV1.N i hin;subst e1;subst e2;obtain⟨bc2,oc2,ap,kp,e3,C⟩:=HV1.H.cell i hin;cases e3;have p5:=C.p5;have hi0:(0:Int)<=(i:Int):=by omega
    have hi1:(i:Int)<(x.cells.length:Int):=by omega
    clear C m0;cases t2:((x.c i).color == 1)
    ·have t2b:((x.c i).color != 1)=true:=by simpa using t2
     have N:=uU (show ¬b5i x from λr=>by have:=(r.1 _ MEM).2;simp at this t2;omega);go_wp2_with fail;refine(uD _ _ _ true t1 _).mono ?_;rintro e w2 ⟨rfl,rfl⟩;go_wp2_with fail;go_ret;exact⟨false,rfl,⟨λf=>by simp at f,λr=>(N r).elim⟩,hbl⟩
    ·have t2b:((x.c i).color != 1)=false:=by simpa using t2
     have OK:=uU (show ∀j,j<k+1->(0<=it x.gray j/\it x.gray j<x.cells.length)/\(x.c (it x.gray j).toNat).color=1 from λj hj=>by
      by_cases e:j=k
      ·rw[e,uH HY];exact⟨⟨hi0,hi1⟩,by simpa using t2⟩
      ·exact HA j (by omega))
     have TK:=uU (show x.gray.take (k+1)=x.gray.take k++[(i:Int)] by
      rw[<-uH HY,<-b5j x k hlt];exact(List.take_append_getElem hlt).symm)
     go_wp2_with fail;refine(uD _ _ _ true t1 _).mono ?_;rintro e w2 ⟨rfl,rfl⟩;go_wp2_with fail;refine(b2j _ w.heap.size w.heap.size 0 v1 L1 (i:Int) HLS hbs HO (by omega)).mono ?_;rintro e w3 ⟨rfl,v3,L3,l3,o3,p3,q3⟩
     have R:=uU (show eX w3 w.heap.size w.heap.size 0 v3 L3/\Ho L3/\L3.Perm (x.gray.take (k+1))/\Ext w w3 from
      ⟨l3,o3,by rw[uH TK];exact(p3.trans (HP.cons _)).trans (List.perm_append_singleton _ _).symm,q3.ext hbl (Nat.le_refl _) (λk hk=>(HLS.rlt k hk).1)⟩)
     clear l3 o3 p3 q3;go_wp2_with fail;go_roundw
     case rel=>exact⟨k+1,v3,L3,by omega,by go_num,OK,R⟩
     case measure=>simp [intOf];omega
  ·have hk2:k=x.gray.length:=by omega
   have P1:=uU (show L1.Nodup↔x.gray.Nodup by have:=uH HP;rw[hk2,List.take_length] at this;exact this.nodup_iff)
   have A1:=uU (show ∀g,g∈x.gray->(0<=g/\g<x.cells.length)/\(x.c g.toNat).color=1 from λg hg=>by
    obtain⟨j,hj,e⟩:=List.getElem_of_mem hg;rw[b5j x j hj] at e;rw[<-e];exact HA j (by omega))
   clear hk2;go_wp2_with fail;refine(b2k _ w.heap.size w.heap.size 0 v1 L1 HLS HO hlen).mono ?_;rintro e w2 ⟨r,rfl,hr,v3,q3⟩;have E2:=uU (q3.ext hbl (Nat.le_refl _) (λk hk=>(HLS.rlt k hk).1));have RR:=uU (show r=true↔b5i x from⟨λe=>⟨A1,P1.1 (hr.1 e)⟩,λq=>hr.2 (P1.2 q.2)⟩);clear q3 hr;go_wp2_with fail;go_ret;exact⟨r,rfl,RR,E2⟩
theorem b2n(x:Hp)(b:Nat)(w:World)(h:VAt w b x ar kr ac kc ag kg an kn)(hn:x.gray.length<=8000)(hc:x.cells.length<=8000):
  Calls Tryz.prog 111 #[.pointer (some ⟨b,0,none⟩)] w λe w'=>∃r:Bool,Hid (e=.returned (.bool r))/\(r=true↔R5 x)/\Ext w w':=by
 have n13:=h.n13;have c8:=h.H.c8;have HV:=uU h;clear h;go_enter Tryz.func111,Tryz.ntmps111;go_wp2_with fail;go_loopw [3,11] (λs i wr=>∃(k u:Nat),k<=x.cells.length/\i=.int .i64 k/\s=.int .i64 u/\u<=k/\Hid (u=(a5j x k).length)/\Hid (∀j,j<k->(x.c j).color=2->a3s x j)/\Ext w wr) (λ_ i _=>x.cells.length-(intOf i).toNat)
 case atStart=>exact⟨0,0,Nat.zero_le _,rfl,rfl,Nat.le_refl _,rfl,λj hj=>by omega,Ext.refl _⟩
 case round=>
  clear n13;obtain⟨k,u,hk,rfl,rfl,huk,hu,HA,hbl⟩:=hrel;by_cases hlt:k<x.cells.length
  ·have hv:=HV.ext hbl;obtain⟨bn,on,bc,oc,rfl,rfl,m0,m1⟩:=hv.N k hlt;obtain⟨bc2,oc2,ap,kp,e2,C⟩:=hv.H.cell k hlt;cases e2;have p5:=C.p5;have d13:=hv.n13;have HV1:=uU hv;have hk0:(0:Int)<=(k:Int):=by omega
   have hk1:(k:Int)<(x.cells.length:Int):=by omega
   clear C hv
   have step:((x.c k).color=2->a3s x k)->Hid (∀j,j<k+1->(x.c j).color=2->a3s x j):=λhc j hj=>by
    by_cases e:j=k
    ·rw[e];exact hc
    ·exact HA j (by omega)
   have ST:=uU step;clear step;cases s1:((x.c k).color == 1)
   ·have U2:=uU (show u=(a5j x (k+1)).length by have:=uH hu;unfold a5j at *;rw[a2p _ _ _ (by simpa [a6b] using s1)];exact this);cases s2:((x.c k).color == 2)
    ·have OK:=uH ST (λe=>by rw[e] at s2;simp at s2);go_wp2_with fail;go_roundw
     case rel=>exact⟨k+1,u,by omega,by go_num,rfl,by omega,U2,OK,hbl⟩
     case measure=>simp [intOf];omega
    ·go_wp2_with fail;refine(b2m x b bn (on+k*2) k _ HV1.H.c5 HV1.H.c6 m0).mono ?_;rintro e w2 ⟨rfl,hq⟩;have x2:=hbl.trans hq;cases tb:a0s x k
     ·have N:=uU (show ¬R5 x from λr=>by
       have:=((a7x x).1 r).1 k hlt (by simpa using s2);rw[<-a7o,tb] at this;simp at this)
      go_wp2_with fail;go_ret;exact⟨false,rfl,⟨λf=>by simp at f,λr=>(N r).elim⟩,x2⟩
     ·have OK:=uH ST (λ_=>a7o.1 tb);go_wp2_with fail;go_roundw
      case rel=>exact⟨k+1,u,by omega,by go_num,rfl,by omega,U2,OK,x2⟩
      case measure=>simp [intOf];omega
   ·have U2:=uU (show u+1=(a5j x (k+1)).length by have:=uH hu;unfold a5j at *;rw[a2o _ _ _ (by simpa [a6b] using s1)];simp;exact this);have OK:=uH ST (λe=>by rw[e] at s1;simp at s1);go_wp2_with fail;go_roundw
    case rel=>exact⟨k+1,u+1,by omega,by go_num,by go_num,by omega,U2,OK,hbl⟩
    case measure=>simp [intOf];omega
  ·have hk2:k=x.cells.length:=by omega
   have U:=uU (show u=(a5j x x.cells.length).length by have:=uH hu;rw[hk2] at this;exact this);have A1:=uU (show ∀j,j<x.cells.length->(x.c j).color=2->a3s x j from λj hj=>uH HA j (by omega));clear hk2 hu HA;have h1:=HV.ext hbl;have d8:=h1.H.c8;have HV1:=uU h1;clear h1;go_wp2_with fail;refine(b0q x b _ HV1.H.c5).mono ?_;rintro e w2 ⟨rfl,rfl⟩;cases tm:a1q x
   ·have NM:=uU (show ¬uE x from λm=>by rw[<-a2d,tm] at m;simp at m);by_cases hu0:0<u
    ·have hu0b:(0:Int)<(u:Int):=by omega
     have N:=uU (show ¬R5 x from λr=>by
      have:=((a7x x).1 r).2.1 NM;have:=uH U;omega)
     go_wp2_with fail;go_ret;exact⟨false,rfl,⟨λf=>by simp at f,λr=>(N r).elim⟩,hbl⟩
    ·have hu0b:u=0:=by omega
     subst hu0b;cases tl:((x.gray.length:Int) == 0)
     ·have N:=uU (show ¬R5 x from λr=>by
       have:=((a7x x).1 r).2.2.1;have:=uH U;have tl2:=beq_eq_false_iff_ne.1 tl;omega)
      go_wp2_with fail;go_ret;exact⟨false,rfl,⟨λf=>by simp at f,λr=>(N r).elim⟩,hbl⟩
     ·go_wp2_with fail;refine(a9b x b _ HV1 hn).mono ?_;rintro e w3 ⟨r,rfl,hr,hq⟩;have x3:=hbl.trans hq
      have RR:=uU (show r=true↔R5 x by
       rw[a7x];refine⟨λe=>⟨A1,λ_=>U.symm,?_,(hr.1 e).1,(hr.1 e).2⟩,λq=>hr.2 ⟨q.2.2.2.1,q.2.2.2.2⟩⟩;have:=uH U;simp at tl;rw[tl];exact this)
      clear hr;go_wp2_with fail;go_ret;exact⟨r,rfl,RR,x3⟩
   ·have YM:=uU (a2d.1 tm);cases tl:((x.gray.length:Int) == (u:Int))
    ·have N:=uU (show ¬R5 x from λr=>by
      have:=((a7x x).1 r).2.2.1;have:=uH U;simp at tl;omega)
     go_wp2_with fail;go_ret;exact⟨false,rfl,⟨λf=>by simp at f,λr=>(N r).elim⟩,hbl⟩
    ·go_wp2_with fail;refine(a9b x b _ HV1 hn).mono ?_;rintro e w3 ⟨r,rfl,hr,hq⟩;have x3:=hbl.trans hq
     have RR:=uU (show r=true↔R5 x by
      rw[a7x];refine⟨λe=>⟨A1,λnm=>(nm YM).elim,?_,(hr.1 e).1,(hr.1 e).2⟩,λq=>hr.2 ⟨q.2.2.2.1,q.2.2.2.2⟩⟩;have:=uH U;simp at tl;omega)
     clear hr;go_wp2_with fail;go_ret;exact⟨r,rfl,RR,x3⟩
def a4d(w:World)(x:Hp)(ac:Option Addr):Prop:=∀i,i<x.cells.length->∀bc oc ad l c,ac=some ⟨bc,oc,none⟩->w.cell? ⟨bc,oc+i*8+7,none⟩=some (.slice ad l c)->l<=c\/l=0
theorem a4d.ext{b:Nat}(h:a4d w x ac)(hh:HAt w b x ar kr ac kc ag kg)(e:Ext w w'):a4d w' x ac:=λi hi bc oc ad l c ha hc=>by
 obtain⟨b2,o2,ap,kp,e2,C⟩:=hh.cell i hi;rw[ha] at e2;cases e2;have:=(C.ext e).p7;rw[this] at hc;cases hc;exact h i hi _ _ _ _ _ ha C.p7
theorem a8a(r4:R4 x)(m:uE x)(i k:Nat)(hi:i<x.cells.length)(hk:k<(x.c i).prs.length):
  (uK ((x.c i).p k).key x.cells.length/\uK ((x.c i).p k).val x.cells.length)/\(hwB x ((x.c i).p k).key=true↔cQ x ((x.c i).p k).key)/\(hwB x ((x.c i).p k).val=true↔cQ x ((x.c i).p k).val):=by
 have nd:∀j,¬cU x j:=λj d=>by have:=d.1;unfold uE at m;omega
 have hm:cX x i k:=⟨by unfold uE at m;omega,λe=>by unfold uE at m;omega⟩;have hp:=((r4.2 i hi).2 k hk).2 (nd i)
 have key:∀y:Wd,cN x y (¬cX x i k)->(hwB x y=true↔cQ x y):=λy hl=>by
  unfold cQ hwB zC;simp only [Bool.and_eq_true,beq_iff_eq];constructor
  ·intro h;exact⟨h.1,h.2.2⟩
  ·intro h;refine⟨h.1,?_,h.2⟩;rcases hl.2 h.1 with h2 | h2
   ·exact(h2.2 hm).elim
   ·exact h2.1
 exact⟨⟨hp.1.1,hp.2.1⟩,key _ hp.1,key _ hp.2⟩
theorem a2z(r2:R2 x)(i:Nat)(hi:i<x.cells.length)(h:cY (x.c i)):(x.c i).st=1:=by
 have:=r2.1 i hi;unfold cY at h;unfold cE eD yX at this;omega
def R7b(x:Hp):Prop:=
 (∀i,i<x.cells.length->¬(a1n (x.c i)=true/\zC (x.c i)=true/\(x.phase=2\/(i:Int)<x.hand))/\((x.c i).color=2->¬∃k,k<(x.c i).prs.length/\(hwB x ((x.c i).p k).key=true\/hwB x ((x.c i).p k).val=true)))
def R7c(x:Hp):Prop:=x.phase=2->x.gray.length≠0->∀k:Nat,k<x.sub.toNat->¬(hwB x ((x.c x.g0).p k).key=true\/hwB x ((x.c x.g0).p k).val=true)
theorem g0_ok(r5:R5 x)(h:x.gray.length≠0):x.g0<x.cells.length/\x.gray.getD 0 0=(x.g0:Int)/\(x.c x.g0).color=1:=by
 have hm:x.gray.getD 0 0∈x.gray:=a2m x.gray 0 (by omega);have:=((a7x x).1 r5).2.2.2.1 _ hm;unfold Hp.g0;exact⟨by omega,by omega,this.2⟩
theorem R7_iff(r2:R2 x)(r4:R4 x)(r5:R5 x)(r6:R6 x)(m:uE x):R7 x↔R7b x/\R7c x:=by
 have mp:=λi k hi hk=>a8a r4 m i k hi hk
 have hsub:x.phase=2->x.gray.length≠0->x.sub<=(x.c x.g0).prs.length:=λp g=>(r6.2.1 p).2.2 g
 constructor
 ·intro h;have h:=h m;refine⟨λi hi=>⟨λ⟨a,b,c⟩=>?_,λhc ⟨k,hk,hw⟩=>?_⟩,λp g k hk hw=>?_⟩
  ·refine(h i hi).1 ⟨a4c.1 a,?_,c⟩;unfold zC at b;simp at b;exact b.2
  ·have:=(h i hi).2 k (by unfold cC;rw[if_pos hc];exact hk);rcases hw with hw | hw
   ·exact this.1 ((mp i k hi hk).2.1.1 hw)
   ·exact this.2 ((mp i k hi hk).2.2.1 hw)
  ·obtain⟨g1,g2,g3⟩:=g0_ok r5 g;have hs:=hsub p g;have hk2:k<(x.c x.g0).prs.length:=by omega
   have:=(h x.g0 g1).2 k (by unfold cC;rw[if_neg (by omega),if_pos ⟨p,g,g2⟩];exact hk);rcases hw with hw | hw
   ·exact this.1 ((mp _ k g1 hk2).2.1.1 hw)
   ·exact this.2 ((mp _ k g1 hk2).2.2.1 hw)
 ·intro⟨hb,hc⟩ _ i hi;refine⟨λ⟨a,b,c⟩=>(hb i hi).1 ⟨a4c.2 a,?_,c⟩,λk hk=>?_⟩
  ·unfold zC;simp;exact⟨a2z r2 i hi a,b⟩
  ·unfold cC at hk;by_cases e1:(x.c i).color=2
   ·rw[if_pos e1] at hk;have:=(hb i hi).2 e1;exact⟨λw=>this ⟨k,hk,.inl ((mp i k hi hk).2.1.2 w)⟩,λw=>this ⟨k,hk,.inr ((mp i k hi hk).2.2.2 w)⟩⟩
   ·rw[if_neg e1] at hk;by_cases e2:x.phase=2/\x.gray.length≠0/\x.gray.getD 0 0=(i:Int)
    ·rw[if_pos e2] at hk;obtain⟨g1,g2,g3⟩:=g0_ok r5 e2.2.1;have hig:i=x.g0:=by have:=e2.2.2;omega
     have hs:=hsub e2.1 e2.2.1;have hk2:k<(x.c i).prs.length:=by rw[hig];omega
     have:=hc e2.1 e2.2.1 k hk;rw[<-hig] at this;exact⟨λw=>this (.inl ((mp i k hi hk2).2.1.2 w)),λw=>this (.inr ((mp i k hi hk2).2.2.2 w))⟩
    ·rw[if_neg e2] at hk;omega
def SK(c:Cl):Prop:=c.weak≠1/\c.weak≠3
def SV(c:Cl):Prop:=c.weak≠2/\c.weak≠3
def tH(x:Hp)(i:Nat):Prop:=∀P:Nat->Prop,(∀k (h:k<x.regs.length),x.regs[k].k=2->P (tgt x x.regs[k]))->(∀i,i<x.cells.length->(x.c i).last=2->P i)->
 (∀j p,P j->p<(x.c j).prs.length->SK (x.c j)->((x.c j).p p).key.k=2->P (tgt x ((x.c j).p p).key))->
 (∀j p,P j->p<(x.c j).prs.length->SV (x.c j)->(((x.c j).p p).key.k=2->P (tgt x ((x.c j).p p).key))->((x.c j).p p).val.k=2->P (tgt x ((x.c j).p p).val))->P i
theorem tH.reg(k:Nat)(h:k<x.regs.length)(hk:x.regs[k].k=2):tH x (tgt x x.regs[k]):=λ_ a _ _ _=>a k h hk
theorem tH.due(i:Nat)(hi:i<x.cells.length)(h:(x.c i).last=2):tH x i:=λ_ _ b _ _=>b i hi h
theorem tH.key(j p:Nat)(h:tH x j)(hp:p<(x.c j).prs.length)(hs:SK (x.c j))(hk:((x.c j).p p).key.k=2):tH x (tgt x ((x.c j).p p).key):=λP a b c d=>c j p (h P a b c d) hp hs hk
theorem tH.val(j p:Nat)(h:tH x j)(hp:p<(x.c j).prs.length)(hs:SV (x.c j))(hh:((x.c j).p p).key.k=2->tH x (tgt x ((x.c j).p p).key))(hk:((x.c j).p p).val.k=2):tH x (tgt x ((x.c j).p p).val):=λP a b c d=>d j p (h P a b c d) hp hs (λe=>hh e P a b c d) hk
theorem tH.reached(r2:R2 x)(h:tH x i):dX x i:=
 h (dX x) (λk h hk=>dX.reg k h hk) (λi hi hl=>dX.last i hi (a2z r2 i hi (.inr hl)) (.inr hl)) (λj p ih hp _ hk=>dX.key j p ih hp hk) (λj p ih hp _ _ hk=>dX.val j p ih hp hk)
theorem tH.good(r2:R2 x)(r4:R4 x)(h:tH x i):Good x i:=(h.reached r2).good r2 r4
def a9c(x:Hp)(L:List Int):Prop:=∀z,z∈L->∃i:Nat,z=(i:Int)/\tH x i
theorem a9c.add{L':List Int}(h:a9c x L)(a:Add x y L L')(hy:y.k=2->tH x (tgt x y)):a9c x L':=λz hz=>by
 rcases a.new hz with q | ⟨k,e⟩
 ·exact h z q
 ·exact⟨_,e,hy k⟩
def b7g(x:Hp)(k:Nat)(L:List Int):Prop:=∀i,i<k->i<x.cells.length->(x.c i).last=2->(i:Int)∈L
def qD(x:Hp)(L0:List Int)(j k:Nat)(T:List Int):Prop:=∀p,p<k->(SK (x.c j)->((x.c j).p p).key.k=2->(tgt x ((x.c j).p p).key:Int)∈T)/\(SV (x.c j)->(((x.c j).p p).key.k=2->(tgt x ((x.c j).p p).key:Int)∈L0)->((x.c j).p p).val.k=2->(tgt x ((x.c j).p p).val:Int)∈T)
theorem qD.mono(h:qD x L0 j k T)(s:∀z,z∈T->z∈T'):qD x L0 j k T':=λp hp=>⟨λa e=>s _ ((h p hp).1 a e),λa b e=>s _ ((h p hp).2 a b e)⟩
def ClH(x:Hp)(L0:List Int)(c:Nat)(T:List Int):Prop:=∀q,q<c->qD x L0 (it T q).toNat (x.c (it T q).toNat).prs.length T
theorem ClH.add{c:Nat}(h:ClH x L0 c T)(a:Add x y T T')(hc:c<=T.length):ClH x L0 c T':=λq hq=>by
 obtain⟨R,e⟩:=a.pre;have e2:it T' q=it T q:=by rw[e];exact a9t (by omega)
 rw[e2];exact(h q hq).mono (λz hz=>a.sub hz)
structure tD(x:Hp)(L0:List Int)(c:Nat)(T:List Int):Prop where
 o:a9c x T
 r:a3t x x.regs.length T
 d:b7g x x.cells.length T
 e:∃R,T=L0++R
 c:ClH x L0 c T
theorem tD.add{c:Nat}(h:tD x L0 c T)(a:Add x y T T')(hc:c<=T.length)(hy:y.k=2->tH x (tgt x y)):tD x L0 c T':=
 ⟨h.o.add a hy,λj hj hk e=>a.sub (h.r j hj hk e),λi hi hn e=>a.sub (h.d i hi hn e),by
  obtain⟨R,e⟩:=h.e;obtain⟨R',e'⟩:=a.pre;exact⟨R++R',by rw[e',e,List.append_assoc]⟩,h.c.add a hc⟩
theorem tD.step{c:Nat}(h:tD x L0 c T)(e:it T c=(j:Int))(k:qD x L0 j (x.c j).prs.length T):tD x L0 (c+1) T:=
 ⟨h.o,h.r,h.d,h.e,λq hq=>by
  by_cases f:q=c
  ·subst f;rw[e];simpa using k
  ·exact h.c q (by omega)⟩
structure b7h(x:Hp)(n:Int)(L:List Int):Prop where
 o:a9c x L
 r:a3t x x.regs.length L
 d:b7g x x.cells.length L
 b:-1<=n/\n<=L.length
 c:n=L.length->ClH x L L.length L
theorem b7h.begin(h:b7h x n L):tD x L 0 L:=⟨h.o,h.r,h.d,⟨[],by simp⟩,λq hq=>by omega⟩
theorem tD.rest(h:tD x L0 T.length T):b7h x L0.length T:=by
 obtain⟨R,e⟩:=h.e;refine⟨h.o,h.r,h.d,⟨by omega,by rw[e];simp;omega⟩,λf=>?_⟩
 have:R=[]:=by
  have:(T.length:Int)=L0.length+R.length:=by rw[e];simp
  exact List.length_eq_zero_iff.1 (by omega)
 have e2:T=L0:=by rw[e,this];simp
 have:=h.c;rw[<-e2] at this;exact this
theorem b7h.done(h:b7h x L.length L)(i:Nat):(i:Int)∈L↔tH x i:=by
 constructor
 ·intro q;obtain⟨j,e,hj⟩:=h.o _ q;have:i=j:=by omega
  rw[this];exact hj
 ·intro q
  have cl:∀j:Nat,(j:Int)∈L->qD x L j (x.c j).prs.length L:=λj hj=>by
   obtain⟨q,hq,e⟩:=List.getElem_of_mem hj;have:=h.c rfl q hq;rw[<-a8h L q hq,e] at this
   simpa using this
  exact q (λi=>(i:Int)∈L) (λk hk e=>h.r k hk hk e) (λi hi e=>h.d i hi hi e) (λj p ih hp hs hk=>(cl j ih p hp).1 hs hk) (λj p ih hp hs hh hk=>(cl j ih p hp).2 hs hh hk)
def tZ(x:Hp)(H:Nat->Bool)(y:Wd):Bool:=(qJ x y).k == 2 && !H (qJ x y).a.toNat
def wkB(c:Cl):Bool:=c.weak == 1 || c.weak == 3
def wvB(c:Cl):Bool:=c.weak == 2 || c.weak == 3
def goB(x:Hp)(H:Nat->Bool)(c:Cl)(p:Pr):Bool:=(wkB c && tZ x H p.key) || (wvB c && tZ x H p.val)
def yD(x:Hp)(H:Nat->Bool)(c:Cl)(l:List Pr):List Pr:=l.filter (λp=>!goB x H c p)
def tY(x:Hp)(H:Nat->Bool)(c:Cl)(l:List Pr):Nat:=(l.filter (λp=>goB x H c p)).length
theorem a7b(x:Hp)(H:Nat->Bool)(c:Cl)(l:List Pr):(yD x H c l).length+tY x H c l=l.length:=by
 unfold yD tY
 induction l with
 | nil=>rfl
 | cons p l ih=>
  cases h:goB x H c p <;> simp [h] <;> omega
def dL(x:Hp):Int:=if x.phase=2/\0<x.gray.length then x.gray.getD 0 0 else if x.phase=5/\x.hand<x.cells.length then x.hand else -1
def b3k(x:Hp)(H:Nat->Bool)(c:Cl):Cl:={ c with prs:=yD x H c c.prs }
def a2e(x:Hp)(H:Nat->Bool)(i:Nat)(s:Int):Int:=if dL x=(i:Int) then s-tY x H (x.c i) ((x.c i).prs.take s.toNat) else s
def cV(x:Hp)(H:Nat->Bool):Nat->Hp
 | 0=>x
 | k+1=>if H k=true then { cV x H k with cells:=(cV x H k).cells.set k (b3k x H (x.c k)),used:=(cV x H k).used-tY x H (x.c k) (x.c k).prs,sub:=a2e x H k (cV x H k).sub } else cV x H k
def a1j(x:Hp)(H:Nat->Bool):Nat->Nat
 | 0=>0
 | k+1=>if H k=true then a1j x H k+tY x H (x.c k) (x.c k).prs else a1j x H k
def a7h(x:Hp)(H:Nat->Bool)(i:Nat):Bool:=!H i && (x.c i).last == 1
def b5k(c:Cl):Cl:={ c with last:=2 }
def zU(x z:Hp)(H:Nat->Bool):Nat->Hp
 | 0=>z
 | k+1=>if a7h x H k=true then { zU x z H k with cells:=(zU x z H k).cells.set k (b5k (x.c k)) } else zU x z H k
def a5q(x:Hp)(H:Nat->Bool):Nat->Nat
 | 0=>0
 | k+1=>if a7h x H k=true then a5q x H k+1 else a5q x H k
def a4e(x:Hp)(H:Nat->Bool):Hp:=zU x (cV x H x.cells.length) H x.cells.length
def stlC(x:Hp)(H:Nat->Bool)(i:Nat):Cl:=if H i=true then b3k x H (x.c i) else if (x.c i).last=1 then b5k (x.c i) else x.c i
theorem a2a(x:Hp)(H:Nat->Bool):∀k,(cV x H k).cells.length=x.cells.length
 | 0=>rfl
 | k+1=>by
  unfold cV
  split
  ·simp [a2a x H k]
  ·exact a2a x H k
theorem a9d(x:Hp)(H:Nat->Bool):∀k,k<=x.cells.length->∀q,(cV x H k).c q=if q<k/\H q=true then b3k x H (x.c q) else x.c q
 | 0,_,q=>by rw[if_neg (by omega)];rfl
 | k+1,hk,q=>by
  have ih:=a9d x H k (by omega) q;unfold cV;by_cases h:H k=true
  ·rw[if_pos h];have:=Hp.c_set (cV x H k) k (b3k x H (x.c k)) (by rw[a2a];omega) q;have e:({ cV x H k with cells:=(cV x H k).cells.set k (b3k x H (x.c k)),used:=(cV x H k).used-tY x H (x.c k) (x.c k).prs,sub:=a2e x H k (cV x H k).sub }:Hp).c q=({ cV x H k with cells:=(cV x H k).cells.set k (b3k x H (x.c k)) }:Hp).c q:=rfl;rw[e,this];by_cases eq:q=k
   ·rw[if_pos eq,eq,if_pos ⟨by omega,h⟩]
   ·rw[if_neg eq,ih];by_cases h2:q<k/\H q=true
    ·rw[if_pos h2,if_pos ⟨by omega,h2.2⟩]
    ·rw[if_neg h2,if_neg (λh3=>h2 ⟨by omega,h3.2⟩)]
  ·rw[if_neg h,ih];by_cases h2:q<k/\H q=true
   ·rw[if_pos h2,if_pos ⟨by omega,h2.2⟩]
   ·rw[if_neg h2,if_neg (λh3=>by
     by_cases eq:q=k
     ·rw[eq] at h3;exact h h3.2
     ·exact h2 ⟨by omega,h3.2⟩)]
def tC(x:Hp)(k:Nat)(r:Int):Prop:=(r = -1/\∀i,i<k->(x.c i).last≠2)\/∃i:Nat,r=(i:Int)/\i<k/\(x.c i).last=2/\∀j,j<k->(x.c j).last=2->(x.c i).born<=(x.c j).born
theorem tC.no{r:Int}(h:tC x k r)(hk:(x.c k).last≠2):tC x (k+1) r:=by
 rcases h with⟨h,n⟩ | ⟨i,h,hi,di,mi⟩
 ·exact .inl ⟨h,λj hj=>by rcases (by omega:j<k\/j=k) with q | q;exact n j q;subst q;exact hk⟩
 ·exact .inr ⟨i,h,by omega,di,λj hj dj=>by rcases (by omega:j<k\/j=k) with q | q;exact mi j q dj;subst q;exact(hk dj).elim⟩
theorem tC.first(h:tC x k (-1))(hk:(x.c k).last=2):tC x (k+1) k:=by
 rcases h with⟨h,n⟩ | ⟨i,h,hi,di,mi⟩
 ·exact .inr ⟨k,rfl,by omega,hk,λj hj dj=>by rcases (by omega:j<k\/j=k) with q | q;exact(n j q dj).elim;subst q;omega⟩
 ·omega
theorem tC.less(h:tC x k i)(hk:(x.c k).last=2)(hl:(x.c k).born<(x.c i).born):tC x (k+1) k:=by
 rcases h with⟨h,n⟩ | ⟨i',h,hi,di,mi⟩
 ·omega
 ·obtain rfl:i'=i:=by omega
  exact .inr ⟨k,rfl,by omega,hk,λj hj dj=>by rcases (by omega:j<k\/j=k) with q | q;have:=mi j q dj;omega;subst q;omega⟩
theorem tC.more(h:tC x k i)(hl:(x.c i).born<=(x.c k).born):tC x (k+1) i:=by
 rcases h with⟨h,n⟩ | ⟨i',h,hi,di,mi⟩
 ·omega
 ·obtain rfl:i'=i:=by omega
  exact .inr ⟨i',rfl,by omega,di,λj hj dj=>by rcases (by omega:j<k\/j=k) with q | q;exact mi j q dj;subst q;exact hl⟩
theorem tC.form{r:Int}(h:tC x k r):r = -1\/∃i:Nat,r=(i:Int)/\i<k:=by
 rcases h with⟨h,_⟩ | ⟨i,h,hi,_⟩
 ·exact .inl h
 ·exact .inr ⟨i,h,hi⟩
def a2h(x:Hp)(p:Nat->Bool):Nat->Nat
 | 0=>0
 | k+1=>a2h x p k+(if p k=true then 1+(x.c k).prs.length else 0)
theorem c5s{x:Hp}{p:Nat->Bool}(h:∀i,i<x.cells.length->(x.c i).prs.length<=200)(k:Nat)(hk:k<=x.cells.length):a2h x p k<=201*k:=by
 induction k with
 | zero=>simp [a2h]
 | succ k ih=>
  have:=h k (by omega);have:=ih (by omega);simp only [a2h]
  split <;> omega
theorem b3z(x:Hp)(b bs:Nat)(p:Nat->Bool)(w:World)(h:HAt w b x ar kr ac kc ag kg)(hs:∀i,i<x.cells.length->w.cell? ⟨bs,i,none⟩=some (.bool (p i)))(hn8:x.cells.length<=8000)(h200:∀i,i<x.cells.length->(x.c i).prs.length<=200):
  Calls Tryz.prog 76 #[.pointer (some ⟨b,0,none⟩),.slice (some ⟨bs,0,none⟩) x.cells.length x.cells.length] w λe w'=>e=.returned (.int .i64 (a2h x p x.cells.length:Int))/\w'=w:=by
 have HS:=uU hs;have HH:=uU h;have c4:=h.c4;have HL:=uU (λk hk=>c5s (p:=p) h200 k hk);clear hs h;go_enter Tryz.func76,Tryz.ntmps76;go_wp2_with fail
 go_loop [5,10] (λn i=>∃(k u:Nat),k<=x.cells.length/\i=.int .i64 k/\n=.int .i64 u/\Hid (u=a2h x p k)) (λ_ i=>x.cells.length-(intOf i).toNat)
 case atStart=>exact⟨0,0,Nat.zero_le _,rfl,rfl,rfl⟩
 case round=>
  obtain⟨k,u,hk,rfl,rfl,hu⟩:=hrel;have hul:u<=201*k:=by have:=uH hu;rw[this];exact HL k hk
  by_cases hlt:k<x.cells.length
  ·have hc:=uH HS k hlt;obtain⟨b',o,ap,kp,rfl,p0,p1,p2,p3,p4,p5,p6,p7,lp,P⟩:=HH.cell k hlt;have hl:=h200 k hlt;have hk0:(0:Int)<=(k:Int):=by omega
   have hk1:(k:Int)<(x.cells.length:Int):=by omega
   clear P p0 p1 p2 p3 p4 p5 p6;cases tp:p k
   ·rw[tp] at hc;have U2:=uU (show u=a2h x p (k+1) by have:=uH hu;simp only [a2h,tp];simp;exact this);go_wp2_with fail
    go_round
    case rel=>exact⟨k+1,u,by omega,by go_num,rfl,U2⟩
    case measure=>simp [intOf];omega
   ·rw[tp] at hc;have U2:=uU (show u+(1+(x.c k).prs.length)=a2h x p (k+1) by have:=uH hu;simp only [a2h,tp];simp;omega);go_wp2_with fail
    go_round
    case rel=>exact⟨k+1,u+(1+(x.c k).prs.length),by omega,by go_num,by go_num,U2⟩
    case measure=>simp [intOf];omega
  ·have hk2:k=x.cells.length:=by omega
   have U:=uU (show u=a2h x p x.cells.length by have:=uH hu;rw[hk2] at this;exact this);clear hk2;go_wp2_with fail;go_ret;exact⟨by rw[<-uH U];rfl,rfl⟩
def c5t(x:Hp)(r:Nat):Prop:=(eJ x 0/\∃p:Nat->Bool,(∀i,p i=true↔dX x i)/\r=a2h x p x.cells.length)\/(¬eJ x 0/\r=0)
theorem b9q(x:Hp)(b:Nat)(w:World)(h:HAt w b x ar kr ac kc ag kg)(ok:eJ x 0):
  Calls Tryz.prog 75 #[.pointer (some ⟨b,0,none⟩)] w λe w'=>∃r:Nat,Hid (e=.returned (.int .i64 (r:Int)))/\c5t x r/\Ext w w':=by
 have HH:=uU h;have OK:=uU ok;clear h ok;go_enter Tryz.func75,Tryz.ntmps75;go_wp2_with fail;refine(b7e x b _ HH OK.all.2.1 OK.all.2.2.2 OK.n8).mono ?_;rintro e w1 ⟨v,L,rfl,hs,hr,hq⟩;have HS:=uU hs;clear hs;go_wp2_with fail;refine(b3z x b w.heap.size (λi=>decide ((i:Int)∈L)) _ (HH.ext hq) HS.s OK.n8 OK.p200).mono ?_;rintro e w2 ⟨rfl,rfl⟩;go_wp2_with fail;go_ret;exact⟨_,rfl,.inl ⟨OK,_,λi=>by simpa using uH hr i,rfl⟩,hq⟩
def qV(op:Int):Bool:=!(op == 18 || op == 20 || op == 21 || op == 22 || op == 23 || op == 24)
def zQ(op:Int):Bool:=op == 4 || op == 5 || op == 6 || op == 7 || op == 8 || op == 13
def zW(op:Int):Int:=if op=1 then 255 else if zQ op=true then 15 else if op=23 then 64 else 0
def zK(op:Int):Int:=if op=1\/op=9\/op=10 then 200 else if 5<=op/\op<=8 then 199 else if op=11 then 3 else if op=12 then 1 else if op=22 then 100000 else if op=23 then 4000 else 0
theorem b7i(op:Int)(h1:1<=op)(h2:op<=24):op=1\/op=2\/op=3\/op=4\/op=5\/op=6\/op=7\/op=8\/op=9\/op=10\/op=11\/op=12\/op=13\/op=14\/op=15\/op=16\/op=17\/op=18\/op=19\/op=20\/op=21\/op=22\/op=23\/op=24:=by omega
theorem a7c(op:Int)(h1:1<=op)(h2:op<=24)(w:World):Calls Tryz.prog 220 #[.int .i64 op] w λe w'=>e=.returned (.tuple #[.bool (qV op),.bool (zQ op)])/\w'=w:=by
 have h:=b7i op h1 h2;clear h1 h2;rcases h with rfl | rfl | rfl | rfl | rfl | rfl | rfl | rfl | rfl | rfl | rfl | rfl | rfl | rfl | rfl | rfl | rfl | rfl | rfl | rfl | rfl | rfl | rfl | rfl
 all_goals
  go_enter Tryz.func220,Tryz.ntmps220
  go_wp2
  go_ret2;exact⟨rfl,rfl⟩
theorem b2o(op:Int)(h1:1<=op)(h2:op<=24)(w:World):Calls Tryz.prog 221 #[.int .i64 op] w λe w'=>e=.returned (.tuple #[.int .i64 (zW op),.int .i64 (zK op)])/\w'=w:=by
 have h:=b7i op h1 h2;clear h1 h2;rcases h with rfl | rfl | rfl | rfl | rfl | rfl | rfl | rfl | rfl | rfl | rfl | rfl | rfl | rfl | rfl | rfl | rfl | rfl | rfl | rfl | rfl | rfl | rfl | rfl
 all_goals
  go_enter Tryz.func221,Tryz.ntmps221
  go_wp2
  go_ret2;exact⟨rfl,rfl⟩
def zL(op:Int):Int:=if qV op=true then 15 else 0
def dU(op a b c n:Int):Bool:=decide ((1<=op/\op<=24)/\(n=0\/op=2)) && (decide (0<=a/\a<=zL op) && (decide (0<=b/\b<=zW op) && decide (0<=c/\c<=zK op)))
abbrev qZ(op a b c n:Int):Value:=.agg #[iv op,iv a,iv b,iv c,iv n]
theorem b9r(h:op<1\/24<op\/(n≠0/\op≠2)):dU op a b c n=false:=by
 unfold dU;rw[decide_eq_false (by omega)];rfl
theorem c1d(h:a<0\/zL op<a):dU op a b c n=false:=by
 unfold dU;have e:decide (0<=a/\a<=zL op)=false:=decide_eq_false (by omega);rw[e];simp
theorem c1e(h1:1<=op)(h2:op<=24)(h3:n=0\/op=2)(h4:0<=a)(h5:a<=zL op):dU op a b c n=(decide (0<=b/\b<=zW op) && decide (0<=c/\c<=zK op)):=by
 unfold dU;rw[decide_eq_true ⟨⟨h1,h2⟩,h3⟩,decide_eq_true ⟨h4,h5⟩];simp
theorem a3c(n lo hi:Int)(r:Bool)(h:hD n lo hi=r)(w:World):Calls Tryz.prog 60 #[.int .i64 n,.int .i64 lo,.int .i64 hi] w λe w'=>e=.returned (.bool r)/\w'=w:=h ▸ dY n lo hi w
theorem b3m(op a b c n:Int)(w:World)(h1:1<=op)(h2:op<=24)(q1b:(op != 2)=true)(q2b:(n != 0)=false):Calls Tryz.prog 158 #[qZ op a b c n] w λe w'=>e=.returned (.bool (dU op a b c n))/\Ext w w':=by
 have H3:=uU (show n=0\/op=2 from by simp at q2b;exact .inl q2b);have QM:=uU (λW=>b2o op h1 h2 W);have YY:=uU (λh4 h5=>c1e (b:=b) (c:=c) (n:=n) (a:=a) h1 h2 H3 h4 h5);obtain⟨bm,eb⟩:∃v,v=zW op:=⟨_,rfl⟩;obtain⟨cm,ec⟩:∃v,v=zK op:=⟨_,rfl⟩;rw[<-eb,<-ec] at QM YY;clear eb ec;have h1b:¬op<1:=by omega
 have h2b:¬op > 24:=by omega
 cases q3:qV op
 ·have QL:=uU (λW=>q3 ▸ a7c op h1 h2 W);cases q5:(a == 0)
  ·have q5b:(a != 0)=true:=by simpa using q5
   have E:=uU (c1d (op:=op) (a:=a) (b:=b) (c:=c) (n:=n) (by unfold zL;rw[q3];simp at q5;simp;omega));go_enter Tryz.func158,Tryz.ntmps158;go_wp2_with (first | (go_at_call 220;refine(QL _).mono ?_;rintro e w2 ⟨rfl,rfl⟩));go_ret;exact⟨by rw[uH E];rfl,(Ext.refl _).alloc _⟩
  ·have q5b:(a != 0)=false:=by simpa using q5
   have EY:=uU (YY (by simp at q5;omega) (by unfold zL;rw[q3];simp at q5;simp;omega));cases q6:hD b 0 bm
   ·have QB:=uU (λW=>a3c b 0 bm false q6 W);have E:=uU (show dU op a b c n=false by rw[uH EY];have e:decide (0<=b/\b<=bm)=false:=q6;rw[e];rfl);clear EY H3 YY;go_enter Tryz.func158,Tryz.ntmps158;go_wp2_with (first | (go_at_call 220;refine(QL _).mono ?_;rintro e w2 ⟨rfl,rfl⟩) | (go_at_call 221;refine(QM _).mono ?_;rintro e w2 ⟨rfl,rfl⟩) | (go_at_call 60;refine(QB _).mono ?_;rintro e w2 ⟨rfl,rfl⟩));go_ret;exact⟨by rw[uH E];rfl,(Ext.refl _).alloc _⟩
   ·have QB:=uU (λW=>a3c b 0 bm true q6 W);have QC:=uU (λW=>dY c 0 cm W);have E:=uU (show dU op a b c n=hD c 0 cm by rw[uH EY];have e:decide (0<=b/\b<=bm)=true:=q6;rw[e];rfl);clear EY H3 YY;go_enter Tryz.func158,Tryz.ntmps158;go_wp2_with (first | (go_at_call 220;refine(QL _).mono ?_;rintro e w2 ⟨rfl,rfl⟩) | (go_at_call 221;refine(QM _).mono ?_;rintro e w2 ⟨rfl,rfl⟩) | (have _:=LQB;go_at_call 60;refine(QC _).mono ?_;rintro e w2 ⟨rfl,rfl⟩) | (go_at_call 60;refine(QB _).mono ?_;rintro e w2 ⟨rfl,rfl⟩;have LQB:=True.intro));go_ret;exact⟨by rw[uH E];rfl,(Ext.refl _).alloc _⟩
 ·have QL:=uU (λW=>q3 ▸ a7c op h1 h2 W);cases q5:hD a 0 15
  ·have QA:=uU (λW=>a3c a 0 15 false q5 W);have E:=uU (c1d (op:=op) (a:=a) (b:=b) (c:=c) (n:=n) (by unfold zL;rw[q3];simp [hD] at q5;simp;omega));go_enter Tryz.func158,Tryz.ntmps158;go_wp2_with (first | (go_at_call 220;refine(QL _).mono ?_;rintro e w2 ⟨rfl,rfl⟩) | (go_at_call 60;refine(QA _).mono ?_;rintro e w2 ⟨rfl,rfl⟩));go_ret;exact⟨by rw[uH E];rfl,(Ext.refl _).alloc _⟩
  ·have QA:=uU (λW=>a3c a 0 15 true q5 W);have EY:=uU (YY (by simp [hD] at q5;omega) (by unfold zL;rw[q3];simp [hD] at q5;simp;omega));cases q6:hD b 0 bm
   ·have QB:=uU (λW=>a3c b 0 bm false q6 W);have E:=uU (show dU op a b c n=false by rw[uH EY];have e:decide (0<=b/\b<=bm)=false:=q6;rw[e];rfl);clear EY H3 YY;go_enter Tryz.func158,Tryz.ntmps158;go_wp2_with (first | (go_at_call 220;refine(QL _).mono ?_;rintro e w2 ⟨rfl,rfl⟩) | (go_at_call 221;refine(QM _).mono ?_;rintro e w2 ⟨rfl,rfl⟩) | (have _:=LQA;go_at_call 60;refine(QB _).mono ?_;rintro e w2 ⟨rfl,rfl⟩) | (go_at_call 60;refine(QA _).mono ?_;rintro e w2 ⟨rfl,rfl⟩;have LQA:=True.intro));go_ret;exact⟨by rw[uH E];rfl,(Ext.refl _).alloc _⟩
   ·have QB:=uU (λW=>a3c b 0 bm true q6 W);have QC:=uU (λW=>dY c 0 cm W);have E:=uU (show dU op a b c n=hD c 0 cm by rw[uH EY];have e:decide (0<=b/\b<=bm)=true:=q6;rw[e];rfl);clear EY H3 YY;go_enter Tryz.func158,Tryz.ntmps158;go_wp2_with (first | (go_at_call 220;refine(QL _).mono ?_;rintro e w2 ⟨rfl,rfl⟩) | (go_at_call 221;refine(QM _).mono ?_;rintro e w2 ⟨rfl,rfl⟩) | (have _:=LQB;go_at_call 60;refine(QC _).mono ?_;rintro e w2 ⟨rfl,rfl⟩) | (have _:=LQA;go_at_call 60;refine(QB _).mono ?_;rintro e w2 ⟨rfl,rfl⟩;have LQB:=True.intro) | (go_at_call 60;refine(QA _).mono ?_;rintro e w2 ⟨rfl,rfl⟩;have LQA:=True.intro));go_ret;exact⟨by rw[uH E];rfl,(Ext.refl _).alloc _⟩
theorem b3n(op a b c n:Int)(w:World)(h1:1<=op)(h2:op<=24)(q1b:(op != 2)=false):Calls Tryz.prog 158 #[qZ op a b c n] w λe w'=>e=.returned (.bool (dU op a b c n))/\Ext w w':=by
 have H3:=uU (show n=0\/op=2 from by simp at q1b;exact .inr q1b);have QM:=uU (λW=>b2o op h1 h2 W);have YY:=uU (λh4 h5=>c1e (b:=b) (c:=c) (n:=n) (a:=a) h1 h2 H3 h4 h5);obtain⟨bm,eb⟩:∃v,v=zW op:=⟨_,rfl⟩;obtain⟨cm,ec⟩:∃v,v=zK op:=⟨_,rfl⟩;rw[<-eb,<-ec] at QM YY;clear eb ec;have h1b:¬op<1:=by omega
 have h2b:¬op > 24:=by omega
 cases q3:qV op
 ·have QL:=uU (λW=>q3 ▸ a7c op h1 h2 W);cases q5:(a == 0)
  ·have q5b:(a != 0)=true:=by simpa using q5
   have E:=uU (c1d (op:=op) (a:=a) (b:=b) (c:=c) (n:=n) (by unfold zL;rw[q3];simp at q5;simp;omega));go_enter Tryz.func158,Tryz.ntmps158;go_wp2_with (first | (go_at_call 220;refine(QL _).mono ?_;rintro e w2 ⟨rfl,rfl⟩));go_ret;exact⟨by rw[uH E];rfl,(Ext.refl _).alloc _⟩
  ·have q5b:(a != 0)=false:=by simpa using q5
   have EY:=uU (YY (by simp at q5;omega) (by unfold zL;rw[q3];simp at q5;simp;omega));cases q6:hD b 0 bm
   ·have QB:=uU (λW=>a3c b 0 bm false q6 W);have E:=uU (show dU op a b c n=false by rw[uH EY];have e:decide (0<=b/\b<=bm)=false:=q6;rw[e];rfl);clear EY H3 YY;go_enter Tryz.func158,Tryz.ntmps158;go_wp2_with (first | (go_at_call 220;refine(QL _).mono ?_;rintro e w2 ⟨rfl,rfl⟩) | (go_at_call 221;refine(QM _).mono ?_;rintro e w2 ⟨rfl,rfl⟩) | (go_at_call 60;refine(QB _).mono ?_;rintro e w2 ⟨rfl,rfl⟩));go_ret;exact⟨by rw[uH E];rfl,(Ext.refl _).alloc _⟩
   ·have QB:=uU (λW=>a3c b 0 bm true q6 W);have QC:=uU (λW=>dY c 0 cm W);have E:=uU (show dU op a b c n=hD c 0 cm by rw[uH EY];have e:decide (0<=b/\b<=bm)=true:=q6;rw[e];rfl);clear EY H3 YY;go_enter Tryz.func158,Tryz.ntmps158;go_wp2_with (first | (go_at_call 220;refine(QL _).mono ?_;rintro e w2 ⟨rfl,rfl⟩) | (go_at_call 221;refine(QM _).mono ?_;rintro e w2 ⟨rfl,rfl⟩) | (have _:=LQB;go_at_call 60;refine(QC _).mono ?_;rintro e w2 ⟨rfl,rfl⟩) | (go_at_call 60;refine(QB _).mono ?_;rintro e w2 ⟨rfl,rfl⟩;have LQB:=True.intro));go_ret;exact⟨by rw[uH E];rfl,(Ext.refl _).alloc _⟩
 ·have QL:=uU (λW=>q3 ▸ a7c op h1 h2 W);cases q5:hD a 0 15
  ·have QA:=uU (λW=>a3c a 0 15 false q5 W);have E:=uU (c1d (op:=op) (a:=a) (b:=b) (c:=c) (n:=n) (by unfold zL;rw[q3];simp [hD] at q5;simp;omega));go_enter Tryz.func158,Tryz.ntmps158;go_wp2_with (first | (go_at_call 220;refine(QL _).mono ?_;rintro e w2 ⟨rfl,rfl⟩) | (go_at_call 60;refine(QA _).mono ?_;rintro e w2 ⟨rfl,rfl⟩));go_ret;exact⟨by rw[uH E];rfl,(Ext.refl _).alloc _⟩
  ·have QA:=uU (λW=>a3c a 0 15 true q5 W);have EY:=uU (YY (by simp [hD] at q5;omega) (by unfold zL;rw[q3];simp [hD] at q5;simp;omega));cases q6:hD b 0 bm
   ·have QB:=uU (λW=>a3c b 0 bm false q6 W);have E:=uU (show dU op a b c n=false by rw[uH EY];have e:decide (0<=b/\b<=bm)=false:=q6;rw[e];rfl);clear EY H3 YY;go_enter Tryz.func158,Tryz.ntmps158;go_wp2_with (first | (go_at_call 220;refine(QL _).mono ?_;rintro e w2 ⟨rfl,rfl⟩) | (go_at_call 221;refine(QM _).mono ?_;rintro e w2 ⟨rfl,rfl⟩) | (have _:=LQA;go_at_call 60;refine(QB _).mono ?_;rintro e w2 ⟨rfl,rfl⟩) | (go_at_call 60;refine(QA _).mono ?_;rintro e w2 ⟨rfl,rfl⟩;have LQA:=True.intro));go_ret;exact⟨by rw[uH E];rfl,(Ext.refl _).alloc _⟩
   ·have QB:=uU (λW=>a3c b 0 bm true q6 W);have QC:=uU (λW=>dY c 0 cm W);have E:=uU (show dU op a b c n=hD c 0 cm by rw[uH EY];have e:decide (0<=b/\b<=bm)=true:=q6;rw[e];rfl);clear EY H3 YY;go_enter Tryz.func158,Tryz.ntmps158;go_wp2_with (first | (go_at_call 220;refine(QL _).mono ?_;rintro e w2 ⟨rfl,rfl⟩) | (go_at_call 221;refine(QM _).mono ?_;rintro e w2 ⟨rfl,rfl⟩) | (have _:=LQB;go_at_call 60;refine(QC _).mono ?_;rintro e w2 ⟨rfl,rfl⟩) | (have _:=LQA;go_at_call 60;refine(QB _).mono ?_;rintro e w2 ⟨rfl,rfl⟩;have LQB:=True.intro) | (go_at_call 60;refine(QA _).mono ?_;rintro e w2 ⟨rfl,rfl⟩;have LQA:=True.intro));go_ret;exact⟨by rw[uH E];rfl,(Ext.refl _).alloc _⟩
theorem hE(op a b c n:Int)(w:World):Calls Tryz.prog 158 #[qZ op a b c n] w λe w'=>e=.returned (.bool (dU op a b c n))/\Ext w w':=by
 by_cases h1:op<1
 ·have E:=uU (b9r (op:=op) (a:=a) (b:=b) (c:=c) (n:=n) (.inl h1));go_enter Tryz.func158,Tryz.ntmps158;go_wp2_with fail;go_ret;exact⟨by rw[uH E];rfl,(Ext.refl _).alloc _⟩
 ·by_cases h2:op > 24
  ·have E:=uU (b9r (op:=op) (a:=a) (b:=b) (c:=c) (n:=n) (.inr (.inl h2)));go_enter Tryz.func158,Tryz.ntmps158;go_wp2_with fail;go_ret;exact⟨by rw[uH E];rfl,(Ext.refl _).alloc _⟩
  ·cases q1:(op == 2)
   ·have q1b:(op != 2)=true:=by simpa using q1
    cases q2:(n == 0)
    ·have q2b:(n != 0)=true:=by simpa using q2
     have E:=uU (b9r (op:=op) (a:=a) (b:=b) (c:=c) (n:=n) (.inr (.inr ⟨by simpa using q2,by simpa using q1⟩)));go_enter Tryz.func158,Tryz.ntmps158;go_wp2_with fail;go_ret;exact⟨by rw[uH E];rfl,(Ext.refl _).alloc _⟩
    ·exact b3m op a b c n w (by omega) (by omega) q1b (by simpa using q2)
   ·exact b3n op a b c n w (by omega) (by omega) (by simpa using q1)
def Wd0:Wd:=⟨0,0,0⟩
def Hp.r(x:Hp)(i:Nat):Wd:=x.regs.getD i Wd0
theorem Hp.r_eq(x:Hp)(i:Nat)(h:i<x.regs.length):x.regs[i]=x.r i:=by simp [Hp.r,h]
def Hp.at(x:Hp)(i:Nat):Nat:=(x.r i).a.toNat
def keyC(c:Cl)(k:Nat)(y:Wd):Cl:={ c with prs:=c.prs.set k ⟨y,(c.p k).val⟩ }
def valC(c:Cl)(k:Nat)(y:Wd):Cl:={ c with prs:=c.prs.set k ⟨(c.p k).key,y⟩ }
def dV(x:Hp)(i:Nat)(c:Cl):Hp:={ x with cells:=x.cells.set i c }
def a1b(c:Cl)(n:Nat):Cl:={ c with prs:=c.prs.take n }
def zH(x:Hp)(i n:Nat):Hp:={ x with cells:=x.cells.set i (a1b (x.c i) n),used:=x.used-((x.c i).prs.length-n:Nat),sub:=if dL x=(i:Int)/\(n:Int)<x.sub then n else x.sub }
def c1f(c:Cl)(n:Int):Cl:={ c with weak:=n }
def a2f(c:Cl)(n:Int):Cl:={ c with last:=n }
def b5m(x:Hp)(f c:Nat)(y:Hp)(cd nm:Int)(R:Nat->Prop):Prop:=
 ((x.r f).k≠2/\y=x/\cd=2/\nm=0)\/((x.r f).k=2/\(x.c (x.at f)).prs.length<=c/\y=x/\cd=3/\nm=0)\/((x.r f).k=2/\c<(x.c (x.at f)).prs.length/\R (x.at f)/\cd=0/\nm=0)
def a9y(x:Hp)(f:Nat)(y:Hp)(cd nm:Int)(R:Nat->Prop):Prop:=((x.r f).k≠2/\y=x/\cd=2/\nm=0)\/((x.r f).k=2/\R (x.at f))
def b5n(x:Hp)(a b c:Nat)(y:Hp)(cd nm:Int):Prop:=nm=0/\
 ((x.born=1000000000/\y=x/\cd=4)\/(x.born≠1000000000/\∃z,a4h x (1+c) z/\((a2g z (1+c)=false/\y=z/\cd=4)\/(a2g z (1+c)=true/\cd=0/\a5b (regTo (a3z z b c) a ⟨2,0,cD z⟩) (1+c) y))))
def b2p(x:Hp)(a c i:Nat)(y:Hp)(cd nm:Int):Prop:=nm=0/\
 ((200<(x.c i).prs.length+c/\y=x/\cd=5)\/((x.c i).prs.length+c<=200/\∃z,a4h x c z/\((a2g z c=false/\y=z/\cd=4)\/(a2g z c=true/\cd=0/\a5b (zD z (z.at a) c) c y))))
def wdB(a b:Wd):Bool:=a.k == b.k && (a.n == b.n && a.a == b.a)
def SumIs(x:Hp)(P:Nat->Prop)(nm:Int):Prop:=∃p:Nat->Bool,(∀i,p i=true↔P i)/\nm=(a2h x p x.cells.length:Nat)
def c5v(x:Hp)(a:Nat)(y:Hp)(nm:Int):Prop:=(tC x x.cells.length (-1)/\y=regTo x a Wd0/\nm=0)\/∃i:Nat,tC x x.cells.length (i:Int)/\y=regTo (dV x i (a2f (x.c i) 3)) a ⟨2,0,i⟩/\nm=1
def DoR(x:Hp)(a b c:Nat)(n:Int)(y:Hp)(cd nm:Int):Nat->Prop
 | 1=>b5n x a b c y cd nm
 | 2=>y=regTo x a ⟨1,n,0⟩/\cd=0/\nm=0
 | 3=>y=regTo x a Wd0/\cd=0/\nm=0
 | 4=>y=regTo x a (x.r b)/\cd=0/\nm=0
 | 5=>b5m x b c y cd nm λi=>y=regTo x a (qJ x ((x.c i).p c).key)
 | 6=>b5m x b c y cd nm λi=>y=regTo x a (qJ x ((x.c i).p c).val)
 | 7=>b5m x a c y cd nm λi=>y=uY (dV x i (keyC (x.c i) c (x.r b))) (x.r b)
 | 8=>b5m x a c y cd nm λi=>y=uY (dV x i (valC (x.c i) c (x.r b))) (x.r b)
 | 9=>a9y x a y cd nm λi=>b2p x a c i y cd nm
 | 10=>a9y x a y cd nm λi=>y=zH x i c/\cd=0/\nm=0
 | 11=>a9y x a y cd nm λi=>y=dV x i (c1f (x.c i) c)/\cd=0/\nm=0
 | 12=>a9y x a y cd nm λi=>y=(if c=1 then uV (dV x i (a2f (x.c i) c)) i else dV x i (a2f (x.c i) c))/\cd=0/\nm=0
 | 13=>y=x/\cd=0/\nm=if wdB (x.r a) (x.r b)=true then 1 else 0
 | 14=>y=x/\cd=0/\nm=(x.r a).k
 | 15=>y=x/\(((x.r a).k≠1/\cd=2/\nm=0)\/((x.r a).k=1/\cd=0/\nm=(x.r a).n))
 | 16=>a9y x a y cd nm λi=>y=x/\cd=0/\nm=(x.c i).kind
 | 17=>a9y x a y cd nm λi=>y=x/\cd=0/\nm=((x.c i).prs.length:Nat)
 | 18=>cd=0/\∃H:Nat->Bool,(∀i,H i=true↔tH x i)/\y=a4e x H/\nm=(a5q x H x.cells.length:Nat)
 | 19=>cd=0/\c5v x a y nm
 | 20=>y=x/\cd=0/\SumIs x (tH x) nm
 | 21=>y=x/\cd=0/\SumIs x (dX x) nm
 | 22=>cd=0/\nm=0/\∃k,a2n (stepH x c) c k/\y=itU k (stepH x c)
 | 23=>y=paceTo x b c/\cd=0/\nm=0
 | 24=>cd=0/\nm=0/\RdIs x y
 | _=>False
def DoIs(x:Hp)(op a b c n:Int)(y:Hp)(cd nm:Int):Prop:=(dU op a b c n=false/\y=x/\cd=1/\nm=0)\/(dU op a b c n=true/\DoR x a.toNat b.toNat c.toNat n y cd nm op.toNat)
structure GReg[Inhabited uN](B:Nat)(w:World)(g:Nat)(x:Hp)(br kr:Nat):Prop where
 c3:w.cell? ⟨g,3,none⟩=some (.slice (some ⟨br,0,none⟩) 16 kr)
 r:∀i,i<16->tW w br (i*3) (x.r i)
 f:∀j,w.frozen? ⟨br,j,none⟩=false
 lo:B<=br/\br<w.heap.size/\br≠g
 set:∀(W:World) (i:Nat) (y:Wd),Ext w W->i<16->GOk B (dJ W br (i*3) y) g (regTo x i y)
theorem GOk.regs[Inhabited uN](h:GOk B w g x)(r16:x.regs.length=16):∃br kr,GReg B w g x br kr:=by
 obtain⟨ar,kr,ac,kc,vg,br,bc,pb,pa,pk,role,h⟩:=h;have h0:0<x.regs.length:=by omega
 refine⟨br,kr,?_,λi hi=>?_,(h.rw.nr h0).1.2,⟨(h.rw.nr h0).2,(h.rw.nr h0).1.1,λe=>?_⟩,λW i y e hi=>?_⟩
 ·have:=h.bx.2.2.2.1;rw[h.ha h0,r16] at this;exact this
 ·have:=h.rw.r i (by omega);rw[Hp.r_eq] at this;exact this
 ·have h1:=h.sp.r h0;have h2:=h.sp.g;rw[e] at h1;omega
 ·have g1:=h.ext e;exact⟨ar,kr,ac,kc,vg,br,bc,pb,pa,pk,role,g1.setr i (by omega) y (a0e _ _ _ _) (b1y (g1.rw.nr h0).1 _ _) (a5x _ _ _ _ _ (g1.rw.r i (by omega))) (λm hm=>a0u _ _ _ _ m hm)⟩
theorem GReg.ext[Inhabited uN]{br:Nat}(h:GReg B w g x br kr)(e:Ext w w'):GReg B w' g x br kr:=
 ⟨e.keep h.c3,λi hi=>(h.r i hi).ext e,λj=>((cZ e).2 br j h.lo.2.1).trans (h.f j),⟨h.lo.1,Nat.lt_of_lt_of_le h.lo.2.1 e.size,h.lo.2.2⟩,λW i y e2 hi=>h.set W i y (e.trans e2) hi⟩
abbrev doW(w:World)(op a b c n:Int):World:=(w.alloc (.cells #[iv op,iv a,iv b,iv c,iv n] 39)).alloc (.cells #[iv 0,iv 0] 41)
structure eQ(w W:World)(op a b c n:Int):Prop where
 a0:W.cell? ⟨w.heap.size,0,none⟩=some (iv op)
 a1:W.cell? ⟨w.heap.size,1,none⟩=some (iv a)
 a2:W.cell? ⟨w.heap.size,2,none⟩=some (iv b)
 a3:W.cell? ⟨w.heap.size,3,none⟩=some (iv c)
 a4:W.cell? ⟨w.heap.size,4,none⟩=some (iv n)
 r0:W.cell? ⟨w.heap.size+1,0,none⟩=some (iv 0)
 r1:W.cell? ⟨w.heap.size+1,1,none⟩=some (iv 0)
 rf:∀j,W.frozen? ⟨w.heap.size+1,j,none⟩=false
theorem eQ.new(w:World)(op a b c n:Int):eQ w (doW w op a b c n) op a b c n:=
 ⟨by simp [go_sem],by simp [go_sem],by simp [go_sem],by simp [go_sem],by simp [go_sem],by simp [go_sem],by simp [go_sem],λj=>by simp [go_sem]⟩
theorem eQ.of(h:eQ w W op a b c n)(e:∀q,w.heap.size<=q->q<w.heap.size+2->W'.heap[q]?=W.heap[q]?):eQ w W' op a b c n:=by
 have e0:=λj=>World.cell?_of_block (a:=⟨w.heap.size,j,none⟩) (e w.heap.size (Nat.le_refl _) (by omega))
 have e1:=λj=>World.cell?_of_block (a:=⟨w.heap.size+1,j,none⟩) (e (w.heap.size+1) (by omega) (by omega))
 exact⟨(e0 0).trans h.a0,(e0 1).trans h.a1,(e0 2).trans h.a2,(e0 3).trans h.a3,(e0 4).trans h.a4,(e1 0).trans h.r0,(e1 1).trans h.r1,λj=>(World.frozen?_of_block (a:=⟨w.heap.size+1,j,none⟩) (e (w.heap.size+1) (by omega) (by omega))).trans (h.rf j)⟩
theorem eQ.ext(h:eQ w W op a b c n)(e:Ext W W'):eQ w W' op a b c n:=by
 have l0:=uL h.a0;have l1:=uL h.r0
 exact h.of λq h1 h2=>e.block q (by
  have l0:w.heap.size<W.heap.size:=l0;have l1:w.heap.size+1<W.heap.size:=l1;omega)
theorem a6f(w:World)(op a b c n:Int):(doW w op a b c n).heap.size=w.heap.size+2:=by simp [doW]
theorem GOk.boxes{p p1:Inhabited uN}{y:Hp}(o:Own p w.heap.size (doW w op a b c n).heap.size (doW w op a b c n) p1)(h:@GOk p1 B W g y):eQ w W op a b c n:=
 (eQ.new w op a b c n).of λq h1 h2=>GOk.own o h q h1 (by rw[a6f];exact h2)
abbrev putA(W:World)(r:Nat)(cd nm:Int):World:=(W.setCell ⟨r,0,none⟩ (iv cd)).setCell ⟨r,1,none⟩ (iv nm)
theorem GOk.done{p p1:Inhabited uN}{y:Hp}(o:Own p w.heap.size (doW w op a b c n).heap.size (doW w op a b c n) p1)(h:@GOk p1 B W g y)(cd nm:Int):@GOk p B (putA W (w.heap.size+1) cd nm) g y:=
 GOk.leave o h (uX.setCell (uX.setCell (uX.refl _ W) (p:=⟨w.heap.size+1,0,none⟩) ⟨by show w.heap.size<=w.heap.size+1;omega,by rw[a6f];show w.heap.size+1<w.heap.size+2;omega⟩ _) (p:=⟨w.heap.size+1,1,none⟩) ⟨by show w.heap.size<=w.heap.size+1;omega,by rw[a6f];show w.heap.size+1<w.heap.size+2;omega⟩ _)
theorem GOk.doneD{p p1:Inhabited uN}{y:Hp}(o:Own p w.heap.size (doW w op a b c n).heap.size (doW w op a b c n) p1)(h:@GOk p1 B W g y)(cd nm:Int):@GOk p B (putA W (w.heap.size+1) cd nm).drew g y:=
 GOk.leave o h (uX.drew (uX.setCell (uX.setCell (uX.refl _ W) (p:=⟨w.heap.size+1,0,none⟩) ⟨by show w.heap.size<=w.heap.size+1;omega,by rw[a6f];show w.heap.size+1<w.heap.size+2;omega⟩ _) (p:=⟨w.heap.size+1,1,none⟩) ⟨by show w.heap.size<=w.heap.size+1;omega,by rw[a6f];show w.heap.size+1<w.heap.size+2;omega⟩ _))
theorem uW{v:World}{r:Nat}(h:Ext v W)(hr:v.heap.size<=r)(cd nm:Int):Ext v (putA W r cd nm):=(h.setCell (p:=⟨r,0,none⟩) hr _).setCell (p:=⟨r,1,none⟩) hr _
abbrev dC[Inhabited uN](B g:Nat)(x:Hp)(a b c:Nat)(n:Int)(k:Nat)(v:World)(e:Ending)(w':World):Prop:=∃(y:Hp) (cd nm:Int),Hid (e=.returned (eY cd nm))/\Hid (DoR x a b c n y cd nm k)/\Hid (GOk B w' g y)/\Ext v w'
theorem l5do_2[p:Inhabited uN](B g:Nat)(x:Hp)(a b c:Nat)(n:Int)(w:World)(h:GOk B w g x)(s:Snd x)(ok:dU 2 a b c n=true)(ha:a<16)(v:World)(hv:v.heap.size<=B)(hx:Ext v w):
  Calls Tryz.prog 234 #[.pointer (some ⟨g,0,none⟩),qZ 2 a b c n] w λe w'=>dC B g x a b c n 2 v e w':=by
 obtain⟨p1,o1,g1⟩:=GOk.enter h (w0:=doW w 2 a b c n) (((Ext.refl w).alloc _).alloc _);obtain⟨br,kr,hr⟩:=g1.regs s.r1.regs;have O1:=uU o1;have HR:=uU hr;have QA:=uU (λW=>hE 2 a b c n W);rw[ok] at QA;have i0:(0:Int)<=(a:Int):=by omega
 have i1:(a:Int)<16:=by omega
 have V0:=uU (show v.heap.size<=w.heap.size+1 by have:=hx.size;omega);have XD:=uU (show Ext v (doW w 2 a b c n) from(hx.alloc _).alloc _);have BX:=uU (eQ.new w 2 a b c n);clear h s hr o1 g1;go_enter Tryz.func234,Tryz.ntmps234;go_wp2_with fail;refine(QA _).mono ?_;rintro e w1 ⟨rfl,x1⟩;have X1:=uU (XD.trans x1);have BX1:=uU (BX.ext x1);have R1:=uU (HR.ext x1);obtain⟨t0,t1,t2,t3,t4,t5,t6,t7⟩:=uH BX1;have c3:=R1.c3;obtain⟨r0,r1,r2⟩:=R1.r a ha;have f:=R1.f;have hg1:g<w1.heap.size:=uL c3;have hb1:br<w1.heap.size:=uL r0;have hw1:w.heap.size<w1.heap.size:=uL t0;have hbB:=R1.lo.1;have FN:=uU (show GOk B (dJ w1 br (a*3) ⟨1,n,0⟩) g (regTo x a ⟨1,n,0⟩)/\Ext v (dJ w1 br (a*3) ⟨1,n,0⟩) from⟨R1.set w1 a ⟨1,n,0⟩ (Ext.refl _) ha,(a0e w1 br (a*3) ⟨1,n,0⟩).ext X1 (λq hq e=>by omega)⟩);obtain⟨W2,hW2⟩:∃W,W=dJ w1 br (a*3) ⟨1,n,0⟩:=⟨_,rfl⟩;rw[<-hW2] at FN;unfold dJ at hW2;clear x1 QA t2 t3 BX1 BX XD HR;go_wp2_with fail
 go_region
 go_wp2_with fail;rw[<-hW2];refine(cK 0 _).mono ?_;rintro e w3 ⟨rfl,x3⟩;have x23:=Ext.trans (Ext.refl W2).drew x3;have G3:=uU (FN.1.ext x23);have X3:=uU (FN.2.trans x23);obtain⟨u0,u1,u2,u3,u4,u5,u6,u7⟩:=G3.boxes O1;have hw3:w.heap.size+1<w3.heap.size:=uL u5;clear hW2 FN c3 r0 r1 r2 f t0 t1 t4 t5 t6 t7 x3 x23;go_wp2_with fail;refine bodyPost_ret (v:=eY 0 0) (by simp [results,Tryz.results234,go_sem,u5,u6]) rfl ?_;exact⟨_,0,0,rfl,⟨rfl,rfl,rfl⟩,GOk.done O1 G3 0 0,uW X3 V0 0 0⟩
theorem wd_eq0(a b:Wd)(w:World):(Op.equalIn 10000 152 (.agg #[iv a.k,iv a.n,iv a.a]) (.agg #[iv b.k,iv b.n,iv b.a])).run Tryz.prog w=.ok (wdB a b) w:=by
 rw[run_equalIn_struct w 9999 _ _ _ (by kernel_rfl) (by kernel_rfl)];simp [go_sem,wdB]
 repeat' split
 all_goals simp_all
theorem wd_eq(a b:Wd)(w:World):(binOp .eql 152 (.agg #[iv a.k,iv a.n,iv a.a]) (.agg #[iv b.k,iv b.n,iv b.a])).run Tryz.prog w=.ok (.bool (wdB a b)) w:=by
 rw[run_eql_struct,wd_eq0];rfl
theorem l5do_3[p:Inhabited uN](B g:Nat)(x:Hp)(a b c:Nat)(n:Int)(w:World)(h:GOk B w g x)(s:Snd x)(ok:dU 3 a b c n=true)(ha:a<16)(v:World)(hv:v.heap.size<=B)(hx:Ext v w):
  Calls Tryz.prog 234 #[.pointer (some ⟨g,0,none⟩),qZ 3 a b c n] w λe w'=>dC B g x a b c n 3 v e w':=by
 obtain⟨p1,o1,g1⟩:=GOk.enter h (w0:=doW w 3 a b c n) (((Ext.refl w).alloc _).alloc _);obtain⟨br,kr,hr⟩:=g1.regs s.r1.regs;have HR:=uU hr;have O1:=uU o1;have QA:=uU (λW=>hE 3 a b c n W);rw[ok] at QA;have V0:=uU (show v.heap.size<=w.heap.size+1 by have:=hx.size;omega);have XD:=uU (show Ext v (doW w 3 a b c n) from(hx.alloc _).alloc _);have BX:=uU (eQ.new w 3 a b c n);have i0:(0:Int)<=(a:Int):=by omega
 have i1:(a:Int)<16:=by omega
 clear h s hr o1 g1;go_enter Tryz.func234,Tryz.ntmps234;go_wp2_with fail;refine(QA _).mono ?_;rintro e w1 ⟨rfl,x1⟩;have X1:=uU (XD.trans x1);have BX1:=uU (BX.ext x1);obtain⟨t0,t1,t2,t3,t4,t5,t6,t7⟩:=uH BX1;have hw1:w.heap.size+1<w1.heap.size:=uL t5;have hw0:w.heap.size<w1.heap.size:=uL t0;have R1:=uU (HR.ext x1);have c3:=R1.c3;obtain⟨r0,r1,r2⟩:=R1.r a ha;have f:=R1.f;have hg1:g<w1.heap.size:=uL c3;have hb1:br<w1.heap.size:=uL r0;have hbB:=R1.lo.1;have FN:=uU (show GOk B (dJ w1 br (a*3) Wd0) g (regTo x a Wd0)/\Ext v (dJ w1 br (a*3) Wd0) from⟨R1.set w1 a Wd0 (Ext.refl _) ha,(a0e w1 br (a*3) Wd0).ext X1 (λq hq e=>by omega)⟩);obtain⟨W2,hW2⟩:∃W,W=dJ w1 br (a*3) Wd0:=⟨_,rfl⟩;rw[<-hW2] at FN;unfold dJ Wd0 at hW2;clear x1 QA BX1 BX XD HR;go_wp2_with fail
 go_region
 go_wp2_with fail;rw[<-hW2];refine(cK 0 _).mono ?_;rintro e w3 ⟨rfl,x3⟩;have x23:=Ext.trans (Ext.refl W2).drew x3;have G3:=uU (FN.1.ext x23);have X3:=uU (FN.2.trans x23);clear hW2 FN c3 r0 r1 r2 f t0 t1 t2 t3 t4 t5 t6 t7 x3 x23;obtain⟨u0,u1,u2,u3,u4,u5,u6,u7⟩:=G3.boxes O1;have hw3:w.heap.size+1<w3.heap.size:=uL u5;go_wp2_with fail;refine bodyPost_ret (v:=eY 0 0) (by simp [results,Tryz.results234,go_sem,u5,u6]) rfl ?_;exact⟨_,0,0,rfl,⟨rfl,rfl,rfl⟩,GOk.done O1 G3 0 0,uW X3 V0 0 0⟩
theorem l5do_4[p:Inhabited uN](B g:Nat)(x:Hp)(a b c:Nat)(n:Int)(w:World)(h:GOk B w g x)(s:Snd x)(ok:dU 4 a b c n=true)(ha:a<16)(hb:b<16)(v:World)(hv:v.heap.size<=B)(hx:Ext v w):
  Calls Tryz.prog 234 #[.pointer (some ⟨g,0,none⟩),qZ 4 a b c n] w λe w'=>dC B g x a b c n 4 v e w':=by
 obtain⟨p1,o1,g1⟩:=GOk.enter h (w0:=doW w 4 a b c n) (((Ext.refl w).alloc _).alloc _);obtain⟨br,kr,hr⟩:=g1.regs s.r1.regs;have HR:=uU hr;have O1:=uU o1;have QA:=uU (λW=>hE 4 a b c n W);rw[ok] at QA;have V0:=uU (show v.heap.size<=w.heap.size+1 by have:=hx.size;omega);have XD:=uU (show Ext v (doW w 4 a b c n) from(hx.alloc _).alloc _);have BX:=uU (eQ.new w 4 a b c n);have i0:(0:Int)<=(a:Int):=by omega
 have i1:(a:Int)<16:=by omega
 have j0:(0:Int)<=(b:Int):=by omega
 have j1:(b:Int)<16:=by omega
 clear h s hr o1 g1;go_enter Tryz.func234,Tryz.ntmps234;go_wp2_with fail;refine(QA _).mono ?_;rintro e w1 ⟨rfl,x1⟩;have X1:=uU (XD.trans x1);have BX1:=uU (BX.ext x1);obtain⟨t0,t1,t2,t3,t4,t5,t6,t7⟩:=uH BX1;have hw1:w.heap.size+1<w1.heap.size:=uL t5;have hw0:w.heap.size<w1.heap.size:=uL t0;have R1:=uU (HR.ext x1);have c3:=R1.c3;obtain⟨r0,r1,r2⟩:=R1.r a ha;obtain⟨s0,s1,s2⟩:=R1.r b hb;have f:=R1.f;have hg1:g<w1.heap.size:=uL c3;have hb1:br<w1.heap.size:=uL r0;have hbB:=R1.lo.1;have FN:=uU (show GOk B (dJ w1 br (a*3) (x.r b)) g (regTo x a (x.r b))/\Ext v (dJ w1 br (a*3) (x.r b)) from⟨R1.set w1 a (x.r b) (Ext.refl _) ha,(a0e w1 br (a*3) (x.r b)).ext X1 (λq hq e=>by omega)⟩);obtain⟨W2,hW2⟩:∃W,W=dJ w1 br (a*3) (x.r b):=⟨_,rfl⟩;rw[<-hW2] at FN;unfold dJ at hW2;clear x1 QA BX1 BX XD HR;go_wp2_with fail
 go_region
 go_wp2_with fail;rw[<-hW2];refine(cK 0 _).mono ?_;rintro e w3 ⟨rfl,x3⟩;have x23:=Ext.trans (Ext.refl W2).drew x3;have G3:=uU (FN.1.ext x23);have X3:=uU (FN.2.trans x23);clear hW2 FN c3 r0 r1 r2 f t0 t1 t2 t3 t4 t5 t6 t7 x3 x23 s0 s1 s2;obtain⟨u0,u1,u2,u3,u4,u5,u6,u7⟩:=G3.boxes O1;have hw3:w.heap.size+1<w3.heap.size:=uL u5;go_wp2_with fail;refine bodyPost_ret (v:=eY 0 0) (by simp [results,Tryz.results234,go_sem,u5,u6]) rfl ?_;exact⟨_,0,0,rfl,⟨rfl,rfl,rfl⟩,GOk.done O1 G3 0 0,uW X3 V0 0 0⟩
end Go.Proofs.YtddkhnclmeikfaaGreat
