import Derived.Test.YtddkhnclmeikfaaGreatImpF
import Derived.Test.YtddkhnclmeikfaaGreatSpecI
set_option maxRecDepth 100000
set_option maxHeartbeats 8000000
namespace Go.Proofs.YtddkhnclmeikfaaGreat
open Go.RowKit
attribute [local go_sem ↓] Go.wp_at_zero Go.wp_at_succ
variable{ag an ar ac:Option Addr}{kg kn kr kc:Nat}
theorem b0h(x:Hp)(b:Nat)(y:Wd)(md:Bool)(w:World)(h:VAt w b x ar kr ac kc ag kg an kn):
  Calls Tryz.prog 176 #[.pointer (some ⟨b,0,none⟩),y.v,.bool md] w λe w'=>e=.returned (.bool (qQ x y (!md)))/\Ext w w':=by
 have hb:b<w.heap.size:=uL h.n13;go_enter Tryz.func176,Tryz.ntmps176;go_wp2_with fail;refine(a8k y b x.A.length an kn _ (Ext.keep ((Ext.refl w).alloc _) h.n13) h.H.lc).mono ?_;rintro e w1 ⟨rfl,hq1⟩;have x1:Ext w w1:=Ext.trans ((Ext.refl w).alloc _) hq1;have a0:=hq1.keep (b:=w.heap.size) (o:=0) (v:=iv y.k) (by simp [go_sem]);have a1:=hq1.keep (b:=w.heap.size) (o:=1) (v:=iv y.n) (by simp [go_sem]);have a2:=hq1.keep (b:=w.heap.size) (o:=2) (v:=iv y.a) (by simp [go_sem]);cases qf:dJ y x.A.length
 ·have E:=uU (show qQ x y (!md)=false by simp [qQ,qf]);go_wp2_with fail;go_ret;exact⟨by rw[uH E];rfl,x1⟩
 cases qk:(y.k == 2)
 ·have E:=uU (show qQ x y (!md)=true by simp [qQ,qf,qk]);go_wp2_with fail;refine(a7j y b _ qk).mono ?_;rintro e w2 ⟨rfl,hq2⟩;go_wp2_with fail;go_ret;exact⟨by rw[uH E];rfl,x1.trans hq2⟩
 have q1:y.k=2:=by simpa using qk
 have hf:=a0j.1 qf;unfold uE at hf;have hr:0<=y.a/\y.a<x.A.length:=by omega
 have E0:=uU (show qQ x y (!md)=(if (x.c y.a.toNat).st=2 then !md else ((x.c y.a.toNat).st == 1) && !a0n x y.a.toNat) by simp [qQ,qf,q1]);obtain⟨i,hi⟩:=Int.eq_ofNat_of_zero_le hr.1;rw[hi] at E0 a2;rw[Int.toNat_natCast] at E0;have hin:i<x.A.length:=by omega
 clear q1 hf hr hi;have h1:=h.ext x1;obtain⟨bn,on,bc,oc,rfl,rfl,m0,m1⟩:=h1.N i hin;obtain⟨bc',oc',ap,kp,e2,C⟩:=h1.H.cell i hin;cases e2;have HD:=uU (λw' (e:Ext w1 w')=>b3b x b i w' (h1.ext e) hin bn on rfl);have HF:=uU (a2v y b x.A.length bn on kn i w1 qk h1.n13 hin);clear h h1;go_wp2_with fail;refine HF.mono ?_;rintro e w2 ⟨rfl,hq2⟩;have x2:Ext w w2:=x1.trans hq2;have u1:=hq2.keep m1;have r0:=hq2.keep C.p0;have HD2:=uU (HD w2 hq2);clear C m0 m1 a0 a1 a2;cases qs:((x.c i).st == 2)
 ·have qs':¬(x.c i).st=2:=by simpa using qs
  have E:=uU (show qQ x y (!md)=(((x.c i).st == 1) && !a0n x i) by rw[uH E0,if_neg qs']);cases qu:((x.c i).st == 1)
  ·go_wp2_with fail;go_ret;exact⟨by rw[uH E,qu];rfl,x2⟩
  ·go_wp2_with (go_at_call 177;refine HD2.mono ?_;rintro e w3 ⟨rfl,hq3⟩);go_ret;exact⟨by rw[uH E,qu];simp,x2.trans hq3⟩
 ·have qs':(x.c i).st=2:=by simpa using qs
  have E:=uU (show qQ x y (!md) = !md by rw[uH E0,if_pos qs']);clear qs';go_wp2_with fail;go_ret;exact⟨by rw[uH E];rfl,x2⟩
theorem b4f(x:Hp)(b k:Nat)(w:World)(h:VAt w b x ar kr ac kc ag kg an kn)(hlt:k<x.A.length)(bn on:Nat)(ha:an=some ⟨bn,on,none⟩):
  Calls Tryz.prog 179 #[.pointer (some ⟨b,0,none⟩),.pointer (some ⟨bn,on+k*2,none⟩)] w λe w'=>∃r:Bool,e=.returned (.bool r)/\(r=true↔∀l,l<(x.c k).F.length->cL x ((x.c k).p l).key (¬cX x k l)/\cL x ((x.c k).p l).val (¬cX x k l))/\Ext w w':=by
 obtain⟨bn',on',bc,oc,e1,rfl,m0,m1⟩:=h.N k hlt;rw[ha] at e1;cases e1;obtain⟨bc',oc',ap,kp,e2,C⟩:=h.H.cell k hlt;cases e2;have p7:=C.p7;have lp:=C.lp;have HP:=uU C.P;have HC:=uU C;have M0:=uU m0;clear m0 C;go_enter Tryz.func179,Tryz.ntmps179;go_wp2_with fail;go_loopw [16] (λi wr=>∃l:Nat,l<=(x.c k).F.length/\i=.int .i64 l/\(∀j,j<l->cL x ((x.c k).p j).key (¬cX x k j)/\cL x ((x.c k).p j).val (¬cX x k j))/\Ext w wr) (λi _=>(x.c k).F.length-(intOf i).toNat)
 case atStart=>exact⟨0,Nat.zero_le _,rfl,λj h=>by omega,Ext.refl _⟩
 case round=>
  obtain⟨l,hl,rfl,hall,hbl⟩:=hrel;have HB:=uU hall;clear hall;by_cases hl2:l<(x.c k).F.length
  ·obtain⟨b2,o2,rfl,q0,q1,q2,q3,q4,q5⟩:=uH HP l hl2;have e0:=hbl.keep q0;have e1:=hbl.keep q1;have e2:=hbl.keep q2;have e3:=hbl.keep q3;have e4:=hbl.keep q4;have e5:=hbl.keep q5;have hb2:b2<wr.heap.size:=uL e0;clear q0 q1 q2 q3 q4 q5 p7 m1;have hl0:(0:Int)<=(l:Int):=by omega
   have hl1:(l:Int)<((x.c k).F.length:Int):=by omega
   have hx3:=hbl.alloc (.cells #[.int .i64 ((x.c k).p l).key.k,.int .i64 ((x.c k).p l).key.n,.int .i64 ((x.c k).p l).key.a,.int .i64 ((x.c k).p l).val.k,.int .i64 ((x.c k).p l).val.n,.int .i64 ((x.c k).p l).val.a] 154);have hmm:((!eD x k l)=true↔¬cX x k l):=by rw[<-b0z];simp
   have K1:=uU (a1n (x:=x) (y:=((x.c k).p l).key) hmm);have K2:=uU (a1n (x:=x) (y:=((x.c k).p l).val) hmm);clear hmm;go_wp2_with fail;have hv:=h.ext hx3;refine(c1m x b bn (on+k*2) k l _ hv.H.c5 hv.H.c6 hv.H.c7 (hx3.keep M0)).mono ?_;rintro e w2 ⟨rfl,hq2⟩;have x2:=hx3.trans hq2;have u:=λ(o:Nat) (v:Value) (hc:(wr.alloc (.cells #[.int .i64 ((x.c k).p l).key.k,.int .i64 ((x.c k).p l).key.n,.int .i64 ((x.c k).p l).key.a,.int .i64 ((x.c k).p l).val.k,.int .i64 ((x.c k).p l).val.n,.int .i64 ((x.c k).p l).val.a] 154)).cell? ⟨wr.heap.size,o,none⟩=some v)=>hq2.keep hc
   have u0:=u 0 _ (by simp [go_sem];rfl);have u1:=u 1 _ (by simp [go_sem];rfl);have u2:=u 2 _ (by simp [go_sem];rfl);have u3:=u 3 _ (by simp [go_sem];rfl);have u4:=u 4 _ (by simp [go_sem];rfl);have u5:=u 5 _ (by simp [go_sem];rfl);clear u hv e0 e1 e2 e3 e4 e5;go_wp2_with fail;refine(b0h x b ((x.c k).p l).key (eD x k l) _ (h.ext x2)).mono ?_;rintro e w3 ⟨rfl,hq3⟩;have x3:=x2.trans hq3;have v3:=hq3.keep u3;have v4:=hq3.keep u4;have v5:=hq3.keep u5;clear u0 u1 u2 u3 u4 u5;cases tk:qQ x ((x.c k).p l).key (!eD x k l)
   ·have N:=uU (show ¬(∀l,l<(x.c k).F.length->cL x ((x.c k).p l).key (¬cX x k l)/\cL x ((x.c k).p l).val (¬cX x k l)) from λr=>by
     have:=K1.2 (r l hl2).1;rw[this] at tk;simp at tk)
    go_wp2_with fail;go_ret
    first | (exact Or.inl ⟨rfl,N,x3⟩) | (exact⟨false,rfl,⟨λf=>by simp at f,λr=>(N r).elim⟩,x3⟩)
   ·go_wp2_with fail;refine(b0h x b ((x.c k).p l).val (eD x k l) _ (h.ext x3)).mono ?_;rintro e w4 ⟨rfl,hq4⟩;have x4:=x3.trans hq4;cases tv:qQ x ((x.c k).p l).val (!eD x k l)
    ·have N:=uU (show ¬(∀l,l<(x.c k).F.length->cL x ((x.c k).p l).key (¬cX x k l)/\cL x ((x.c k).p l).val (¬cX x k l)) from λr=>by
      have:=K2.2 (r l hl2).2;rw[this] at tv;simp at tv)
     go_wp2_with fail;go_ret
     first | (exact Or.inl ⟨rfl,N,x4⟩) | (exact⟨false,rfl,⟨λf=>by simp at f,λr=>(N r).elim⟩,x4⟩)
    ·have S:=uU (show ∀j,j<l+1->cL x ((x.c k).p j).key (¬cX x k j)/\cL x ((x.c k).p j).val (¬cX x k j) from λj hj=>by
      by_cases e:j=l
      ·subst e;exact⟨K1.1 tk,K2.1 tv⟩
      ·exact HB j (by omega))
     go_wp2_with fail;go_roundw
     case rel=>exact⟨l+1,by omega,by go_num,S,x4⟩
     case measure=>simp [intOf];omega
  ·have Y:=uU (show ∀l,l<(x.c k).F.length->cL x ((x.c k).p l).key (¬cX x k l)/\cL x ((x.c k).p l).val (¬cX x k l) from λj hj=>uH HB j (by omega));go_wp2_with fail;go_ret
   first | (exact Or.inr ⟨rfl,Y,hbl⟩) | (exact⟨true,rfl,⟨λ_=>uH Y,λ_=>rfl⟩,hbl⟩)
theorem b3c(x:Hp)(b k:Nat)(w:World)(h:VAt w b x ar kr ac kc ag kg an kn)(hlt:k<x.A.length)(bn on:Nat)(ha:an=some ⟨bn,on,none⟩):
  Calls Tryz.prog 178 #[.pointer (some ⟨b,0,none⟩),.pointer (some ⟨bn,on+k*2,none⟩)] w λe w'=>∃r:Bool,e=.returned (.bool r)/\(r=true↔(∀l,l<(x.c k).F.length->uE ((x.c k).p l).key x.A.length/\uE ((x.c k).p l).val x.A.length)/\¬cU (x.c k))/\Ext w w':=by
 obtain⟨bn',on',bc,oc,e1,rfl,m0,m1⟩:=h.N k hlt;rw[ha] at e1;cases e1;obtain⟨bc',oc',ap,kp,e2,C⟩:=h.H.cell k hlt;cases e2;have p7:=C.p7;have lp:=C.lp;have HP:=uU C.P;have HC:=uU C;clear m0 C;go_enter Tryz.func178,Tryz.ntmps178;go_wp2_with fail;go_loopw [15] (λi wr=>∃l:Nat,l<=(x.c k).F.length/\i=.int .i64 l/\(∀j,j<l->uE ((x.c k).p j).key x.A.length/\uE ((x.c k).p j).val x.A.length)/\Ext w wr) (λi _=>(x.c k).F.length-(intOf i).toNat)
 case atStart=>exact⟨0,Nat.zero_le _,rfl,λj h=>by omega,Ext.refl _⟩
 case round=>
  obtain⟨l,hl,rfl,hall,hbl⟩:=hrel;have HB:=uU hall;clear hall;by_cases hl2:l<(x.c k).F.length
  ·obtain⟨b2,o2,rfl,q0,q1,q2,q3,q4,q5⟩:=uH HP l hl2;have e0:=hbl.keep q0;have e1:=hbl.keep q1;have e2:=hbl.keep q2;have e3:=hbl.keep q3;have e4:=hbl.keep q4;have e5:=hbl.keep q5;have hb2:b2<wr.heap.size:=uL e0;clear q0 q1 q2 q3 q4 q5 p7 m1;have hl0:(0:Int)<=(l:Int):=by omega
   have hl1:(l:Int)<((x.c k).F.length:Int):=by omega
   have hx3:=hbl.alloc (.cells #[.int .i64 ((x.c k).p l).key.k,.int .i64 ((x.c k).p l).key.n,.int .i64 ((x.c k).p l).key.a,.int .i64 ((x.c k).p l).val.k,.int .i64 ((x.c k).p l).val.n,.int .i64 ((x.c k).p l).val.a] 154);go_wp2_with fail;refine(a8k ((x.c k).p l).key b x.A.length an kn _ (h.ext hx3).n13 h.H.lc).mono ?_;rintro e w3 ⟨rfl,hq3⟩;have x3:=hx3.trans hq3;have u:=λ(o:Nat) (v:Value) (hc:(wr.alloc (.cells #[.int .i64 ((x.c k).p l).key.k,.int .i64 ((x.c k).p l).key.n,.int .i64 ((x.c k).p l).key.a,.int .i64 ((x.c k).p l).val.k,.int .i64 ((x.c k).p l).val.n,.int .i64 ((x.c k).p l).val.a] 154)).cell? ⟨wr.heap.size,o,none⟩=some v)=>hq3.keep hc
   have v3:=u 3 _ (by simp [go_sem];rfl);have v4:=u 4 _ (by simp [go_sem];rfl);have v5:=u 5 _ (by simp [go_sem];rfl);clear u e0 e1 e2 e3 e4 e5;cases tk:dJ ((x.c k).p l).key x.A.length
   ·have N:=uU (show ¬((∀l,l<(x.c k).F.length->uE ((x.c k).p l).key x.A.length/\uE ((x.c k).p l).val x.A.length)/\¬cU (x.c k)) from λr=>by
     have:=a0j.2 (r.1 l hl2).1;rw[this] at tk;simp at tk)
    go_wp2_with fail;go_ret
    first | (exact Or.inl ⟨rfl,N,x3⟩) | (exact⟨false,rfl,⟨λf=>by simp at f,λr=>(N r).elim⟩,x3⟩)
   ·go_wp2_with fail;refine(a8k ((x.c k).p l).val b x.A.length an kn _ (h.ext x3).n13 h.H.lc).mono ?_;rintro e w4 ⟨rfl,hq4⟩;have x4:=x3.trans hq4;cases tv:dJ ((x.c k).p l).val x.A.length
    ·have N:=uU (show ¬((∀l,l<(x.c k).F.length->uE ((x.c k).p l).key x.A.length/\uE ((x.c k).p l).val x.A.length)/\¬cU (x.c k)) from λr=>by
      have:=a0j.2 (r.1 l hl2).2;rw[this] at tv;simp at tv)
     go_wp2_with fail;go_ret
     first | (exact Or.inl ⟨rfl,N,x4⟩) | (exact⟨false,rfl,⟨λf=>by simp at f,λr=>(N r).elim⟩,x4⟩)
    ·have S:=uU (show ∀j,j<l+1->uE ((x.c k).p j).key x.A.length/\uE ((x.c k).p j).val x.A.length from λj hj=>by
      by_cases e:j=l
      ·subst e;exact⟨a0j.1 tk,a0j.1 tv⟩
      ·exact HB j (by omega))
     go_wp2_with fail;go_roundw
     case rel=>exact⟨l+1,by omega,by go_num,S,x4⟩
     case measure=>simp [intOf];omega
  ·have Y:=uU (show ∀l,l<(x.c k).F.length->uE ((x.c k).p l).key x.A.length/\uE ((x.c k).p l).val x.A.length from λj hj=>uH HB j (by omega));have HS:=uU (a2u (x.c k) bn (on+k*2) bc (oc+k*8) ap kp wr (hbl.keep m1) (HC.ext hbl));cases ts:a0r (x.c k)
   ·have Z:=uU (show(∀l,l<(x.c k).F.length->uE ((x.c k).p l).key x.A.length/\uE ((x.c k).p l).val x.A.length)/\¬cU (x.c k) from⟨Y,λhs=>by rw[<-a3b,ts] at hs;simp at hs⟩);go_wp2_with (go_at_call 166;refine HS.mono ?_;rintro e w' ⟨rfl,rfl⟩);go_ret
    first | (exact Or.inr ⟨by simp,Z,hbl⟩) | (exact⟨true,by simp,⟨λ_=>uH Z,λ_=>rfl⟩,hbl⟩)
   ·have N:=uU (show ¬((∀l,l<(x.c k).F.length->uE ((x.c k).p l).key x.A.length/\uE ((x.c k).p l).val x.A.length)/\¬cU (x.c k)) from λr=>r.2 (a3b.1 ts));go_wp2_with (go_at_call 166;refine HS.mono ?_;rintro e w' ⟨rfl,rfl⟩);go_ret
    first | (exact Or.inl ⟨by simp,N,hbl⟩) | (exact⟨false,by simp,⟨λf=>by simp at f,λr=>(N r).elim⟩,hbl⟩)
theorem b4g(x:Hp)(b:Nat)(w:World)(h:VAt w b x ar kr ac kc ag kg an kn):
  Calls Tryz.prog 110 #[.pointer (some ⟨b,0,none⟩)] w λe w'=>∃r:Bool,e=.returned (.bool r)/\(r=true↔R4 x)/\Ext w w':=by
 have c3:=h.H.c3;have lr:=h.H.lr;have lc:=h.H.lc;go_enter Tryz.func110,Tryz.ntmps110;go_wp2_with fail;go_loopw [13] (λi wr=>∃k:Nat,k<=x.B.length/\i=.int .i64 k/\(∀j (hj:j<x.B.length),j<k->cL x x.B[j] False)/\Ext w wr) (λi _=>x.B.length-(intOf i).toNat)
 case atStart=>exact⟨0,Nat.zero_le _,rfl,λj hj h=>by omega,Ext.refl _⟩
 case round=>
  obtain⟨k,hk,rfl,hall,hbl⟩:=hrel;have HA:=uU hall;clear hall;by_cases hlt:k<x.B.length
  ·obtain⟨b',o,rfl,p0,p1,p2⟩:=(h.ext hbl).H.R k hlt;have hb':b'<wr.heap.size:=uL p0;have hk0:(0:Int)<=(k:Int):=by omega
   have hk1:(k:Int)<(x.B.length:Int):=by omega
   go_wp2_with fail;refine(b0h x b x.B[k] true _ (h.ext (hbl.alloc _))).mono ?_;rintro e w1 ⟨rfl,hq1⟩;have x1:Ext w w1:=(hbl.alloc _).trans hq1;cases q:qQ x x.B[k] (!true)
   ·have N:=uU (show ¬R4 x from λr=>by
     have:=(a1n (m:=!true) (p:=False) (by simp)).2 (r.1 k hlt);rw[this] at q;simp at q)
    go_wp2_with fail;go_ret
    first | (exact Or.inl ⟨rfl,N,x1⟩) | (exact⟨false,rfl,⟨λf=>by simp at f,λr=>(N r).elim⟩,x1⟩)
   ·have S:=uU (show ∀j (hj:j<x.B.length),j<k+1->cL x x.B[j] False from λj hj hjk=>by
     by_cases e:j=k
     ·subst e;exact(a1n (m:=!true) (p:=False) (by simp)).1 q
     ·exact HA j hj (by omega))
    go_wp2_with fail;go_roundw
    case rel=>exact⟨k+1,by omega,by go_num,S,x1⟩
    case measure=>simp [intOf];omega
  ·have A1:=uU (show ∀j (hj:j<x.B.length),cL x x.B[j] False from λj hj=>uH HA j hj (by omega));clear HA;have d13:=(h.ext hbl).n13;go_wp2_with fail;clear hlt hk;go_loopw [27] (λi wr=>∃k:Nat,k<=x.A.length/\i=.int .i64 k/\(∀j,j<k->¬(hY x j/\cU (x.c j))/\∀l,l<(x.c j).F.length->a2m x j l ((x.c j).p l))/\Ext w wr) (λi _=>x.A.length-(intOf i).toNat)
   case atStart=>exact⟨0,Nat.zero_le _,rfl,λj h=>by omega,hbl⟩
   case round=>
    clear hbl d13;obtain⟨k,hk,rfl,hall,hbl⟩:=hrel;have HA:=uU hall;clear hall;by_cases hlt:k<x.A.length
    ·have h1:=h.ext hbl;obtain⟨bn,on,bc,oc,rfl,rfl,m0,m1⟩:=h1.N k hlt;have d13:=h1.n13;have hk0:(0:Int)<=(k:Int):=by omega
     have hk1:(k:Int)<(x.A.length:Int):=by omega
     go_wp2_with fail;refine(b3b x b k _ h1 hlt bn on rfl).mono ?_;rintro e w2 ⟨rfl,hq2⟩;have h2:=h1.ext hq2;have x2:=hbl.trans hq2;cases td:a0n x k
     ·have ND:=uU (show ¬hY x k from λhd=>by rw[<-a2b,td] at hd;simp at hd);go_wp2_with fail;refine(b4f x b k _ h2 hlt bn on rfl).mono ?_;rintro e w3 ⟨r,rfl,hr,hq3⟩;have x3:=x2.trans hq3;cases r
      ·have N:=uU (show ¬R4 x from λr4=>by
        have:=hr.2 (λl hl=>((r4.2 k hlt).2 l hl).2 ND);simp at this)
       clear hr;go_wp2_with fail;go_ret
       first | (exact Or.inl ⟨rfl,N,x3⟩) | (exact⟨false,rfl,⟨λf=>by simp at f,λr=>(N r).elim⟩,x3⟩)
      ·have S:=uU (show ∀j,j<k+1->¬(hY x j/\cU (x.c j))/\∀l,l<(x.c j).F.length->a2m x j l ((x.c j).p l) from λj hj=>by
        by_cases e:j=k
        ·subst e;exact⟨λhd=>uH ND hd.1,λl hl=>⟨λhd=>(ND hd).elim,λ_=>hr.1 rfl l hl⟩⟩
        ·exact HA j (by omega))
       clear hr;go_wp2_with fail;go_roundw
       case rel=>exact⟨k+1,by omega,by go_num,S,x3⟩
       case measure=>simp [intOf];omega
     ·have DD:=uU (a2b.1 td);go_wp2_with fail;refine(b3c x b k _ h2 hlt bn on rfl).mono ?_;rintro e w3 ⟨r,rfl,hr,hq3⟩;have x3:=x2.trans hq3;cases r
      ·have N:=uU (show ¬R4 x from λr4=>by
        have:=hr.2 ⟨λl hl=>((r4.2 k hlt).2 l hl).1 DD,λhs=>(r4.2 k hlt).1 ⟨DD,hs⟩⟩;simp at this)
       clear hr;go_wp2_with fail;go_ret
       first | (exact Or.inl ⟨rfl,N,x3⟩) | (exact⟨false,rfl,⟨λf=>by simp at f,λr=>(N r).elim⟩,x3⟩)
      ·have S:=uU (show ∀j,j<k+1->¬(hY x j/\cU (x.c j))/\∀l,l<(x.c j).F.length->a2m x j l ((x.c j).p l) from λj hj=>by
        by_cases e:j=k
        ·subst e;exact⟨λhd=>(hr.1 rfl).2 hd.2,λl hl=>⟨λ_=>(hr.1 rfl).1 l hl,λnd=>(nd DD).elim⟩⟩
        ·exact HA j (by omega))
       clear hr;go_wp2_with fail;go_roundw
       case rel=>exact⟨k+1,by omega,by go_num,S,x3⟩
       case measure=>simp [intOf];omega
    ·have Y:=uU (show R4 x from⟨A1,λi hi=>uH HA i (by omega)⟩);go_wp2_with fail;go_ret
     first | (exact Or.inr ⟨rfl,Y,hbl⟩) | (exact⟨true,rfl,⟨λ_=>uH Y,λ_=>rfl⟩,hbl⟩)
theorem a6k(b:Nat)(w:World)(c8:w.cell? ⟨b,8,none⟩=some (.slice ag 0 kg)):
  Calls Tryz.prog 182 #[.pointer (some ⟨b,0,none⟩)] w λe w'=>e=.returned (.slice none 0 0)/\w'=w:=by
 go_enter Tryz.func182,Tryz.ntmps182;go_wp2_with fail;go_ret;exact⟨rfl,rfl⟩
theorem a6m(x:Hp)(b i:Nat)(w:World)(h:VAt w b x ar kr ac kc ag kg an kn)(hg:0<x.D.length)(hi:x.D[0]=(i:Int))(hin:i<x.A.length)(bc oc:Nat)(ap:Option Addr)(kp:Nat)(ha:ac=some ⟨bc,oc,none⟩)(C:CAt w bc (oc+i*8) (x.c i) ap kp):
  Calls Tryz.prog 182 #[.pointer (some ⟨b,0,none⟩)] w λe w'=>e=.returned (.slice ap (x.c i).F.length kp)/\∃m,w'=w.drewN m:=by
 obtain⟨bn,on,bc',oc',rfl,e1,m0,m1⟩:=h.N i hin;rw[ha] at e1;cases e1;obtain⟨bg,og,rfl,pg⟩:=h.H.G 0 hg;unfold yD at pg;rw[hi] at pg;simp only [Nat.zero_mul,Nat.add_zero] at pg;have c8:=h.H.c8;have n13:=h.n13;have p7:=C.p7;have hg3:((x.D.length:Int) == 0)=false:=beq_eq_false_iff_ne.2 (by omega);have hg4:(0:Int)<(x.D.length:Int):=by omega
 have hi0:(0:Int)<=(i:Int):=by omega
 have hi1:(i:Int)<(x.A.length:Int):=by omega
 clear h C hi;go_enter Tryz.func182,Tryz.ntmps182;go_wp2_with fail;go_quiet (fail);go_wp2_with fail;go_ret;exact⟨rfl,_,rfl⟩
theorem b3d(x:Hp)(b:Nat)(w:World)(c6:w.cell? ⟨b,6,none⟩=some (iv x.A.length))(n13:w.cell? ⟨b,13,none⟩=some (.slice an x.A.length kn)):
  Calls Tryz.prog 183 #[.pointer (some ⟨b,0,none⟩)] w λe w'=>e=.returned (.slice none 0 0)/\∃m,w'=w.drewN m:=by
 go_enter Tryz.func183,Tryz.ntmps183;go_wp2_with fail;go_quiet (fail);go_wp2_with fail;go_ret;exact⟨rfl,_,rfl⟩
theorem b3e(x:Hp)(b i:Nat)(w:World)(h:VAt w b x ar kr ac kc ag kg an kn)(hi:x.I=(i:Int))(hin:i<x.A.length)(bc oc:Nat)(ap:Option Addr)(kp:Nat)(ha:ac=some ⟨bc,oc,none⟩)(C:CAt w bc (oc+i*8) (x.c i) ap kp):
  Calls Tryz.prog 183 #[.pointer (some ⟨b,0,none⟩)] w λe w'=>e=.returned (.slice ap (x.c i).F.length kp)/\∃m,w'=w.drewN m:=by
 obtain⟨bn,on,bc',oc',rfl,e1,m0,m1⟩:=h.N i hin;rw[ha] at e1;cases e1;have c6:=h.H.c6;rw[hi] at c6;have n13:=h.n13;have p7:=C.p7;have hn:((i:Int) == (x.A.length:Int))=false:=beq_eq_false_iff_ne.2 (by omega);have hi0:(0:Int)<=(i:Int):=by omega
 have hi1:(i:Int)<(x.A.length:Int):=by omega
 clear h C hi;go_enter Tryz.func183,Tryz.ntmps183;go_wp2_with fail;go_quiet (fail);go_wp2_with fail;go_quiet (fail);go_wp2_with fail;go_ret;exact⟨rfl,_,by rw[World.drewN_drewN]⟩
theorem b4h(y:Wd)(b:Nat)(w:World)(k2:(y.k == 2)=false):
  Calls Tryz.prog 231 #[.pointer (some ⟨b,0,none⟩),y.v] w λe w'=>e=.returned (.bool false)/\Ext w w':=by
 go_enter Tryz.func231,Tryz.ntmps231;go_wp2_with fail;refine(a7j y b _ k2).mono ?_;rintro e w1 ⟨rfl,hq⟩;go_wp2_with fail;go_ret;exact⟨rfl,Ext.trans ((Ext.refl w).alloc _) hq⟩
theorem b0i(x:Hp)(b:Nat)(w:World)(h:VAt w b x ar kr ac kc ag kg an kn)(r1:R1 x)(r2:R2 x)(r5:R5 x):
  Calls Tryz.prog 112 #[.pointer (some ⟨b,0,none⟩)] w λe w'=>∃r:Bool,Hid (e=.returned (.bool r))/\(r=true↔R6 x)/\Ext w w':=by
 have c5:=h.H.c5;have c6:=h.H.c6;have c7:=h.H.c7;obtain⟨ph0,ph1⟩:=r1.E;obtain⟨hh0,hh1⟩:=r1.I;have hs0:=r1.sub.1;have hphase:x.E=0\/x.E=1\/x.E=2\/x.E=3\/x.E=4\/x.E=5\/x.E=6:=by omega
 clear ph0 ph1;rcases hphase with hp | hp | hp | hp | hp | hp | hp
 ·have Y:=uU (c2u (x:=x) (Or.inl hp));clear r1 r2 r5 h;cases q:(x.I == 0)
  all_goals
   go_enter Tryz.func112,Tryz.ntmps112;go_wp2_with fail;go_ret;exact⟨_,rfl,by have:=uH Y;rw[q] at this;simpa using this,Ext.refl _⟩
 ·have Y:=uU (R6_1 (x:=x) (Or.inl hp));clear r1 r2 r5 h;go_enter Tryz.func112,Tryz.ntmps112;go_wp2_with fail;go_ret;exact⟨_,rfl,Y,Ext.refl _⟩
 ·cases q:(x.I == 0)
  ·have Y:=uU (show ¬R6 x from λr=>by have:=(r.2.1 hp).1;simp at q;omega);clear r1 r2 r5 h;go_enter Tryz.func112,Tryz.ntmps112;go_wp2_with fail;go_quiet (fail);go_wp2_with fail;go_ret;exact⟨false,rfl,⟨λf=>by simp at f,λr=>(Y r).elim⟩,(Ext.refl _).drewN _⟩
  ·by_cases hg:x.D.length=0
   ·have Y:=uU (show decide (x.sub<=0)=true↔R6 x by
     have q2:x.I=0:=by simpa using q
     unfold R6;simp [hp,hg,q2];omega)
    have c8:=h.H.c8;rw[hg] at c8;have HG:=uU (λn=>a6k b (w.drewN n) (((Ext.refl w).drewN n).keep c8));clear r1 r2 r5 h hg c8;go_enter Tryz.func112,Tryz.ntmps112;go_wp2_with fail;go_quiet ((go_at_call 182;exact Calls.quiet_of_same (HG _)));go_wp2_with fail;go_ret;exact⟨_,rfl,Y,(Ext.refl _).drewN _⟩
   ·have hg0:0<x.D.length:=by omega
    have hgr:=r5.2.2 x.D[0] (List.getElem_mem hg0);obtain⟨i,hi⟩:=Int.eq_ofNat_of_zero_le hgr.1;have eg:x.g0=i:=by simp [Hp.g0,hg0,hi]
    have Y:=uU (show decide (x.sub<=((x.c i).F.length:Int))=true↔R6 x by
     have q2:x.I=0:=by simpa using q
     have hg2:x.D≠[]:=λe=>by simp [e] at hg
     unfold R6;rw[eg];simp [hp,hg2,q2])
    obtain⟨b',o,ap,kp,ea,C⟩:=h.H.cell i (by omega);have HG:=uU (λn=>a6m x b i (w.drewN n) (h.ext ((Ext.refl w).drewN n)) hg0 hi (by omega) b' o ap kp ea (C.ext ((Ext.refl w).drewN n)));clear r1 r2 r5 h C hgr hi eg hg hg0 ea;go_enter Tryz.func112,Tryz.ntmps112;go_wp2_with fail;go_quiet ((go_at_call 182;exact Calls.quiet_of (HG _)));go_wp2_with fail;go_ret;exact⟨_,rfl,Y,(Ext.refl _).drewN _⟩
 ·have Y:=uU (R6_1 (x:=x) (Or.inr (Or.inl hp)));clear r1 r2 r5 h;go_enter Tryz.func112,Tryz.ntmps112;go_wp2_with fail;go_ret;exact⟨_,rfl,Y,Ext.refl _⟩
 ·have Y:=uU (c2u (x:=x) (Or.inr hp));clear r1 r2 r5 h;cases q:(x.I == 0)
  all_goals
   go_enter Tryz.func112,Tryz.ntmps112;go_wp2_with fail;go_ret;exact⟨_,rfl,by have:=uH Y;rw[q] at this;simpa using this,Ext.refl _⟩
 ·obtain⟨i,hi⟩:=Int.eq_ofNat_of_zero_le hh0;by_cases hil:i<x.A.length
  ·have Y:=uU (show decide (x.sub<=((x.c i).F.length:Int))=true↔R6 x by
    have q4:¬(i:Int)=(x.A.length:Int):=by omega
    by_cases q3:(x.c i).st=1
    ·unfold R6;simp [hp,hi,q3,q4]
    ·have q5:(x.c i).F.length=0:=by
      rcases r2.1 i hil with c | c | c
      ·exact c.2.1.2.2.2.2.2
      ·exact c.2.1.2.2.2.2.2
      ·exact absurd c.1 q3
     unfold R6;simp [hp,hi,q3,q5];omega)
   obtain⟨b',o,ap,kp,ea,C⟩:=h.H.cell i hil;have HG:=uU (λn=>b3e x b i (w.drewN n) (h.ext ((Ext.refl w).drewN n)) hi hil b' o ap kp ea (C.ext ((Ext.refl w).drewN n)));clear r1 r2 r5 h C ea hi hh0 hh1;go_enter Tryz.func112,Tryz.ntmps112;go_wp2_with fail;go_quiet ((go_at_call 183;exact Calls.quiet_of (HG _)));go_wp2_with fail;go_ret;exact⟨_,rfl,Y,(Ext.refl _).drewN _⟩
  ·have he:x.I=x.A.length:=by omega
   have Y:=uU (show decide (x.sub<=0)=true↔R6 x by
    unfold R6;simp [hp,he];omega)
   have d6:=c6;rw[he] at d6;have HG:=uU (λn=>b3d x b (w.drewN n) (((Ext.refl w).drewN n).keep d6) (((Ext.refl w).drewN n).keep h.n13));clear r1 r2 r5 h hi hh0 hh1 he d6 hil;go_enter Tryz.func112,Tryz.ntmps112;go_wp2_with fail;go_quiet ((go_at_call 183;exact Calls.quiet_of (HG _)));go_wp2_with fail;go_ret;exact⟨_,rfl,Y,(Ext.refl _).drewN _⟩
 ·have Y:=uU (R6_1 (x:=x) (Or.inr (Or.inr hp)));clear r1 r2 r5 h;go_enter Tryz.func112,Tryz.ntmps112;go_wp2_with fail;go_ret;exact⟨_,rfl,Y,Ext.refl _⟩
def hwB(x:Hp)(y:Wd):Bool:=(y.k == 2) && zN (x.c y.a.toNat)
theorem b3f(x:Hp)(y:Wd)(b i:Nat)(w:World)(h:VAt w b x ar kr ac kc ag kg an kn)(k2:(y.k == 2)=true)(hi:i<x.A.length):
  Calls Tryz.prog 231 #[.pointer (some ⟨b,0,none⟩),.agg #[iv y.k,iv y.n,iv i]] w λe w'=>e=.returned (.bool (zN (x.c i)))/\Ext w w':=by
 obtain⟨bn,on,bc,oc,rfl,rfl,m0,m1⟩:=h.N i hi;obtain⟨bc',oc',ap,kp,e2,C⟩:=h.H.cell i hi;cases e2;have n13:=h.n13;have x1:=(Ext.refl w).alloc (.cells #[iv y.k,iv y.n,iv i] 152);go_enter Tryz.func231,Tryz.ntmps231;go_wp2_with fail;refine(a2v y b x.A.length bn on kn i _ k2 (x1.keep n13) hi).mono ?_;rintro e w1 ⟨rfl,hq⟩;have x2:=x1.trans hq;go_wp2_with fail;refine(a4u (x.c i) bn (on+i*2) bc (oc+i*8) ap kp _ (x2.keep m1) (C.ext x2)).mono ?_;rintro e w2 ⟨rfl,rfl⟩;go_wp2_with fail;go_ret;exact⟨rfl,x2⟩
theorem a6n(x:Hp)(y:Wd)(b:Nat)(w:World)(h:VAt w b x ar kr ac kc ag kg an kn)(hy:uE y x.A.length):
  Calls Tryz.prog 231 #[.pointer (some ⟨b,0,none⟩),y.v] w λe w'=>e=.returned (.bool (hwB x y))/\Ext w w':=by
 cases k2:(y.k == 2)
 ·have:hwB x y=false:=by simp [hwB,k2]
  rw[this];exact b4h y b w k2
 ·have hr:0<=y.a/\y.a<x.A.length:=by simp at k2;unfold uE at hy;omega
  have e:hwB x y=zN (x.c y.a.toNat):=by simp [hwB,k2]
  rw[e];have:=b3f x y b y.a.toNat w h k2 (by omega)
  rwa [Int.toNat_of_nonneg hr.1] at this
theorem a3i(x:Hp)(b n cap:Nat)(ap:Option Addr)(f:Nat->Pr)(w:World)(h:VAt w b x ar kr ac kc ag kg an kn)
  (lp:n<=35184372088832) (P:∀k,k<n->∃b' o',ap=some ⟨b',o',none⟩/\tQ w b' (o'+k*6) (f k)) (hF:∀k,k<n->uE (f k).key x.A.length/\uE (f k).val x.A.length) :
  Calls Tryz.prog 185 #[.pointer (some ⟨b,0,none⟩),.slice ap n cap] w λe w'=>∃r:Bool,Hid (e=.returned (.bool r))/\(r=true↔∃k,k<n/\(hwB x (f k).key=true\/hwB x (f k).val=true))/\Ext w w':=by
 have HP:=uU P;have HF:=uU hF;clear P hF;go_enter Tryz.func185,Tryz.ntmps185;go_wp2_with fail;go_loopw [9] (λi wr=>∃l:Nat,l<=n/\i=.int .i64 l/\(∀j,j<l->¬(hwB x (f j).key=true\/hwB x (f j).val=true))/\Ext w wr) (λi _=>n-(intOf i).toNat)
 case atStart=>exact⟨0,Nat.zero_le _,rfl,λj h=>by omega,Ext.refl _⟩
 case round=>
  obtain⟨l,hl,rfl,hall,hbl⟩:=hrel;have HB:=uU hall;clear hall;by_cases hl2:l<n
  ·obtain⟨b2,o2,rfl,q0,q1,q2,q3,q4,q5⟩:=uH HP l hl2;have HFl:=uU (HF l hl2);have e0:=hbl.keep q0;have e1:=hbl.keep q1;have e2:=hbl.keep q2;have e3:=hbl.keep q3;have e4:=hbl.keep q4;have e5:=hbl.keep q5;have hb2:b2<wr.heap.size:=uL e0;clear q0 q1 q2 q3 q4 q5;have hl0:(0:Int)<=(l:Int):=by omega
   have hl1:(l:Int)<(n:Int):=by omega
   have hx3:=hbl.alloc (.cells #[.int .i64 (f l).key.k,.int .i64 (f l).key.n,.int .i64 (f l).key.a,.int .i64 (f l).val.k,.int .i64 (f l).val.n,.int .i64 (f l).val.a] 154);go_wp2_with fail;refine(a6n x (f l).key b _ (h.ext hx3) HFl.1).mono ?_;rintro e w2 ⟨rfl,hq2⟩;have x2:=hx3.trans hq2;have u:=λ(o:Nat) (v:Value) (hc:(wr.alloc (.cells #[.int .i64 (f l).key.k,.int .i64 (f l).key.n,.int .i64 (f l).key.a,.int .i64 (f l).val.k,.int .i64 (f l).val.n,.int .i64 (f l).val.a] 154)).cell? ⟨wr.heap.size,o,none⟩=some v)=>hq2.keep hc
   have u3:=u 3 _ (by simp [go_sem];rfl);have u4:=u 4 _ (by simp [go_sem];rfl);have u5:=u 5 _ (by simp [go_sem];rfl);clear u e0 e1 e2 e3 e4 e5;cases tk:hwB x (f l).key
   ·go_wp2_with fail;refine(a6n x (f l).val b _ (h.ext x2) HFl.2).mono ?_;rintro e w3 ⟨rfl,hq3⟩;have x3:=x2.trans hq3;cases tv:hwB x (f l).val
    ·have S:=uU (show ∀j,j<l+1->¬(hwB x (f j).key=true\/hwB x (f j).val=true) from λj hj=>by
      by_cases e:j=l
      ·subst e;simp [tk,tv]
      ·exact HB j (by omega))
     go_wp2_with fail;go_roundw
     case rel=>exact⟨l+1,by omega,by go_num,S,x3⟩
     case measure=>simp [intOf];omega
    ·have Y:=uU (show ∃k,k<n/\(hwB x (f k).key=true\/hwB x (f k).val=true) from⟨l,hl2,.inr tv⟩);go_wp2_with fail;go_ret;exact⟨true,rfl,⟨λ_=>uH Y,λ_=>rfl⟩,x3⟩
   ·have Y:=uU (show ∃k,k<n/\(hwB x (f k).key=true\/hwB x (f k).val=true) from⟨l,hl2,.inl tk⟩);go_wp2_with fail;go_ret;exact⟨true,rfl,⟨λ_=>uH Y,λ_=>rfl⟩,x2⟩
  ·have N:=uU (show ¬∃k,k<n/\(hwB x (f k).key=true\/hwB x (f k).val=true) from λ⟨k,hk,hh⟩=>uH HB k (by omega) hh);go_wp2_with fail;go_ret;exact⟨false,rfl,⟨λf=>by simp at f,λr=>(N r).elim⟩,hbl⟩
abbrev Rw:=Option Tmp×List Tmp×List Nat
def b3g(md:Region.Mode)(ops:Array Oper)(o:Oper):Rw:=(o.dst,o.looksAt ops,(o.after.toList.filter (λe=>Region.binds md e)).map (·.on))
def c7v(x y:Rw):Bool:=
 (match x.1 with
  | some d=>!y.2.1.contains d && y.1 != some d
  | none=>true) &&
 (match y.1 with
  | some d=>!x.2.1.contains d
  | none=>true)
theorem c4q(md:Region.Mode)(ops:Array Oper)(x y:Oper):c7v (b3g md ops x) (b3g md ops y)=x.apart ops y:=rfl
def lexR:Nat->List Rw->Bool
 | _,[]=>true
 | k,r::rs=>r.2.2.all (λi=>Nat.blt i k) && rs.all (λs=>s.2.2.contains k || c7v r s) && lexR (k+1) rs
theorem a9o(md:Region.Mode)(ops:Array Oper):∀(l:List Oper) (k:Nat) (listed:Array Bool),k+l.length=ops.size->(∀j,l[j]?=ops[k+j]?)->listed.size=ops.size->(∀j,j<ops.size->listed[j]?=some (decide (j<k)))->
  lexR k (l.map (b3g md ops))=true->Region.lexFrom md ops l.length k listed=true
 | [],k,listed,hk,_,hs,hl,_=>by
  simp at hk;simp only [List.length_nil,Region.lexFrom,List.isEmpty_iff,Region.ready,List.filter_eq_nil_iff,List.mem_range];intro i hi;have:=hl i hi;simp [this,hk,hi]
 | o::l,k,listed,hk,ho,hs,hl,h=>by
  simp at hk;have h0:ops[k]?=some o:=by simpa using (ho 0).symm
  have hkn:k<ops.size:=by omega
  simp only [List.map_cons,lexR,Bool.and_eq_true,List.all_eq_true] at h;obtain⟨⟨ha,hb⟩,hc⟩:=h;simp only [List.length_cons,Region.lexFrom,Bool.and_eq_true];refine⟨⟨?_,?_⟩,?_⟩
  ·simp only [List.contains_eq_mem,decide_eq_true_eq,Region.ready,List.mem_filter,List.mem_range];refine⟨hkn,?_⟩;have h1:=hl k hkn;simp only [Array.getD_eq_getD_getElem?,h1,h0];simp only [Nat.lt_irrefl,decide_false,Option.getD_some,Bool.not_false,Option.map_some,Bool.true_and,Array.all_eq_true_iff_forall_mem];intro e he;by_cases hbd:Region.binds md e=true
   ·have:=ha e.on (by simp only [b3g,List.mem_map,List.mem_filter];exact⟨e,⟨by simpa using he,hbd⟩,rfl⟩);have hlt:e.on<k:=Nat.le_of_ble_eq_true this;have h2:=hl e.on (by omega);simp [h2,hlt]
   ·simp [hbd]
  ·simp only [Region.free,h0,List.all_eq_true,List.mem_range];intro j hj;by_cases e1:j=k
   ·simp [e1]
   ·by_cases e2:j<k
    ·have:=hl j hj;simp [this,e2]
    ·obtain⟨oj,hoj⟩:∃oj,ops[j]?=some oj:=⟨_,Array.getElem?_eq_getElem hj⟩
     have hm:oj∈l:=by
      have:=ho (j-k);rw[show k+(j-k)=j by omega,hoj,show j-k=(j-k-1)+1 by omega,List.getElem?_cons_succ] at this;exact List.mem_of_getElem? this
     have:=hb (b3g md ops oj) (List.mem_map_of_mem hm);rw[c4q,Bool.or_eq_true] at this;simp only [hoj,Bool.or_eq_true];rcases this with h3 | h3
     ·refine .inr (.inl ?_);simp only [b3g,List.contains_eq_mem,decide_eq_true_eq,List.mem_map,List.mem_filter] at h3;obtain⟨e,⟨he,hbd⟩,hon⟩:=h3;rw[Array.any_eq_true'];exact⟨e,by simpa using he,by simp [hbd,hon]⟩
     ·exact .inr (.inr h3)
  ·refine a9o md ops l (k+1) _ (by omega) (λj=>?_) (by simpa using hs) (λj hj=>?_) hc
   ·have:=ho (j+1);rw[List.getElem?_cons_succ] at this;rw[this,show k+(j+1)=k+1+j by omega]
   ·rw[Array.getElem?_setIfInBounds];by_cases e:k=j
    ·subst e;rw[if_pos rfl,if_pos (by omega)];simp
    ·rw[if_neg e,hl j hj]
     congr 1
     exact decide_eq_decide.2 (by omega)
theorem b5d(md:Region.Mode)(ops:Array Oper)(hs:Region.noSelect ops=true)(h:lexR 0 (ops.toList.map (b3g md ops))=true):Region.lexB md ops=true:=by
 simp only [Region.lexB,hs,Bool.true_and];have:=a9o md ops ops.toList 0 (Array.replicate ops.size false) (by simp) (by simp) (by simp) (λj hj=>by simp [hj]) h
 simpa using this
def third:Option Code->Array Oper
 | some (.seq _ (.seq _ (.seq (.region _ ops _) _)))=>ops
 | _=>#[]
theorem a1s:Region.lexB .any (third Tryz.f106.body)=true:=b5d _ _ (by kernel_rfl) (by kernel_rfl)
def b1f(c:Cl):Bool:=(c.kind == 0) && (c.T == 0) && (c.U == 0) && (c.born == 0) && (c.J == 0) && ((c.F.length:Int) == 0)
theorem a7k{c:Cl}:b1f c=true↔yW c:=by
 unfold b1f yW;simp only [Bool.and_eq_true,beq_iff_eq];constructor
 ·intro h;omega
 ·intro h;omega
theorem b8u(c:Cl)(bn q bc r:Nat)(ap:Option Addr)(kp:Nat)(w:World)(m1:w.cell? ⟨bn,q+1,none⟩=some (.pointer (some ⟨bc,r,none⟩)))(h:CAt w bc r c ap kp):
  Calls Tryz.prog 172 #[.pointer (some ⟨bn,q,none⟩)] w λe w'=>e=.returned (.bool (b1f c))/\w'=w:=by
 obtain⟨p0,p1,p2,p3,p4,p5,p6,p7,lp,P⟩:=h;clear P p0 p6;unfold b1f;cases q0:(c.kind == 0);rotate_left;cases q1:(c.T == 0);rotate_left;cases q2:(c.U == 0);rotate_left;cases q3:(c.born == 0);rotate_left;cases q4:(c.J == 0);rotate_left;cases q5:((c.F.length:Int) == 0)
 all_goals
  go_enter Tryz.func172,Tryz.ntmps172
  go_wp2
  go_ret;exact⟨rfl,rfl⟩
theorem bare_is(c:Cl)(bn q bc r:Nat)(ap:Option Addr)(kp:Nat)(s:Bool)(hs:b1f c=s)(w:World)(m1:w.cell? ⟨bn,q+1,none⟩=some (.pointer (some ⟨bc,r,none⟩)))(h:CAt w bc r c ap kp):
  Calls Tryz.prog 172 #[.pointer (some ⟨bn,q,none⟩)] w λe w'=>e=.returned (.bool s)/\w'=w:=by
 rw[<-hs];exact b8u c bn q bc r ap kp w m1 h
theorem a4v{n lo hi:Int}(h:lo<=n/\n<=hi):uX n lo hi=true:=by unfold uX;simpa using h
theorem c7w:Region.lexB .any (third Tryz.f173.body)=true:=b5d _ _ (by kernel_rfl) (by kernel_rfl)
theorem c7x(x:Hp)(c:Cl)(b bn q bc r:Nat)(ap:Option Addr)(kp:Nat)(w:World)(v2:w.cell? ⟨b,2,none⟩=some (iv x.born))(m1:w.cell? ⟨bn,q+1,none⟩=some (.pointer (some ⟨bc,r,none⟩)))(h:CAt w bc r c ap kp):
  Calls Tryz.prog 173 #[.pointer (some ⟨b,0,none⟩),.pointer (some ⟨bn,q,none⟩)] w λe w'=>e=.returned (.bool (uX c.kind 0 255 && (uX c.T 0 3 && (uX c.U 0 3 && (uX c.born 1 x.born && (uX c.J 0 2 && ((c.to == 0) && decide ((c.F.length:Int)<=200))))))))/\Ext w w':=by
 obtain⟨p0,p1,p2,p3,p4,p5,p6,p7,lp,P⟩:=h;clear P p0;cases q0:uX c.kind 0 255;rotate_left;cases q1:uX c.T 0 3;rotate_left;cases q2:uX c.U 0 3;rotate_left;cases q3:uX c.born 1 x.born;rotate_left;cases q4:uX c.J 0 2;rotate_left;cases q5:(c.to == 0);rotate_left;cases q6:decide ((c.F.length:Int)<=200)
 all_goals
  go_enter Tryz.func173,Tryz.ntmps173;go_wp2_with fail
  try simp only [List.append]
  refine wp_region_quiet_lit (by kernel_rfl) c7w ?_
  repeat (go_big_quiet_step ((go_at_call 78;first | (refine Calls.quiet_of_same (uJ _ _ _ true ?_ _);assumption) | (refine Calls.quiet_of_same (uJ _ _ _ false ?_ _);assumption))))
  refine wpQuiet_nil ?_;intro _ hw';obtain⟨nq,hw''⟩:=hw';subst hw'';go_wp2_with fail;go_ret;exact⟨rfl,Ext.drewN (Ext.refl w) _⟩
theorem b6o(x:Hp)(c:Cl)(b bn q bc r:Nat)(ap:Option Addr)(kp:Nat)(w:World)(v2:w.cell? ⟨b,2,none⟩=some (iv x.born))(m1:w.cell? ⟨bn,q+1,none⟩=some (.pointer (some ⟨bc,r,none⟩)))(h:CAt w bc r c ap kp):
  Calls Tryz.prog 173 #[.pointer (some ⟨b,0,none⟩),.pointer (some ⟨bn,q,none⟩)] w λe w'=>∃r:Bool,Hid (e=.returned (.bool r))/\(r=true↔a2k x c)/\Ext w w':=by
 refine(c7x x c b bn q bc r ap kp w v2 m1 h).mono λ_ _ ⟨he,hx⟩=>⟨_,he,?_,hx⟩
 simp only [Bool.and_eq_true,decide_eq_true_eq,beq_iff_eq];exact⟨λ⟨a,b,c,d,e,f,g⟩=>⟨uK a,uK b,uK c,uK d,uK e,f,by omega⟩,λ⟨a,b,c,d,e,f,g⟩=>⟨a4v a,a4v b,a4v c,a4v d,a4v e,f,by omega⟩⟩
end Go.Proofs.YtddkhnclmeikfaaGreat
