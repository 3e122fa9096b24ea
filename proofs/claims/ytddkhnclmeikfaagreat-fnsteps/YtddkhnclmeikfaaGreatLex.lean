import Derived.Test.YtddkhnclmeikfaaGreatImpE
set_option maxRecDepth 100000
set_option maxHeartbeats 1000000
namespace Go.Proofs.YtddkhnclmeikfaaGreat
open Go.RowKit
attribute [local go_sem ↓] Go.wp_at_zero Go.wp_at_succ
variable{ag an ar ac:Option Addr}{kg kn kr kc:Nat}{n lo hi:Int}
theorem uJ(h:uZ n lo hi=true):lo<=n/\n<=hi:=by simpa [uZ] using h
theorem a0a(h:uZ n lo hi=false):¬(lo<=n/\n<=hi):=by unfold uZ at h;exact of_decide_eq_false h
theorem uD(n lo hi:Int)(r:Bool)(h:uZ n lo hi=r)(w:World):Calls Tryz.prog 78 #[.int .i64 n,.int .i64 lo,.int .i64 hi] w λe w'=>e=.returned (.bool r)/\w'=w:=by
 rw[<-h];exact b8r n lo hi w
theorem a7y(y:Wd)(b n:Nat)(an:Option Addr)(kn:Nat)(w:World)(c13:w.cell? ⟨b,13,none⟩=some (.slice an n kn))(hn:n<=35184372088832):
  Calls Tryz.prog 229 #[.pointer (some ⟨b,0,none⟩),y.v] w λe w'=>e=.returned (.bool (eH y n))/\Ext w w':=by
 have hb:b<w.heap.size:=uL c13;cases k0:(y.k == 0)
 ·cases k1:(y.k == 1)
  ·cases k2:(y.k == 2)
   ·have E:=uU (show eH y n=false by simp at k0 k1 k2;simp [eH,k0,k1,k2]);go_enter Tryz.func229,Tryz.ntmps229;go_wp2_with fail;go_ret;exact⟨by rw[uH E];rfl,(Ext.refl w).alloc _⟩
   ·cases q:(y.n == 0)
    ·have E:=uU (show eH y n=false by simp at k2;simp [eH,k2,q]);go_enter Tryz.func229,Tryz.ntmps229;go_wp2_with fail;go_quiet (fail);go_wp2_with fail;go_ret;exact⟨by rw[uH E];rfl,((Ext.refl w).alloc _).drewN _⟩
    ·cases t:uZ y.a 0 ((n:Int)-1)
     ·have E:=uU (show eH y n=false by
       have:=a0a t;simp at k2 q;simp [eH,k2,q];omega)
      go_enter Tryz.func229,Tryz.ntmps229;go_wp2_with fail;go_quiet ((go_at_call 78;refine Calls.quiet_of_same (uD _ _ _ false ?_ _);assumption));go_wp2_with fail;go_ret;exact⟨by rw[uH E];rfl,((Ext.refl w).alloc _).drewN _⟩
     ·have E:=uU (show eH y n=true by
       have:=uJ t;simp at k2 q;simp [eH,k2,q];omega)
      go_enter Tryz.func229,Tryz.ntmps229;go_wp2_with fail;go_quiet ((go_at_call 78;refine Calls.quiet_of_same (uD _ _ _ true ?_ _);assumption));go_wp2_with fail;go_ret;exact⟨by rw[uH E];rfl,((Ext.refl w).alloc _).drewN _⟩
  ·have E:=uU (show eH y n=(y.a == 0) by simp at k1;simp [eH,k1]);go_enter Tryz.func229,Tryz.ntmps229;go_wp2_with fail;go_ret;exact⟨by rw[uH E];simp,(Ext.refl w).alloc _⟩
 ·have E:=uU (show eH y n=(y.n == 0 && y.a == 0) by simp at k0;simp [eH,k0]);cases q:(y.n == 0)
  all_goals
   go_enter Tryz.func229,Tryz.ntmps229;go_wp2_with fail;go_ret;exact⟨by rw[uH E];simp [q],(Ext.refl w).alloc _⟩
theorem a6z(y:Wd)(b:Nat)(w:World)(k2:(y.k == 2)=false):
  Calls Tryz.prog 199 #[.pointer (some ⟨b,0,none⟩),y.v] w λe w'=>e=.returned (.pointer none)/\Ext w w':=by
 have k2b:(y.k != 2)=true:=by simpa using k2
 go_enter Tryz.func199,Tryz.ntmps199;go_wp2_with fail;go_ret;exact⟨rfl,(Ext.refl w).alloc _⟩
theorem a4s(y:Wd)(b n bn on kn i:Nat)(w:World)(k2:(y.k == 2)=true)(c13:w.cell? ⟨b,13,none⟩=some (.slice (some ⟨bn,on,none⟩) n kn))(hn:i<n):
  Calls Tryz.prog 199 #[.pointer (some ⟨b,0,none⟩),.agg #[iv y.k,iv y.n,iv i]] w λe w'=>e=.returned (.pointer (some ⟨bn,on+i*2,none⟩))/\Ext w w':=by
 have hb:b<w.heap.size:=uL c13;have k2b:(y.k != 2)=false:=by simpa using k2
 have hi0:(0:Int)<=(i:Int):=by omega
 have hi1:(i:Int)<(n:Int):=by omega
 go_enter Tryz.func199,Tryz.ntmps199;go_wp2_with fail;go_quiet (fail);go_wp2_with fail;go_ret;exact⟨rfl,((Ext.refl w).alloc _).drewN _⟩
theorem a9v(x:Hp)(b:Nat)(y:Wd)(md:Bool)(w:World)(h:VAt w b x ar kr ac kc ag kg an kn):
  Calls Tryz.prog 176 #[.pointer (some ⟨b,0,none⟩),y.v,.bool md] w λe w'=>e=.returned (.bool (qX x y (!md)))/\Ext w w':=by
 have hb:b<w.heap.size:=uL h.n13;go_enter Tryz.func176,Tryz.ntmps176;go_wp2_with fail;refine(a7y y b x.cells.length an kn _ (Ext.keep ((Ext.refl w).alloc _) h.n13) h.H.lc).mono ?_;rintro e w1 ⟨rfl,hq1⟩;have x1:Ext w w1:=Ext.trans ((Ext.refl w).alloc _) hq1;have a0:=hq1.keep (b:=w.heap.size) (o:=0) (v:=iv y.k) (by simp [go_sem]);have a1:=hq1.keep (b:=w.heap.size) (o:=1) (v:=iv y.n) (by simp [go_sem]);have a2:=hq1.keep (b:=w.heap.size) (o:=2) (v:=iv y.a) (by simp [go_sem]);cases qf:eH y x.cells.length
 ·have E:=uU (show qX x y (!md)=false by simp [qX,qf]);go_wp2_with fail;go_ret;exact⟨by rw[uH E];rfl,x1⟩
 cases qk:(y.k == 2)
 ·have E:=uU (show qX x y (!md)=true by simp [qX,qf,qk]);go_wp2_with fail;refine(a6z y b _ qk).mono ?_;rintro e w2 ⟨rfl,hq2⟩;go_wp2_with fail;go_ret;exact⟨by rw[uH E];rfl,x1.trans hq2⟩
 have q1:y.k=2:=by simpa using qk
 have hf:=a0j.1 qf;unfold uK at hf;have hr:0<=y.a/\y.a<x.cells.length:=by omega
 have E0:=uU (show qX x y (!md)=(if (x.c y.a.toNat).st=2 then !md else ((x.c y.a.toNat).st == 1) && !a0p x y.a.toNat) by simp [qX,qf,q1]);obtain⟨i,hi⟩:=Int.eq_ofNat_of_zero_le hr.1;rw[hi] at E0 a2;rw[Int.toNat_natCast] at E0;have hin:i<x.cells.length:=by omega
 clear q1 hf hr hi;have h1:=h.ext x1;obtain⟨bn,on,bc,oc,rfl,rfl,m0,m1⟩:=h1.N i hin;obtain⟨bc',oc',ap,kp,e2,C⟩:=h1.H.cell i hin;cases e2;have HD:=uU (λw' (e:Ext w1 w')=>b2d x b i w' (h1.ext e) hin bn on rfl);have HF:=uU (a4s y b x.cells.length bn on kn i w1 qk h1.n13 hin);clear h h1;go_wp2_with fail;refine HF.mono ?_;rintro e w2 ⟨rfl,hq2⟩;have x2:Ext w w2:=x1.trans hq2;have u1:=hq2.keep m1;have r0:=hq2.keep C.p0;have HD2:=uU (HD w2 hq2);clear C m0 m1 a0 a1 a2;cases qs:((x.c i).st == 2)
 ·have qs':¬(x.c i).st=2:=by simpa using qs
  have E:=uU (show qX x y (!md)=(((x.c i).st == 1) && !a0p x i) by rw[uH E0,if_neg qs']);cases qu:((x.c i).st == 1)
  ·go_wp2_with fail;go_ret;exact⟨by rw[uH E,qu];rfl,x2⟩
  ·go_wp2_with (go_at_call 177;refine HD2.mono ?_;rintro e w3 ⟨rfl,hq3⟩);go_ret;exact⟨by rw[uH E,qu];simp,x2.trans hq3⟩
 ·have qs':(x.c i).st=2:=by simpa using qs
  have E:=uU (show qX x y (!md) = !md by rw[uH E0,if_pos qs']);clear qs';go_wp2_with fail;go_ret;exact⟨by rw[uH E];rfl,x2⟩
theorem b3g(x:Hp)(b k:Nat)(w:World)(h:VAt w b x ar kr ac kc ag kg an kn)(hlt:k<x.cells.length)(bn on:Nat)(ha:an=some ⟨bn,on,none⟩):
  Calls Tryz.prog 179 #[.pointer (some ⟨b,0,none⟩),.pointer (some ⟨bn,on+k*2,none⟩)] w λe w'=>∃r:Bool,e=.returned (.bool r)/\(r=true↔∀l,l<(x.c k).prs.length->cN x ((x.c k).p l).key (¬cX x k l)/\cN x ((x.c k).p l).val (¬cX x k l))/\Ext w w':=by
 obtain⟨bn',on',bc,oc,e1,rfl,m0,m1⟩:=h.N k hlt;rw[ha] at e1;cases e1;obtain⟨bc',oc',ap,kp,e2,C⟩:=h.H.cell k hlt;cases e2;have p7:=C.p7;have lp:=C.lp;have HP:=uU C.P;have HC:=uU C;have M0:=uU m0;clear m0 C;go_enter Tryz.func179,Tryz.ntmps179;go_wp2_with fail;go_loopw [16] (λi wr=>∃l:Nat,l<=(x.c k).prs.length/\i=.int .i64 l/\(∀j,j<l->cN x ((x.c k).p j).key (¬cX x k j)/\cN x ((x.c k).p j).val (¬cX x k j))/\Ext w wr) (λi _=>(x.c k).prs.length-(intOf i).toNat)
 case atStart=>exact⟨0,Nat.zero_le _,rfl,λj h=>by omega,Ext.refl _⟩
 case round=>
  obtain⟨l,hl,rfl,hall,hbl⟩:=hrel;have HB:=uU hall;clear hall;by_cases hl2:l<(x.c k).prs.length
  ·obtain⟨b2,o2,rfl,q0,q1,q2,q3,q4,q5⟩:=uH HP l hl2;have e0:=hbl.keep q0;have e1:=hbl.keep q1;have e2:=hbl.keep q2;have e3:=hbl.keep q3;have e4:=hbl.keep q4;have e5:=hbl.keep q5;have hb2:b2<wr.heap.size:=uL e0;clear q0 q1 q2 q3 q4 q5 p7 m1;have hl0:(0:Int)<=(l:Int):=by omega
   have hl1:(l:Int)<((x.c k).prs.length:Int):=by omega
   have hx3:=hbl.alloc (.cells #[.int .i64 ((x.c k).p l).key.k,.int .i64 ((x.c k).p l).key.n,.int .i64 ((x.c k).p l).key.a,.int .i64 ((x.c k).p l).val.k,.int .i64 ((x.c k).p l).val.n,.int .i64 ((x.c k).p l).val.a] 154);have hmm:((!eZ x k l)=true↔¬cX x k l):=by rw[<-b0j];simp
   have K1:=uU (a1g (x:=x) (y:=((x.c k).p l).key) hmm);have K2:=uU (a1g (x:=x) (y:=((x.c k).p l).val) hmm);clear hmm;go_wp2_with fail;have hv:=h.ext hx3;refine(b9p x b bn (on+k*2) k l _ hv.H.c5 hv.H.c6 hv.H.c7 (hx3.keep M0)).mono ?_;rintro e w2 ⟨rfl,hq2⟩;have x2:=hx3.trans hq2;have u:=λ(o:Nat) (v:Value) (hc:(wr.alloc (.cells #[.int .i64 ((x.c k).p l).key.k,.int .i64 ((x.c k).p l).key.n,.int .i64 ((x.c k).p l).key.a,.int .i64 ((x.c k).p l).val.k,.int .i64 ((x.c k).p l).val.n,.int .i64 ((x.c k).p l).val.a] 154)).cell? ⟨wr.heap.size,o,none⟩=some v)=>hq2.keep hc
   have u0:=u 0 _ (by simp [go_sem];rfl);have u1:=u 1 _ (by simp [go_sem];rfl);have u2:=u 2 _ (by simp [go_sem];rfl);have u3:=u 3 _ (by simp [go_sem];rfl);have u4:=u 4 _ (by simp [go_sem];rfl);have u5:=u 5 _ (by simp [go_sem];rfl);clear u hv e0 e1 e2 e3 e4 e5;go_wp2_with fail;refine(a9v x b ((x.c k).p l).key (eZ x k l) _ (h.ext x2)).mono ?_;rintro e w3 ⟨rfl,hq3⟩;have x3:=x2.trans hq3;have v3:=hq3.keep u3;have v4:=hq3.keep u4;have v5:=hq3.keep u5;clear u0 u1 u2 u3 u4 u5;cases tk:qX x ((x.c k).p l).key (!eZ x k l)
   ·have N:=uU (show ¬(∀l,l<(x.c k).prs.length->cN x ((x.c k).p l).key (¬cX x k l)/\cN x ((x.c k).p l).val (¬cX x k l)) from λr=>by
     have:=K1.2 (r l hl2).1;rw[this] at tk;simp at tk)
    go_wp2_with fail;go_ret
    first | (exact Or.inl ⟨rfl,N,x3⟩) | (exact⟨false,rfl,⟨λf=>by simp at f,λr=>(N r).elim⟩,x3⟩)
   ·go_wp2_with fail;refine(a9v x b ((x.c k).p l).val (eZ x k l) _ (h.ext x3)).mono ?_;rintro e w4 ⟨rfl,hq4⟩;have x4:=x3.trans hq4;cases tv:qX x ((x.c k).p l).val (!eZ x k l)
    ·have N:=uU (show ¬(∀l,l<(x.c k).prs.length->cN x ((x.c k).p l).key (¬cX x k l)/\cN x ((x.c k).p l).val (¬cX x k l)) from λr=>by
      have:=K2.2 (r l hl2).2;rw[this] at tv;simp at tv)
     go_wp2_with fail;go_ret
     first | (exact Or.inl ⟨rfl,N,x4⟩) | (exact⟨false,rfl,⟨λf=>by simp at f,λr=>(N r).elim⟩,x4⟩)
    ·have S:=uU (show ∀j,j<l+1->cN x ((x.c k).p j).key (¬cX x k j)/\cN x ((x.c k).p j).val (¬cX x k j) from λj hj=>by
      by_cases e:j=l
      ·subst e;exact⟨K1.1 tk,K2.1 tv⟩
      ·exact HB j (by omega))
     go_wp2_with fail;go_roundw
     case rel=>exact⟨l+1,by omega,by go_num,S,x4⟩
     case measure=>simp [intOf];omega
  ·have Y:=uU (show ∀l,l<(x.c k).prs.length->cN x ((x.c k).p l).key (¬cX x k l)/\cN x ((x.c k).p l).val (¬cX x k l) from λj hj=>uH HB j (by omega));go_wp2_with fail;go_ret
   first | (exact Or.inr ⟨rfl,Y,hbl⟩) | (exact⟨true,rfl,⟨λ_=>uH Y,λ_=>rfl⟩,hbl⟩)
theorem b2e(x:Hp)(b k:Nat)(w:World)(h:VAt w b x ar kr ac kc ag kg an kn)(hlt:k<x.cells.length)(bn on:Nat)(ha:an=some ⟨bn,on,none⟩):
  Calls Tryz.prog 178 #[.pointer (some ⟨b,0,none⟩),.pointer (some ⟨bn,on+k*2,none⟩)] w λe w'=>∃r:Bool,e=.returned (.bool r)/\(r=true↔(∀l,l<(x.c k).prs.length->uK ((x.c k).p l).key x.cells.length/\uK ((x.c k).p l).val x.cells.length)/\¬cY (x.c k))/\Ext w w':=by
 obtain⟨bn',on',bc,oc,e1,rfl,m0,m1⟩:=h.N k hlt;rw[ha] at e1;cases e1;obtain⟨bc',oc',ap,kp,e2,C⟩:=h.H.cell k hlt;cases e2;have p7:=C.p7;have lp:=C.lp;have HP:=uU C.P;have HC:=uU C;clear m0 C;go_enter Tryz.func178,Tryz.ntmps178;go_wp2_with fail;go_loopw [15] (λi wr=>∃l:Nat,l<=(x.c k).prs.length/\i=.int .i64 l/\(∀j,j<l->uK ((x.c k).p j).key x.cells.length/\uK ((x.c k).p j).val x.cells.length)/\Ext w wr) (λi _=>(x.c k).prs.length-(intOf i).toNat)
 case atStart=>exact⟨0,Nat.zero_le _,rfl,λj h=>by omega,Ext.refl _⟩
 case round=>
  obtain⟨l,hl,rfl,hall,hbl⟩:=hrel;have HB:=uU hall;clear hall;by_cases hl2:l<(x.c k).prs.length
  ·obtain⟨b2,o2,rfl,q0,q1,q2,q3,q4,q5⟩:=uH HP l hl2;have e0:=hbl.keep q0;have e1:=hbl.keep q1;have e2:=hbl.keep q2;have e3:=hbl.keep q3;have e4:=hbl.keep q4;have e5:=hbl.keep q5;have hb2:b2<wr.heap.size:=uL e0;clear q0 q1 q2 q3 q4 q5 p7 m1;have hl0:(0:Int)<=(l:Int):=by omega
   have hl1:(l:Int)<((x.c k).prs.length:Int):=by omega
   have hx3:=hbl.alloc (.cells #[.int .i64 ((x.c k).p l).key.k,.int .i64 ((x.c k).p l).key.n,.int .i64 ((x.c k).p l).key.a,.int .i64 ((x.c k).p l).val.k,.int .i64 ((x.c k).p l).val.n,.int .i64 ((x.c k).p l).val.a] 154);go_wp2_with fail;refine(a7y ((x.c k).p l).key b x.cells.length an kn _ (h.ext hx3).n13 h.H.lc).mono ?_;rintro e w3 ⟨rfl,hq3⟩;have x3:=hx3.trans hq3;have u:=λ(o:Nat) (v:Value) (hc:(wr.alloc (.cells #[.int .i64 ((x.c k).p l).key.k,.int .i64 ((x.c k).p l).key.n,.int .i64 ((x.c k).p l).key.a,.int .i64 ((x.c k).p l).val.k,.int .i64 ((x.c k).p l).val.n,.int .i64 ((x.c k).p l).val.a] 154)).cell? ⟨wr.heap.size,o,none⟩=some v)=>hq3.keep hc
   have v3:=u 3 _ (by simp [go_sem];rfl);have v4:=u 4 _ (by simp [go_sem];rfl);have v5:=u 5 _ (by simp [go_sem];rfl);clear u e0 e1 e2 e3 e4 e5;cases tk:eH ((x.c k).p l).key x.cells.length
   ·have N:=uU (show ¬((∀l,l<(x.c k).prs.length->uK ((x.c k).p l).key x.cells.length/\uK ((x.c k).p l).val x.cells.length)/\¬cY (x.c k)) from λr=>by
     have:=a0j.2 (r.1 l hl2).1;rw[this] at tk;simp at tk)
    go_wp2_with fail;go_ret
    first | (exact Or.inl ⟨rfl,N,x3⟩) | (exact⟨false,rfl,⟨λf=>by simp at f,λr=>(N r).elim⟩,x3⟩)
   ·go_wp2_with fail;refine(a7y ((x.c k).p l).val b x.cells.length an kn _ (h.ext x3).n13 h.H.lc).mono ?_;rintro e w4 ⟨rfl,hq4⟩;have x4:=x3.trans hq4;cases tv:eH ((x.c k).p l).val x.cells.length
    ·have N:=uU (show ¬((∀l,l<(x.c k).prs.length->uK ((x.c k).p l).key x.cells.length/\uK ((x.c k).p l).val x.cells.length)/\¬cY (x.c k)) from λr=>by
      have:=a0j.2 (r.1 l hl2).2;rw[this] at tv;simp at tv)
     go_wp2_with fail;go_ret
     first | (exact Or.inl ⟨rfl,N,x4⟩) | (exact⟨false,rfl,⟨λf=>by simp at f,λr=>(N r).elim⟩,x4⟩)
    ·have S:=uU (show ∀j,j<l+1->uK ((x.c k).p j).key x.cells.length/\uK ((x.c k).p j).val x.cells.length from λj hj=>by
      by_cases e:j=l
      ·subst e;exact⟨a0j.1 tk,a0j.1 tv⟩
      ·exact HB j (by omega))
     go_wp2_with fail;go_roundw
     case rel=>exact⟨l+1,by omega,by go_num,S,x4⟩
     case measure=>simp [intOf];omega
  ·have Y:=uU (show ∀l,l<(x.c k).prs.length->uK ((x.c k).p l).key x.cells.length/\uK ((x.c k).p l).val x.cells.length from λj hj=>uH HB j (by omega));have HS:=uU (a3u (x.c k) bn (on+k*2) bc (oc+k*8) ap kp wr (hbl.keep m1) (HC.ext hbl));cases ts:a1n (x.c k)
   ·have Z:=uU (show(∀l,l<(x.c k).prs.length->uK ((x.c k).p l).key x.cells.length/\uK ((x.c k).p l).val x.cells.length)/\¬cY (x.c k) from⟨Y,λhs=>by rw[<-a4c,ts] at hs;simp at hs⟩);go_wp2_with (go_at_call 166;refine HS.mono ?_;rintro e w' ⟨rfl,rfl⟩);go_ret
    first | (exact Or.inr ⟨by simp,Z,hbl⟩) | (exact⟨true,by simp,⟨λ_=>uH Z,λ_=>rfl⟩,hbl⟩)
   ·have N:=uU (show ¬((∀l,l<(x.c k).prs.length->uK ((x.c k).p l).key x.cells.length/\uK ((x.c k).p l).val x.cells.length)/\¬cY (x.c k)) from λr=>r.2 (a4c.1 ts));go_wp2_with (go_at_call 166;refine HS.mono ?_;rintro e w' ⟨rfl,rfl⟩);go_ret
    first | (exact Or.inl ⟨by simp,N,hbl⟩) | (exact⟨false,by simp,⟨λf=>by simp at f,λr=>(N r).elim⟩,hbl⟩)
theorem b3h(x:Hp)(b:Nat)(w:World)(h:VAt w b x ar kr ac kc ag kg an kn):
  Calls Tryz.prog 110 #[.pointer (some ⟨b,0,none⟩)] w λe w'=>∃r:Bool,e=.returned (.bool r)/\(r=true↔R4 x)/\Ext w w':=by
 have c3:=h.H.c3;have lr:=h.H.lr;have lc:=h.H.lc;go_enter Tryz.func110,Tryz.ntmps110;go_wp2_with fail;go_loopw [13] (λi wr=>∃k:Nat,k<=x.regs.length/\i=.int .i64 k/\(∀j (hj:j<x.regs.length),j<k->cN x x.regs[j] False)/\Ext w wr) (λi _=>x.regs.length-(intOf i).toNat)
 case atStart=>exact⟨0,Nat.zero_le _,rfl,λj hj h=>by omega,Ext.refl _⟩
 case round=>
  obtain⟨k,hk,rfl,hall,hbl⟩:=hrel;have HA:=uU hall;clear hall;by_cases hlt:k<x.regs.length
  ·obtain⟨b',o,rfl,p0,p1,p2⟩:=(h.ext hbl).H.R k hlt;have hb':b'<wr.heap.size:=uL p0;have hk0:(0:Int)<=(k:Int):=by omega
   have hk1:(k:Int)<(x.regs.length:Int):=by omega
   go_wp2_with fail;refine(a9v x b x.regs[k] true _ (h.ext (hbl.alloc _))).mono ?_;rintro e w1 ⟨rfl,hq1⟩;have x1:Ext w w1:=(hbl.alloc _).trans hq1;cases q:qX x x.regs[k] (!true)
   ·have N:=uU (show ¬R4 x from λr=>by
     have:=(a1g (m:=!true) (p:=False) (by simp)).2 (r.1 k hlt);rw[this] at q;simp at q)
    go_wp2_with fail;go_ret
    first | (exact Or.inl ⟨rfl,N,x1⟩) | (exact⟨false,rfl,⟨λf=>by simp at f,λr=>(N r).elim⟩,x1⟩)
   ·have S:=uU (show ∀j (hj:j<x.regs.length),j<k+1->cN x x.regs[j] False from λj hj hjk=>by
     by_cases e:j=k
     ·subst e;exact(a1g (m:=!true) (p:=False) (by simp)).1 q
     ·exact HA j hj (by omega))
    go_wp2_with fail;go_roundw
    case rel=>exact⟨k+1,by omega,by go_num,S,x1⟩
    case measure=>simp [intOf];omega
  ·have A1:=uU (show ∀j (hj:j<x.regs.length),cN x x.regs[j] False from λj hj=>uH HA j hj (by omega));clear HA;have d13:=(h.ext hbl).n13;go_wp2_with fail;clear hlt hk;go_loopw [27] (λi wr=>∃k:Nat,k<=x.cells.length/\i=.int .i64 k/\(∀j,j<k->¬(cU x j/\cY (x.c j))/\∀l,l<(x.c j).prs.length->a2j x j l ((x.c j).p l))/\Ext w wr) (λi _=>x.cells.length-(intOf i).toNat)
   case atStart=>exact⟨0,Nat.zero_le _,rfl,λj h=>by omega,hbl⟩
   case round=>
    clear hbl d13;obtain⟨k,hk,rfl,hall,hbl⟩:=hrel;have HA:=uU hall;clear hall;by_cases hlt:k<x.cells.length
    ·have h1:=h.ext hbl;obtain⟨bn,on,bc,oc,rfl,rfl,m0,m1⟩:=h1.N k hlt;have d13:=h1.n13;have hk0:(0:Int)<=(k:Int):=by omega
     have hk1:(k:Int)<(x.cells.length:Int):=by omega
     go_wp2_with fail;refine(b2d x b k _ h1 hlt bn on rfl).mono ?_;rintro e w2 ⟨rfl,hq2⟩;have h2:=h1.ext hq2;have x2:=hbl.trans hq2;cases td:a0p x k
     ·have ND:=uU (show ¬cU x k from λhd=>by rw[<-a1y,td] at hd;simp at hd);go_wp2_with fail;refine(b3g x b k _ h2 hlt bn on rfl).mono ?_;rintro e w3 ⟨r,rfl,hr,hq3⟩;have x3:=x2.trans hq3;cases r
      ·have N:=uU (show ¬R4 x from λr4=>by
        have:=hr.2 (λl hl=>((r4.2 k hlt).2 l hl).2 ND);simp at this)
       clear hr;go_wp2_with fail;go_ret
       first | (exact Or.inl ⟨rfl,N,x3⟩) | (exact⟨false,rfl,⟨λf=>by simp at f,λr=>(N r).elim⟩,x3⟩)
      ·have S:=uU (show ∀j,j<k+1->¬(cU x j/\cY (x.c j))/\∀l,l<(x.c j).prs.length->a2j x j l ((x.c j).p l) from λj hj=>by
        by_cases e:j=k
        ·subst e;exact⟨λhd=>uH ND hd.1,λl hl=>⟨λhd=>(ND hd).elim,λ_=>hr.1 rfl l hl⟩⟩
        ·exact HA j (by omega))
       clear hr;go_wp2_with fail;go_roundw
       case rel=>exact⟨k+1,by omega,by go_num,S,x3⟩
       case measure=>simp [intOf];omega
     ·have DD:=uU (a1y.1 td);go_wp2_with fail;refine(b2e x b k _ h2 hlt bn on rfl).mono ?_;rintro e w3 ⟨r,rfl,hr,hq3⟩;have x3:=x2.trans hq3;cases r
      ·have N:=uU (show ¬R4 x from λr4=>by
        have:=hr.2 ⟨λl hl=>((r4.2 k hlt).2 l hl).1 DD,λhs=>(r4.2 k hlt).1 ⟨DD,hs⟩⟩;simp at this)
       clear hr;go_wp2_with fail;go_ret
       first | (exact Or.inl ⟨rfl,N,x3⟩) | (exact⟨false,rfl,⟨λf=>by simp at f,λr=>(N r).elim⟩,x3⟩)
      ·have S:=uU (show ∀j,j<k+1->¬(cU x j/\cY (x.c j))/\∀l,l<(x.c j).prs.length->a2j x j l ((x.c j).p l) from λj hj=>by
        by_cases e:j=k
        ·subst e;exact⟨λhd=>(hr.1 rfl).2 hd.2,λl hl=>⟨λ_=>(hr.1 rfl).1 l hl,λnd=>(nd DD).elim⟩⟩
        ·exact HA j (by omega))
       clear hr;go_wp2_with fail;go_roundw
       case rel=>exact⟨k+1,by omega,by go_num,S,x3⟩
       case measure=>simp [intOf];omega
    ·have Y:=uU (show R4 x from⟨A1,λi hi=>uH HA i (by omega)⟩);go_wp2_with fail;go_ret
     first | (exact Or.inr ⟨rfl,Y,hbl⟩) | (exact⟨true,rfl,⟨λ_=>uH Y,λ_=>rfl⟩,hbl⟩)
theorem a6c(b:Nat)(w:World)(c8:w.cell? ⟨b,8,none⟩=some (.slice ag 0 kg)):
  Calls Tryz.prog 182 #[.pointer (some ⟨b,0,none⟩)] w λe w'=>e=.returned (.slice none 0 0)/\w'=w:=by
 go_enter Tryz.func182,Tryz.ntmps182;go_wp2_with fail;go_ret;exact⟨rfl,rfl⟩
theorem a6d(x:Hp)(b i:Nat)(w:World)(h:VAt w b x ar kr ac kc ag kg an kn)(hg:0<x.gray.length)(hi:x.gray[0]=(i:Int))(hin:i<x.cells.length)(bc oc:Nat)(ap:Option Addr)(kp:Nat)(ha:ac=some ⟨bc,oc,none⟩)(C:CAt w bc (oc+i*8) (x.c i) ap kp):
  Calls Tryz.prog 182 #[.pointer (some ⟨b,0,none⟩)] w λe w'=>e=.returned (.slice ap (x.c i).prs.length kp)/\∃m,w'=w.drewN m:=by
 obtain⟨bn,on,bc',oc',rfl,e1,m0,m1⟩:=h.N i hin;rw[ha] at e1;cases e1;obtain⟨bg,og,rfl,pg⟩:=h.H.G 0 hg;unfold yQ at pg;rw[hi] at pg;simp only [Nat.zero_mul,Nat.add_zero] at pg;have c8:=h.H.c8;have n13:=h.n13;have p7:=C.p7;have hg3:((x.gray.length:Int) == 0)=false:=beq_eq_false_iff_ne.2 (by omega);have hg4:(0:Int)<(x.gray.length:Int):=by omega
 have hi0:(0:Int)<=(i:Int):=by omega
 have hi1:(i:Int)<(x.cells.length:Int):=by omega
 clear h C hi;go_enter Tryz.func182,Tryz.ntmps182;go_wp2_with fail;go_quiet (fail);go_wp2_with fail;go_ret;exact⟨rfl,_,rfl⟩
theorem b2f(x:Hp)(b:Nat)(w:World)(c6:w.cell? ⟨b,6,none⟩=some (iv x.cells.length))(n13:w.cell? ⟨b,13,none⟩=some (.slice an x.cells.length kn)):
  Calls Tryz.prog 183 #[.pointer (some ⟨b,0,none⟩)] w λe w'=>e=.returned (.slice none 0 0)/\∃m,w'=w.drewN m:=by
 go_enter Tryz.func183,Tryz.ntmps183;go_wp2_with fail;go_quiet (fail);go_wp2_with fail;go_ret;exact⟨rfl,_,rfl⟩
theorem b2g(x:Hp)(b i:Nat)(w:World)(h:VAt w b x ar kr ac kc ag kg an kn)(hi:x.hand=(i:Int))(hin:i<x.cells.length)(bc oc:Nat)(ap:Option Addr)(kp:Nat)(ha:ac=some ⟨bc,oc,none⟩)(C:CAt w bc (oc+i*8) (x.c i) ap kp):
  Calls Tryz.prog 183 #[.pointer (some ⟨b,0,none⟩)] w λe w'=>e=.returned (.slice ap (x.c i).prs.length kp)/\∃m,w'=w.drewN m:=by
 obtain⟨bn,on,bc',oc',rfl,e1,m0,m1⟩:=h.N i hin;rw[ha] at e1;cases e1;have c6:=h.H.c6;rw[hi] at c6;have n13:=h.n13;have p7:=C.p7;have hn:((i:Int) == (x.cells.length:Int))=false:=beq_eq_false_iff_ne.2 (by omega);have hi0:(0:Int)<=(i:Int):=by omega
 have hi1:(i:Int)<(x.cells.length:Int):=by omega
 clear h C hi;go_enter Tryz.func183,Tryz.ntmps183;go_wp2_with fail;go_quiet (fail);go_wp2_with fail;go_quiet (fail);go_wp2_with fail;go_ret;exact⟨rfl,_,by rw[World.drewN_drewN]⟩
theorem b3i(y:Wd)(b:Nat)(w:World)(k2:(y.k == 2)=false):
  Calls Tryz.prog 231 #[.pointer (some ⟨b,0,none⟩),y.v] w λe w'=>e=.returned (.bool false)/\Ext w w':=by
 go_enter Tryz.func231,Tryz.ntmps231;go_wp2_with fail;refine(a6z y b _ k2).mono ?_;rintro e w1 ⟨rfl,hq⟩;go_wp2_with fail;go_ret;exact⟨rfl,Ext.trans ((Ext.refl w).alloc _) hq⟩
theorem a9w(x:Hp)(b:Nat)(w:World)(h:VAt w b x ar kr ac kc ag kg an kn)(r1:R1 x)(r2:R2 x)(r5:R5 x):
  Calls Tryz.prog 112 #[.pointer (some ⟨b,0,none⟩)] w λe w'=>∃r:Bool,Hid (e=.returned (.bool r))/\(r=true↔R6 x)/\Ext w w':=by
 have c5:=h.H.c5;have c6:=h.H.c6;have c7:=h.H.c7;obtain⟨ph0,ph1⟩:=r1.phase;obtain⟨hh0,hh1⟩:=r1.hand;have hs0:=r1.sub.1;have hphase:x.phase=0\/x.phase=1\/x.phase=2\/x.phase=3\/x.phase=4\/x.phase=5\/x.phase=6:=by omega
 clear ph0 ph1;rcases hphase with hp | hp | hp | hp | hp | hp | hp
 ·have Y:=uU (c0v (x:=x) (Or.inl hp));clear r1 r2 r5 h;cases q:(x.hand == 0)
  all_goals
   go_enter Tryz.func112,Tryz.ntmps112;go_wp2_with fail;go_ret;exact⟨_,rfl,by have:=uH Y;rw[q] at this;simpa using this,Ext.refl _⟩
 ·have Y:=uU (R6_1 (x:=x) (Or.inl hp));clear r1 r2 r5 h;go_enter Tryz.func112,Tryz.ntmps112;go_wp2_with fail;go_ret;exact⟨_,rfl,Y,Ext.refl _⟩
 ·cases q:(x.hand == 0)
  ·have Y:=uU (show ¬R6 x from λr=>by have:=(r.2.1 hp).1;simp at q;omega);clear r1 r2 r5 h;go_enter Tryz.func112,Tryz.ntmps112;go_wp2_with fail;go_quiet (fail);go_wp2_with fail;go_ret;exact⟨false,rfl,⟨λf=>by simp at f,λr=>(Y r).elim⟩,(Ext.refl _).drewN _⟩
  ·by_cases hg:x.gray.length=0
   ·have Y:=uU (show decide (x.sub<=0)=true↔R6 x by
     have q2:x.hand=0:=by simpa using q
     unfold R6;simp [hp,hg,q2];omega)
    have c8:=h.H.c8;rw[hg] at c8;have HG:=uU (λn=>a6c b (w.drewN n) (((Ext.refl w).drewN n).keep c8));clear r1 r2 r5 h hg c8;go_enter Tryz.func112,Tryz.ntmps112;go_wp2_with fail;go_quiet ((go_at_call 182;exact Calls.quiet_of_same (HG _)));go_wp2_with fail;go_ret;exact⟨_,rfl,Y,(Ext.refl _).drewN _⟩
   ·have hg0:0<x.gray.length:=by omega
    have hgr:=r5.2.2 x.gray[0] (List.getElem_mem hg0);obtain⟨i,hi⟩:=Int.eq_ofNat_of_zero_le hgr.1;have eg:x.g0=i:=by simp [Hp.g0,hg0,hi]
    have Y:=uU (show decide (x.sub<=((x.c i).prs.length:Int))=true↔R6 x by
     have q2:x.hand=0:=by simpa using q
     have hg2:x.gray≠[]:=λe=>by simp [e] at hg
     unfold R6;rw[eg];simp [hp,hg2,q2])
    obtain⟨b',o,ap,kp,ea,C⟩:=h.H.cell i (by omega);have HG:=uU (λn=>a6d x b i (w.drewN n) (h.ext ((Ext.refl w).drewN n)) hg0 hi (by omega) b' o ap kp ea (C.ext ((Ext.refl w).drewN n)));clear r1 r2 r5 h C hgr hi eg hg hg0 ea;go_enter Tryz.func112,Tryz.ntmps112;go_wp2_with fail;go_quiet ((go_at_call 182;exact Calls.quiet_of (HG _)));go_wp2_with fail;go_ret;exact⟨_,rfl,Y,(Ext.refl _).drewN _⟩
 ·have Y:=uU (R6_1 (x:=x) (Or.inr (Or.inl hp)));clear r1 r2 r5 h;go_enter Tryz.func112,Tryz.ntmps112;go_wp2_with fail;go_ret;exact⟨_,rfl,Y,Ext.refl _⟩
 ·have Y:=uU (c0v (x:=x) (Or.inr hp));clear r1 r2 r5 h;cases q:(x.hand == 0)
  all_goals
   go_enter Tryz.func112,Tryz.ntmps112;go_wp2_with fail;go_ret;exact⟨_,rfl,by have:=uH Y;rw[q] at this;simpa using this,Ext.refl _⟩
 ·obtain⟨i,hi⟩:=Int.eq_ofNat_of_zero_le hh0;by_cases hil:i<x.cells.length
  ·have Y:=uU (show decide (x.sub<=((x.c i).prs.length:Int))=true↔R6 x by
    have q4:¬(i:Int)=(x.cells.length:Int):=by omega
    by_cases q3:(x.c i).st=1
    ·unfold R6;simp [hp,hi,q3,q4]
    ·have q5:(x.c i).prs.length=0:=by
      rcases r2.1 i hil with c | c | c
      ·exact c.2.1.2.2.2.2.2
      ·exact c.2.1.2.2.2.2.2
      ·exact absurd c.1 q3
     unfold R6;simp [hp,hi,q3,q5];omega)
   obtain⟨b',o,ap,kp,ea,C⟩:=h.H.cell i hil;have HG:=uU (λn=>b2g x b i (w.drewN n) (h.ext ((Ext.refl w).drewN n)) hi hil b' o ap kp ea (C.ext ((Ext.refl w).drewN n)));clear r1 r2 r5 h C ea hi hh0 hh1;go_enter Tryz.func112,Tryz.ntmps112;go_wp2_with fail;go_quiet ((go_at_call 183;exact Calls.quiet_of (HG _)));go_wp2_with fail;go_ret;exact⟨_,rfl,Y,(Ext.refl _).drewN _⟩
  ·have he:x.hand=x.cells.length:=by omega
   have Y:=uU (show decide (x.sub<=0)=true↔R6 x by
    unfold R6;simp [hp,he];omega)
   have d6:=c6;rw[he] at d6;have HG:=uU (λn=>b2f x b (w.drewN n) (((Ext.refl w).drewN n).keep d6) (((Ext.refl w).drewN n).keep h.n13));clear r1 r2 r5 h hi hh0 hh1 he d6 hil;go_enter Tryz.func112,Tryz.ntmps112;go_wp2_with fail;go_quiet ((go_at_call 183;exact Calls.quiet_of (HG _)));go_wp2_with fail;go_ret;exact⟨_,rfl,Y,(Ext.refl _).drewN _⟩
 ·have Y:=uU (R6_1 (x:=x) (Or.inr (Or.inr hp)));clear r1 r2 r5 h;go_enter Tryz.func112,Tryz.ntmps112;go_wp2_with fail;go_ret;exact⟨_,rfl,Y,Ext.refl _⟩
def hwB(x:Hp)(y:Wd):Bool:=(y.k == 2) && zC (x.c y.a.toNat)
theorem b2h(x:Hp)(y:Wd)(b i:Nat)(w:World)(h:VAt w b x ar kr ac kc ag kg an kn)(k2:(y.k == 2)=true)(hi:i<x.cells.length):
  Calls Tryz.prog 231 #[.pointer (some ⟨b,0,none⟩),.agg #[iv y.k,iv y.n,iv i]] w λe w'=>e=.returned (.bool (zC (x.c i)))/\Ext w w':=by
 obtain⟨bn,on,bc,oc,rfl,rfl,m0,m1⟩:=h.N i hi;obtain⟨bc',oc',ap,kp,e2,C⟩:=h.H.cell i hi;cases e2;have n13:=h.n13;have x1:=(Ext.refl w).alloc (.cells #[iv y.k,iv y.n,iv i] 152);go_enter Tryz.func231,Tryz.ntmps231;go_wp2_with fail;refine(a4s y b x.cells.length bn on kn i _ k2 (x1.keep n13) hi).mono ?_;rintro e w1 ⟨rfl,hq⟩;have x2:=x1.trans hq;go_wp2_with fail;refine(a4r (x.c i) bn (on+i*2) bc (oc+i*8) ap kp _ (x2.keep m1) (C.ext x2)).mono ?_;rintro e w2 ⟨rfl,rfl⟩;go_wp2_with fail;go_ret;exact⟨rfl,x2⟩
theorem a6e(x:Hp)(y:Wd)(b:Nat)(w:World)(h:VAt w b x ar kr ac kc ag kg an kn)(hy:uK y x.cells.length):
  Calls Tryz.prog 231 #[.pointer (some ⟨b,0,none⟩),y.v] w λe w'=>e=.returned (.bool (hwB x y))/\Ext w w':=by
 cases k2:(y.k == 2)
 ·have:hwB x y=false:=by simp [hwB,k2]
  rw[this];exact b3i y b w k2
 ·have hr:0<=y.a/\y.a<x.cells.length:=by simp at k2;unfold uK at hy;omega
  have e:hwB x y=zC (x.c y.a.toNat):=by simp [hwB,k2]
  rw[e];have:=b2h x y b y.a.toNat w h k2 (by omega)
  rwa [Int.toNat_of_nonneg hr.1] at this
theorem a3f(x:Hp)(b n cap:Nat)(ap:Option Addr)(f:Nat->Pr)(w:World)(h:VAt w b x ar kr ac kc ag kg an kn)
  (lp:n<=35184372088832) (P:∀k,k<n->∃b' o',ap=some ⟨b',o',none⟩/\tL w b' (o'+k*6) (f k)) (hF:∀k,k<n->uK (f k).key x.cells.length/\uK (f k).val x.cells.length) :
  Calls Tryz.prog 185 #[.pointer (some ⟨b,0,none⟩),.slice ap n cap] w λe w'=>∃r:Bool,Hid (e=.returned (.bool r))/\(r=true↔∃k,k<n/\(hwB x (f k).key=true\/hwB x (f k).val=true))/\Ext w w':=by
 have HP:=uU P;have HF:=uU hF;clear P hF;go_enter Tryz.func185,Tryz.ntmps185;go_wp2_with fail;go_loopw [9] (λi wr=>∃l:Nat,l<=n/\i=.int .i64 l/\(∀j,j<l->¬(hwB x (f j).key=true\/hwB x (f j).val=true))/\Ext w wr) (λi _=>n-(intOf i).toNat)
 case atStart=>exact⟨0,Nat.zero_le _,rfl,λj h=>by omega,Ext.refl _⟩
 case round=>
  obtain⟨l,hl,rfl,hall,hbl⟩:=hrel;have HB:=uU hall;clear hall;by_cases hl2:l<n
  ·obtain⟨b2,o2,rfl,q0,q1,q2,q3,q4,q5⟩:=uH HP l hl2;have HFl:=uU (HF l hl2);have e0:=hbl.keep q0;have e1:=hbl.keep q1;have e2:=hbl.keep q2;have e3:=hbl.keep q3;have e4:=hbl.keep q4;have e5:=hbl.keep q5;have hb2:b2<wr.heap.size:=uL e0;clear q0 q1 q2 q3 q4 q5;have hl0:(0:Int)<=(l:Int):=by omega
   have hl1:(l:Int)<(n:Int):=by omega
   have hx3:=hbl.alloc (.cells #[.int .i64 (f l).key.k,.int .i64 (f l).key.n,.int .i64 (f l).key.a,.int .i64 (f l).val.k,.int .i64 (f l).val.n,.int .i64 (f l).val.a] 154);go_wp2_with fail;refine(a6e x (f l).key b _ (h.ext hx3) HFl.1).mono ?_;rintro e w2 ⟨rfl,hq2⟩;have x2:=hx3.trans hq2;have u:=λ(o:Nat) (v:Value) (hc:(wr.alloc (.cells #[.int .i64 (f l).key.k,.int .i64 (f l).key.n,.int .i64 (f l).key.a,.int .i64 (f l).val.k,.int .i64 (f l).val.n,.int .i64 (f l).val.a] 154)).cell? ⟨wr.heap.size,o,none⟩=some v)=>hq2.keep hc
   have u3:=u 3 _ (by simp [go_sem];rfl);have u4:=u 4 _ (by simp [go_sem];rfl);have u5:=u 5 _ (by simp [go_sem];rfl);clear u e0 e1 e2 e3 e4 e5;cases tk:hwB x (f l).key
   ·go_wp2_with fail;refine(a6e x (f l).val b _ (h.ext x2) HFl.2).mono ?_;rintro e w3 ⟨rfl,hq3⟩;have x3:=x2.trans hq3;cases tv:hwB x (f l).val
    ·have S:=uU (show ∀j,j<l+1->¬(hwB x (f j).key=true\/hwB x (f j).val=true) from λj hj=>by
      by_cases e:j=l
      ·subst e;simp [tk,tv]
      ·exact HB j (by omega))
     go_wp2_with fail;go_roundw
     case rel=>exact⟨l+1,by omega,by go_num,S,x3⟩
     case measure=>simp [intOf];omega
    ·have Y:=uU (show ∃k,k<n/\(hwB x (f k).key=true\/hwB x (f k).val=true) from⟨l,hl2,.inr tv⟩);go_wp2_with fail;go_ret;exact⟨true,rfl,⟨λ_=>uH Y,λ_=>rfl⟩,x3⟩
   ·have Y:=uU (show ∃k,k<n/\(hwB x (f k).key=true\/hwB x (f k).val=true) from⟨l,hl2,.inl tk⟩);go_wp2_with fail;go_ret;exact⟨true,rfl,⟨λ_=>uH Y,λ_=>rfl⟩,x2⟩
  ·have N:=uU (show ¬∃k,k<n/\(hwB x (f k).key=true\/hwB x (f k).val=true) from λ⟨k,hk,hh⟩=>uH HB k (by omega) hh);go_wp2_with fail;go_ret;exact⟨false,rfl,⟨λf=>by simp at f,λr=>(N r).elim⟩,hbl⟩
abbrev Rw:=Option Tmp×List Tmp×List Nat
def b2i(md:Region.Mode)(ops:Array Oper)(o:Oper):Rw:=(o.dst,o.looksAt ops,(o.after.toList.filter (λe=>Region.binds md e)).map (·.on))
def c5o(x y:Rw):Bool:=
 (match x.1 with
  | some d=>!y.2.1.contains d && y.1 != some d
  | none=>true) &&
 (match y.1 with
  | some d=>!x.2.1.contains d
  | none=>true)
theorem c2q(md:Region.Mode)(ops:Array Oper)(x y:Oper):c5o (b2i md ops x) (b2i md ops y)=x.apart ops y:=rfl
def lexR:Nat->List Rw->Bool
 | _,[]=>true
 | k,r::rs=>r.2.2.all (λi=>Nat.blt i k) && rs.all (λs=>s.2.2.contains k || c5o r s) && lexR (k+1) rs
theorem a8z(md:Region.Mode)(ops:Array Oper):∀(l:List Oper) (k:Nat) (listed:Array Bool),k+l.length=ops.size->(∀j,l[j]?=ops[k+j]?)->listed.size=ops.size->(∀j,j<ops.size->listed[j]?=some (decide (j<k)))->
  lexR k (l.map (b2i md ops))=true->Region.lexFrom md ops l.length k listed=true
 | [],k,listed,hk,_,hs,hl,_=>by
  simp at hk;simp only [List.length_nil,Region.lexFrom,List.isEmpty_iff,Region.ready,List.filter_eq_nil_iff,List.mem_range];intro i hi;have:=hl i hi;simp [this,hk,hi]
 | o::l,k,listed,hk,ho,hs,hl,h=>by
  simp at hk;have h0:ops[k]?=some o:=by simpa using (ho 0).symm
  have hkn:k<ops.size:=by omega
  simp only [List.map_cons,lexR,Bool.and_eq_true,List.all_eq_true] at h;obtain⟨⟨ha,hb⟩,hc⟩:=h;simp only [List.length_cons,Region.lexFrom,Bool.and_eq_true];refine⟨⟨?_,?_⟩,?_⟩
  ·simp only [List.contains_eq_mem,decide_eq_true_eq,Region.ready,List.mem_filter,List.mem_range];refine⟨hkn,?_⟩;have h1:=hl k hkn;simp only [Array.getD_eq_getD_getElem?,h1,h0];simp only [Nat.lt_irrefl,decide_false,Option.getD_some,Bool.not_false,Option.map_some,Bool.true_and,Array.all_eq_true_iff_forall_mem];intro e he;by_cases hbd:Region.binds md e=true
   ·have:=ha e.on (by simp only [b2i,List.mem_map,List.mem_filter];exact⟨e,⟨by simpa using he,hbd⟩,rfl⟩);have hlt:e.on<k:=Nat.le_of_ble_eq_true this;have h2:=hl e.on (by omega);simp [h2,hlt]
   ·simp [hbd]
  ·simp only [Region.free,h0,List.all_eq_true,List.mem_range];intro j hj;by_cases e1:j=k
   ·simp [e1]
   ·by_cases e2:j<k
    ·have:=hl j hj;simp [this,e2]
    ·obtain⟨oj,hoj⟩:∃oj,ops[j]?=some oj:=⟨_,Array.getElem?_eq_getElem hj⟩
     have hm:oj∈l:=by
      have:=ho (j-k);rw[show k+(j-k)=j by omega,hoj,show j-k=(j-k-1)+1 by omega,List.getElem?_cons_succ] at this;exact List.mem_of_getElem? this
     have:=hb (b2i md ops oj) (List.mem_map_of_mem hm);rw[c2q,Bool.or_eq_true] at this;simp only [hoj,Bool.or_eq_true];rcases this with h3 | h3
     ·refine .inr (.inl ?_);simp only [b2i,List.contains_eq_mem,decide_eq_true_eq,List.mem_map,List.mem_filter] at h3;obtain⟨e,⟨he,hbd⟩,hon⟩:=h3;rw[Array.any_eq_true'];exact⟨e,by simpa using he,by simp [hbd,hon]⟩
     ·exact .inr (.inr h3)
  ·refine a8z md ops l (k+1) _ (by omega) (λj=>?_) (by simpa using hs) (λj hj=>?_) hc
   ·have:=ho (j+1);rw[List.getElem?_cons_succ] at this;rw[this,show k+(j+1)=k+1+j by omega]
   ·rw[Array.getElem?_setIfInBounds];by_cases e:k=j
    ·subst e;rw[if_pos rfl,if_pos (by omega)];simp
    ·rw[if_neg e,hl j hj]
     congr 1
     exact decide_eq_decide.2 (by omega)
theorem b3y(md:Region.Mode)(ops:Array Oper)(hs:Region.noSelect ops=true)(h:lexR 0 (ops.toList.map (b2i md ops))=true):Region.lexB md ops=true:=by
 simp only [Region.lexB,hs,Bool.true_and];have:=a8z md ops ops.toList 0 (Array.replicate ops.size false) (by simp) (by simp) (by simp) (λj hj=>by simp [hj]) h
 simpa using this
end Go.Proofs.YtddkhnclmeikfaaGreat
