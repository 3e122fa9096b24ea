import Derived.Test.YtddkhnclmeikfaaGreatImpS2
import Derived.Laws.EntriesVeiled
set_option maxRecDepth 100000
set_option maxHeartbeats 8000000
namespace Go.Proofs.YtddkhnclmeikfaaGreat
open Go.RowKit
attribute [local go_sem ↓] Go.wp_at_zero Go.wp_at_succ
variable{x:Hp}{k kc kr kg kn base:Nat}{w wr w':World}{ac ar ag an:Option Addr}{v1 v2 vf:Value}{L1 L2 F:List Int}
structure Two(w wr:World)(x:Hp)(k:Nat)(v1 v2:Value)(L1 L2:List Int):Prop where
 e:Ext w wr
 s1:eK wr w.heap.size w.heap.size 0 v1 L1
 s2:eK wr w.heap.size (w.heap.size+1) 0 v2 L2
 d1:v1.ownBlock≠some (w.heap.size+1)
 d2:v2.ownBlock≠some w.heap.size
 d3:∀k,v2.ownBlock=some k->v1.ownBlock≠some k
 h1:Ho L1
 h2:Ho L2
 p1:L1.Perm (a8b x k)
 p2:L2.Perm (a5e x k)
theorem Two.len(h:Two w wr x k v1 v2 L1 L2):L1.length<=k/\L2.length<=k:=
 ⟨by rw[h.p1.length_eq];exact a2q _ _ _,by rw[h.p2.length_eq];exact a2q _ _ _⟩
theorem Two.ext(h:Two w wr x k v1 v2 L1 L2)(e:Ext wr w'):Two w w' x k v1 v2 L1 L2:=
 ⟨h.e.trans e,h.s1.ext e,h.s2.ext e,h.d1,h.d2,h.d3,h.h1,h.h2,h.p1,h.p2⟩
theorem Two.skip(h:Two w wr x k v1 v2 L1 L2)(s1:yK x 1 k=false)(s2:yK x 2 k=false):Two w wr x (k+1) v1 v2 L1 L2:=
 ⟨h.e,h.s1,h.s2,h.d1,h.d2,h.d3,h.h1,h.h2,by unfold a8b;rw[a2p _ _ _ s1];exact h.p1,by unfold a5e;rw[a2p _ _ _ s2];exact h.p2⟩
theorem Two.put1{v1':Value}{L1':List Int}(h:Two w wr x k v1 v2 L1 L2)(s1:yK x 1 k=true)(s2:yK x 2 k=false)
  (l:eK w' w.heap.size w.heap.size 0 v1' L1') (o:Ho L1') (p:L1'.Perm (c0p x k::L1)) (q:QFr w.heap.size 0 v1 v1' wr w'):Two w w' x (k+1) v1' v2 L1' L2:=by
 have hs:=h.s2.hlt;refine⟨q.ext h.e (Nat.le_refl _) (λk hk=>(h.s1.rlt k hk).1),l,h.s2.other q (by omega) h.d1 h.d2 h.d3,?_,h.d2,?_,o,h.h2,?_,by unfold a5e;rw[a2p _ _ _ s2];exact h.p2⟩
 ·rcases q.own with e | ⟨g,e,hg⟩
  ·rw[e];exact h.d1
  ·rw[e];intro f;cases f;omega
 ·intro k hk;rcases q.own with e | ⟨g,e,hg⟩
  ·rw[e];exact h.d3 k hk
  ·rw[e];intro f;cases f;have:=(h.s2.rlt k hk).2;omega
 ·unfold a8b;rw[a2o _ _ _ s1];exact(p.trans (h.p1.cons _)).trans (List.perm_append_singleton _ _).symm
theorem Two.put2{v2':Value}{L2':List Int}(h:Two w wr x k v1 v2 L1 L2)(s1:yK x 1 k=false)(s2:yK x 2 k=true)
  (l:eK w' w.heap.size (w.heap.size+1) 0 v2' L2') (o:Ho L2') (p:L2'.Perm (toOf x k::L2)) (q:QFr (w.heap.size+1) 0 v2 v2' wr w'):Two w w' x (k+1) v1 v2' L1 L2':=by
 have hs:=h.s1.hlt;refine⟨q.ext h.e (by omega) (λk hk=>(h.s2.rlt k hk).1),h.s1.other q (by omega) h.d2 h.d1 (λk h1 h2=>h.d3 k h2 h1),l,h.d1,?_,?_,h.h1,o,by unfold a8b;rw[a2p _ _ _ s1];exact h.p1,?_⟩
 ·rcases q.own with e | ⟨g,e,hg⟩
  ·rw[e];exact h.d2
  ·rw[e];intro f;cases f;omega
 ·intro k hk f;rcases q.own with e | ⟨g,e,hg⟩
  ·rw[e] at hk;exact h.d3 k hk f
  ·rw[e] at hk;cases hk;have:=(h.s1.rlt _ f).2;omega
 ·unfold a5e;rw[a2o _ _ _ s2];exact(p.trans (h.p2.cons _)).trans (List.perm_append_singleton _ _).symm
theorem Two.V(w:World)(x:Hp)(a b:TypeId):Two w ((w.alloc (.cells #[.slice none 0 0] a)).alloc (.cells #[.slice none 0 0] b)) x 0 (.slice none 0 0) (.slice none 0 0) [] []:=by
 refine⟨((Ext.refl w).alloc _).alloc _,eK.nil (by simp [go_sem]) (by simp [go_sem]),eK.nil (by simp [go_sem]) (by simp [go_sem]),by simp [Value.ownBlock],by simp [Value.ownBlock],by simp [Value.ownBlock],Ho.nil,Ho.nil,List.Perm.refl _,List.Perm.refl _⟩
theorem b1v{s:Int}(t:Int)(h:((x.c k).st == s)=true)(hne:s≠t):yK x t k=false:=by
 simp [yK] at *;omega
theorem b4n(x:Hp)(b:Nat)(w:World)(h:VAt w b x ar kr ac kc ag kg an kn)(hF:FAt w b x base vf F)(hn:x.A.length<=8000):
  Calls Tryz.prog 108 #[.pointer (some ⟨b,0,none⟩)] w λe w'=>∃r:Bool,Hid (e=.returned (.bool r))/\(r=true↔R2 x)/\Ext w w':=by
 have n13:=h.n13;have hb:b<w.heap.size:=uL n13;have HV:=uU h;have HFF:=uU hF;clear h hF;go_enter Tryz.func108,Tryz.ntmps108;go_wp2_with fail;go_loopw [12] (λi wr=>∃(k:Nat) (v1 v2:Value) (L1 L2:List Int),k<=x.A.length/\i=.int .i64 k/\Hid (∀j,j<k->cQ x j)/\Two w wr x k v1 v2 L1 L2) (λi _=>x.A.length-(intOf i).toNat)
 case atStart=>exact⟨0,_,_,[],[],Nat.zero_le _,rfl,λj hj=>by omega,Two.V w x _ _⟩
 case round=>
  clear n13;obtain⟨k,v1,v2,L1,L2,hk,rfl,HA,htwo⟩:=hrel;have TW:=uU htwo;by_cases hlt:k<x.A.length
  ·have hv:=HV.ext htwo.e;have hff:=HFF.ext htwo.e;obtain⟨bn,on,bc,oc,rfl,rfl,m0,m1⟩:=hv.N k hlt;obtain⟨bc2,oc2,ap,kp,e2,C⟩:=hv.H.cell k hlt;cases e2;have p0:=C.p0;have p4:=C.p4;have p6:=C.p6;have d13:=hv.n13;have HC:=uU C;have HV1:=uU hv;have HF1:=uU hff;have hk0:(0:Int)<=(k:Int):=by omega
   have hk1:(k:Int)<(x.A.length:Int):=by omega
   have hbs:w.heap.size<=wr.heap.size:=htwo.e.size;have hl1:L1.length<=1000000000:=by have:=htwo.len.1;omega
   have hl2:L2.length<=1000000000:=by have:=htwo.len.2;omega
   clear htwo C hv hff
   have step:cQ x k->Hid (∀j,j<k+1->cQ x j):=λhc j hj=>by
    by_cases e:j=k
    ·rw[e];exact hc
    ·exact HA j (by omega)
   have ST:=uU step;clear step;cases s0:((x.c k).st == 0)
   ·cases s1:((x.c k).st == 1)
    ·cases s2:((x.c k).st == 2)
     ·have N:=uU (show ¬R2 x from λr=>by
       have:=r.1 k hlt;unfold cQ at this;simp at s0 s1 s2;omega)
      go_wp2_with fail;go_ret;exact⟨false,rfl,⟨λf=>by simp at f,λr=>(N r).elim⟩,TW.e⟩
     ·go_wp2_with fail;refine(b4i x b k _ HV1 HF1 hlt bn on rfl).mono ?_;rintro e w2 ⟨r,rfl,hr,hq⟩;have T2:=uU (TW.ext hq);cases r
      ·have N:=uU (show ¬R2 x from λr=>by
        have h2:=r.1 k hlt;unfold cQ at h2;have h3:(x.c k).st=2:=by simpa using s2
        have:=hr.2 (by rcases h2 with h2 | h2 | h2 <;> first | exact h2.2 | omega);simp at this)
       clear hr;go_wp2_with fail;go_ret;exact⟨false,rfl,⟨λf=>by simp at f,λr=>(N r).elim⟩,T2.e⟩
      ·have OK:=uU (ST (.inr (.inl ⟨by simpa using s2,hr.1 rfl⟩)));have u6:=hq.keep p6;have um:=hq.keep m1;clear hr;go_wp2_with fail;refine(b3h _ w.heap.size (w.heap.size+1) 0 v2 L2 (x.c k).to T2.s2 (Nat.le_trans hbs hq.size) T2.h2 (by omega)).mono ?_;rintro e w3 ⟨rfl,v3,L3,l3,o3,p3,q3⟩;have T3:=uU (T2.put2 (b1v 1 s2 (by omega)) s2 l3 o3 p3 q3);clear l3 o3 p3 q3;go_wp2_with fail;go_roundw
       case rel=>exact⟨k+1,v1,v3,L1,L3,by omega,by go_num,OK,T3⟩
       case measure=>simp [intOf];omega
    ·go_wp2_with fail;refine(b6o x (x.c k) b bn (on+k*2) _ _ ap kp _ HV1.H.c2 m1 HC).mono ?_;rintro e w2 ⟨r,rfl,hr,hq⟩;have T2:=uU (TW.ext hq);cases r
     ·have N:=uU (show ¬R2 x from λr=>by
       have h2:=r.1 k hlt;unfold cQ at h2;have h3:(x.c k).st=1:=by simpa using s1
       have:=hr.2 (by rcases h2 with h2 | h2 | h2 <;> first | exact h2.2 | omega);simp at this)
      clear hr;go_wp2_with fail;go_ret;exact⟨false,rfl,⟨λf=>by simp at f,λr=>(N r).elim⟩,T2.e⟩
     ·have OK:=uU (ST (.inr (.inr ⟨by simpa using s1,hr.1 rfl⟩)));have u4:=hq.keep p4;have um:=hq.keep m1;clear hr;go_wp2_with fail;refine(b3h _ w.heap.size w.heap.size 0 v1 L1 (x.c k).born T2.s1 (Nat.le_trans hbs hq.size) T2.h1 (by omega)).mono ?_;rintro e w3 ⟨rfl,v3,L3,l3,o3,p3,q3⟩;have T3:=uU (T2.put1 s1 (b1v 2 s1 (by omega)) l3 o3 p3 q3);clear l3 o3 p3 q3;go_wp2_with fail;go_roundw
      case rel=>exact⟨k+1,v3,v2,L3,L2,by omega,by go_num,OK,T3⟩
      case measure=>simp [intOf];omega
   ·have S0:=uU (show(x.c k).st=0 by simpa using s0);go_wp2_with fail;refine(b8u (x.c k) bn (on+k*2) _ _ ap kp _ m1 HC).mono ?_;rintro e w2 ⟨rfl,rfl⟩;cases tb:b1f (x.c k)
    ·have N:=uU (show ¬R2 x from λr=>by
      have h2:=r.1 k hlt;unfold cQ at h2;have h3:=uH S0;have:yW (x.c k):=by rcases h2 with h2 | h2 | h2 <;> first | exact h2.2.1 | omega
      rw[<-a7k,tb] at this;simp at this)
     go_wp2_with fail;go_ret;exact⟨false,rfl,⟨λf=>by simp at f,λr=>(N r).elim⟩,TW.e⟩
    ·cases tt:((x.c k).to == 0)
     ·have tt2:((x.c k).to != 0)=true:=by simpa using tt
      have N:=uU (show ¬R2 x from λr=>by
       have h2:=r.1 k hlt;unfold cQ at h2;have h3:=uH S0;simp at tt;omega)
      go_wp2_with fail;go_ret;exact⟨false,rfl,⟨λf=>by simp at f,λr=>(N r).elim⟩,TW.e⟩
     ·have tt2:((x.c k).to != 0)=false:=by simpa using tt
      have OK:=uU (ST (.inl ⟨S0,a7k.1 tb,by simpa using tt⟩));have T3:=uU (TW.skip (b1v 1 s0 (by omega)) (b1v 2 s0 (by omega)));go_wp2_with fail;go_roundw
      case rel=>exact⟨k+1,v1,v2,L1,L2,by omega,by go_num,OK,T3⟩
      case measure=>simp [intOf];omega
  ·have hk2:k=x.A.length:=by omega
   have A1:=uU (show ∀j,j<x.A.length->cQ x j from λj hj=>uH HA j (by omega));have AP:=uU (c3y x A1);have P1:=uU (show L1.Nodup↔(a8b x x.A.length).Nodup by have:=htwo.p1;rw[hk2] at this;exact this.nodup_iff);have P2:=uU (show L2.Nodup↔(a5e x x.A.length).Nodup by have:=htwo.p2;rw[hk2] at this;exact this.nodup_iff);have hl1:L1.length<=1000000000:=by have:=htwo.len.1;omega
   have hl2:L2.length<=1000000000:=by have:=htwo.len.2;omega
   clear htwo hk2;go_wp2_with fail;refine(b3i _ w.heap.size w.heap.size 0 v1 L1 TW.s1 TW.h1 hl1).mono ?_;rintro e w2 ⟨r,rfl,hr,v3,q3⟩;have E2:=uU (q3.ext TW.e (Nat.le_refl _) (λk hk=>(TW.s1.rlt k hk).1));have S2:=uU (TW.s2.other q3 (by omega) TW.d1 TW.d2 TW.d3);clear q3;cases r
   ·have N:=uU (show ¬R2 x from λr=>by
     have:=hr.2 (P1.2 (AP.1 r.2).1);simp at this)
    clear hr;go_wp2_with fail;go_ret;exact⟨false,rfl,⟨λf=>by simp at f,λr=>(N r).elim⟩,E2⟩
   ·have B1:=uU (P1.1 (hr.1 rfl));clear hr;go_wp2_with fail;refine(b3i _ w.heap.size (w.heap.size+1) 0 v2 L2 S2 TW.h2 hl2).mono ?_;rintro e w3 ⟨r,rfl,hr,v4,q4⟩;have E3:=uU (q4.ext E2 (by omega) (λk hk=>(S2.rlt k hk).1));have RR:=uU (show r=true↔R2 x from⟨λe=>⟨A1,AP.2 ⟨B1,P2.1 (hr.1 e)⟩⟩,λq=>hr.2 (P2.2 (AP.1 q.2).2)⟩);clear q4 hr;go_wp2_with fail;go_ret;exact⟨r,rfl,RR,E3⟩
theorem a6w(x:Hp)(b n cap:Nat)(ap:Option Addr)(f:Nat->Pr)(s:Bool)(hs:s=true↔∃k,k<n/\(hwB x (f k).key=true\/hwB x (f k).val=true))(w:World)(h:VAt w b x ar kr ac kc ag kg an kn)
  (lp:n<=35184372088832) (P:∀k,k<n->∃b' o',ap=some ⟨b',o',none⟩/\tQ w b' (o'+k*6) (f k)) (hF:∀k,k<n->uE (f k).key x.A.length/\uE (f k).val x.A.length) :
  Calls Tryz.prog 185 #[.pointer (some ⟨b,0,none⟩),.slice ap n cap] w λe w'=>e=.returned (.bool s)/\Ext w w':=
 (a3i x b n cap ap f w h lp P hF).mono λe w' ⟨r,he,hr,hx⟩=>by
  have:r=s:=by rw[Bool.eq_iff_iff];exact hr.trans hs.symm
  rw[<-this];exact⟨he,hx⟩
theorem b4o(x:Hp)(b:Nat)(w:World)(h:VAt w b x ar kr ac kc ag kg an kn)(hcap:a4g w x ac)(r1:R1 x)(r2:R2 x)(r4:R4 x)(r5:R5 x)(r6:R6 x):
  Calls Tryz.prog 113 #[.pointer (some ⟨b,0,none⟩)] w λe w'=>∃r:Bool,Hid (e=.returned (.bool r))/\(r=true↔R7 x)/\Ext w w':=by
 have c5:=h.H.c5;have n13:=h.n13;have HV:=uU h;have HCAP:=uU hcap;have lc:=h.H.lc;have hsub0:0<=x.sub:=r1.sub.1;have Q2:=uU r2;have Q4:=uU r4;have Q5:=uU r5;have Q6:=uU r6;clear h hcap r1 r2 r4 r5 r6;cases tm:a1v x
 ·have Y:=uU (show R7 x from λm=>by rw[<-a2g,tm] at m;simp at m);go_enter Tryz.func113,Tryz.ntmps113;go_wp2_with fail;refine(a8m x b false tm _ c5).mono ?_;rintro e w1 ⟨rfl,rfl⟩;go_wp2_with fail;go_ret;exact⟨true,rfl,⟨λ_=>uH Y,λ_=>rfl⟩,Ext.refl _⟩
 have MM:=uU (a2g.1 tm);have IFF:=uU (R7_iff Q2 Q4 Q5 Q6 MM);go_enter Tryz.func113,Tryz.ntmps113;go_wp2_with fail;refine(a8m x b true tm _ c5).mono ?_;rintro e w1 ⟨rfl,rfl⟩;go_wp2_with fail;go_loopw [13] (λi wr=>∃(k:Nat),k<=x.A.length/\i=.int .i64 k/\Hid (∀i,i<k->¬(a0r (x.c i)=true/\zN (x.c i)=true/\(x.E=2\/(i:Int)<x.I))/\((x.c i).J=2->¬∃k,k<(x.c i).F.length/\(hwB x ((x.c i).p k).key=true\/hwB x ((x.c i).p k).val=true)))/\Ext w1 wr) (λi _=>x.A.length-(intOf i).toNat)
 case atStart=>exact⟨0,Nat.zero_le _,rfl,λj hj=>by omega,Ext.refl _⟩
 case round=>
  clear n13 c5;obtain⟨k,hk,rfl,HA,hbl⟩:=hrel;by_cases hlt:k<x.A.length
  ·have hv:=HV.ext hbl;obtain⟨bn,on,bc,oc,rfl,rfl,m0,m1⟩:=hv.N k hlt;obtain⟨bc2,oc2,ap,kp,e2,C⟩:=hv.H.cell k hlt;cases e2;have d13:=hv.n13;have HV1:=uU hv;have HC:=uU C;have HPP:=uU C.P;have p5:=C.p5;have p7:=C.p7;have lp:=C.lp;have hk0:(0:Int)<=(k:Int):=by omega
   have hk1:(k:Int)<(x.A.length:Int):=by omega
   clear hv C;have FF:=uU (λl (hl:l<(x.c k).F.length)=>(a8n Q4 MM k l hlt hl).1)
   have ST:=uU (show ¬(a0r (x.c k)=true/\zN (x.c k)=true/\(x.E=2\/(k:Int)<x.I))->((x.c k).J=2->¬∃l,l<(x.c k).F.length/\(hwB x ((x.c k).p l).key=true\/hwB x ((x.c k).p l).val=true))->∀i,i<k+1->¬(a0r (x.c i)=true/\zN (x.c i)=true/\(x.E=2\/(i:Int)<x.I))/\((x.c i).J=2->¬∃k,k<(x.c i).F.length/\(hwB x ((x.c i).p k).key=true\/hwB x ((x.c i).p k).val=true)) from λh1 h2 j hj=>by
    by_cases e:j=k
    ·rw[e];exact⟨h1,h2⟩
    ·exact HA j (by omega))
   cases ts:a0r (x.c k)
   ·have H1:=uU (show ¬(a0r (x.c k)=true/\zN (x.c k)=true/\(x.E=2\/(k:Int)<x.I)) from λq=>by rw[ts] at q;simp at q);go_wp2_with fail;refine(a2u (x.c k) bn (on+k*2) _ _ ap kp _ m1 HC).mono ?_;rintro e w2 ⟨rfl,rfl⟩;rw[ts];cases tc:((x.c k).J == 2)
    ·have OK:=uU (ST H1 (λe=>by rw[e] at tc;simp at tc));go_wp2_with fail;go_roundw
     case rel=>exact⟨k+1,by omega,by go_num,OK,hbl⟩
     case measure=>simp [intOf];omega
    ·go_wp2_with fail;refine(a3i x b (x.c k).F.length kp ap (x.c k).p _ (HV.ext hbl) lp HPP FF).mono ?_;rintro e w6 ⟨r,rfl,hr,hq6⟩;have x6:=Ext.trans hbl hq6;cases r
     ·have OK:=uU (ST H1 (λ_ q=>by have:=hr.2 q;simp at this));clear hr;go_wp2_with fail;go_roundw
      case rel=>exact⟨k+1,by omega,by go_num,OK,x6⟩
      case measure=>simp [intOf];omega
     ·have N:=uU (show ¬R7 x from λr7=>((IFF.1 r7).1 k hlt).2 (by simpa using tc) (hr.1 rfl));clear hr;go_wp2_with fail;go_ret;exact⟨false,rfl,⟨λf=>by simp at f,λr=>(N r).elim⟩,x6⟩
   ·cases tw:zN (x.c k)
    ·have H1:=uU (show ¬(a0r (x.c k)=true/\zN (x.c k)=true/\(x.E=2\/(k:Int)<x.I)) from λq=>by rw[tw] at q;simp at q);go_wp2_with fail;refine(a2u (x.c k) bn (on+k*2) _ _ ap kp _ m1 HC).mono ?_;rintro e w2 ⟨rfl,rfl⟩;rw[ts];go_wp2_with fail;refine(a4u (x.c k) bn (on+k*2) _ _ ap kp _ m1 HC).mono ?_;rintro e w3 ⟨rfl,rfl⟩;rw[tw];cases tc:((x.c k).J == 2)
     ·have OK:=uU (ST H1 (λe=>by rw[e] at tc;simp at tc));go_wp2_with fail;go_roundw
      case rel=>exact⟨k+1,by omega,by go_num,OK,hbl⟩
      case measure=>simp [intOf];omega
     ·go_wp2_with fail;refine(a3i x b (x.c k).F.length kp ap (x.c k).p _ (HV.ext hbl) lp HPP FF).mono ?_;rintro e w6 ⟨r,rfl,hr,hq6⟩;have x6:=Ext.trans hbl hq6;cases r
      ·have OK:=uU (ST H1 (λ_ q=>by have:=hr.2 q;simp at this));clear hr;go_wp2_with fail;go_roundw
       case rel=>exact⟨k+1,by omega,by go_num,OK,x6⟩
       case measure=>simp [intOf];omega
      ·have N:=uU (show ¬R7 x from λr7=>((IFF.1 r7).1 k hlt).2 (by simpa using tc) (hr.1 rfl));clear hr;go_wp2_with fail;go_ret;exact⟨false,rfl,⟨λf=>by simp at f,λr=>(N r).elim⟩,x6⟩
    ·cases tr:((x.E == 2) || decide ((k:Int)<x.I))
     ·have H1:=uU (show ¬(a0r (x.c k)=true/\zN (x.c k)=true/\(x.E=2\/(k:Int)<x.I)) from λq=>by
       have:=q.2.2;simp at tr;omega)
      go_wp2_with fail;refine(a2u (x.c k) bn (on+k*2) _ _ ap kp _ m1 HC).mono ?_;rintro e w2 ⟨rfl,rfl⟩;rw[ts];go_wp2_with fail;refine(a4u (x.c k) bn (on+k*2) _ _ ap kp _ m1 HC).mono ?_;rintro e w3 ⟨rfl,rfl⟩;rw[tw];go_wp2_with fail;refine(a9n x b bn (on+k*2) k _ HV1.H.c5 HV1.H.c6 m0).mono ?_;rintro e w4 ⟨rfl,hq4⟩;rw[tr];have x4:=hbl.trans hq4;have PP4:=uU ((HC.ext hq4).P);have m1':=hq4.keep m1;have p5':=hq4.keep p5;have p7':=hq4.keep p7;clear m1 p5 p7;cases tc:((x.c k).J == 2)
      ·have OK:=uU (ST H1 (λe=>by rw[e] at tc;simp at tc));go_wp2_with fail;go_roundw
       case rel=>exact⟨k+1,by omega,by go_num,OK,x4⟩
       case measure=>simp [intOf];omega
      ·go_wp2_with fail;refine(a3i x b (x.c k).F.length kp ap (x.c k).p _ (HV.ext x4) lp PP4 FF).mono ?_;rintro e w6 ⟨r,rfl,hr,hq6⟩;have x6:=Ext.trans x4 hq6;cases r
       ·have OK:=uU (ST H1 (λ_ q=>by have:=hr.2 q;simp at this));clear hr;go_wp2_with fail;go_roundw
        case rel=>exact⟨k+1,by omega,by go_num,OK,x6⟩
        case measure=>simp [intOf];omega
       ·have N:=uU (show ¬R7 x from λr7=>((IFF.1 r7).1 k hlt).2 (by simpa using tc) (hr.1 rfl));clear hr;go_wp2_with fail;go_ret;exact⟨false,rfl,⟨λf=>by simp at f,λr=>(N r).elim⟩,x6⟩
     ·have N:=uU (show ¬R7 x from λr7=>((IFF.1 r7).1 k hlt).1 ⟨ts,tw,by simpa using tr⟩);go_wp2_with fail;refine(a2u (x.c k) bn (on+k*2) _ _ ap kp _ m1 HC).mono ?_;rintro e w2 ⟨rfl,rfl⟩;rw[ts];go_wp2_with fail;refine(a4u (x.c k) bn (on+k*2) _ _ ap kp _ m1 HC).mono ?_;rintro e w3 ⟨rfl,rfl⟩;rw[tw];go_wp2_with fail;refine(a9n x b bn (on+k*2) k _ HV1.H.c5 HV1.H.c6 m0).mono ?_;rintro e w4 ⟨rfl,hq4⟩;rw[tr];have x4:=hbl.trans hq4;go_wp2_with fail;go_ret;exact⟨false,rfl,⟨λf=>by simp at f,λr=>(N r).elim⟩,x4⟩
  ·have A1:=uU (show R7b x from λi hi=>uH HA i (by omega));have hv:=HV.ext hbl;have d7:=hv.H.c7;have HV1:=uU hv;obtain⟨s,hs⟩:∃s:Nat,x.sub=(s:Int):=⟨x.sub.toNat,by omega⟩;rw[hs] at d7;have HS:=uU hs;have F0:∀w',Up wr w'->w'.cell? ⟨b,7,none⟩=some (iv (s:Int)):=λw' e=>e.ext.keep d7
   clear hv hs hsub0;by_cases hg:x.D.length=0
   ·have d8:=HV1.H.c8;rw[hg] at d8
    have hs0:s=0:=by
     have h6:=uH Q6;have hm:=uH MM;have:=uH HS;unfold uD at hm;rcases hm with hm | hm
     ·have:=h6.2.2.2 (.inl hm);omega
     ·have:=(h6.2.1 hm).2.1 hg;omega
    subst hs0;have Y:=uU (show R7 x from IFF.2 ⟨A1,λ_ g=>(g hg).elim⟩);have HG:=uU (λw' (e:Up wr w')=>a4c ((a6k b w' (e.ext.keep d8)).mono λ_ _ ⟨he,hw⟩=>⟨he,hw ▸ Ext.refl w'⟩) e);have HW:=uU (λw' (e:Up wr w')=>a4c (a6w x b 0 0 none (λ_=>Pr0) false (by simp) w' (HV1.ext e.ext) (by omega) (λk hk=>by omega) (λk hk=>by omega)) e);go_wp2_with fail;refine wp_region_quiet (C:=Up wr) (by kernel_rfl) (by kernel_rfl) (show Ext _ _ from(Ext.refl _).drew) ?_
    go_simp
    iterate 12 (first | go_big_quiet_skip | (go_big_quiet_want;go_big_quiet_op;first | go_big_quiet_on | (apply Exists.intro;refine⟨λw' hw'=>?_,?_⟩;(first | (go_at_call 182;exact(uH HG w' hw')) | (go_at_call 185;exact(uH HW w' hw')) | (with_reducible rfl) | (go_simp;first | done | (with_reducible rfl) | (refine⟨?_,?_⟩ <;> with_reducible rfl)));go_big_quiet_on)))
    refine wpQuiet_nil ?_;intro w3 hq3;have x3:=hbl.trans hq3.ext;clear F0 HG HW;go_wp2_with fail;go_ret;exact⟨true,rfl,⟨λ_=>uH Y,λ_=>rfl⟩,x3⟩
   ·obtain⟨g1,g2,g3⟩:=g0_ok Q5 hg;obtain⟨bc,oc,ap,kp,e2,C⟩:=HV1.H.cell x.g0 g1;have hg0:0<x.D.length:=by omega
    have hgi:x.D[0]=(x.g0:Int):=by rw[<-g2];simp [hg0]
    have hsn:s<=(x.c x.g0).F.length:=by
     have h6:=uH Q6;have hm:=uH MM;have:=uH HS;unfold uD at hm;rcases hm with hm | hm
     ·have:=h6.2.2.2 (.inl hm);omega
     ·have:=(h6.2.1 hm).2.2 hg;omega
    have hsk:s<=kp:=by
     have hc:=(a4g.ext HCAP HV.H hbl) x.g0 g1 bc oc ap (x.c x.g0).F.length kp e2 C.p7;omega
    have i0:(0:Int)<=(s:Int):=by omega
    have i1:(s:Int)<=(kp:Int):=by omega
    have hlp:s<=35184372088832:=by have:=C.lp;omega
    have HG:=uU (λw' (e:Up wr w')=>a4c ((a6m x b x.g0 w' (HV1.ext e.ext) hg0 hgi g1 bc oc ap kp e2 (C.ext e.ext)).mono λ_ _ ⟨he,m,hw⟩=>⟨he,hw ▸ (Ext.refl w').drewN m⟩) e);have FF:=uU (λl (hl:l<s)=>(a8n Q4 MM x.g0 l g1 (by omega)).1);have CC:=uU C
    have PH2:=uU (show x.E=2\/s=0 by
     have h6:=uH Q6;have hm:=uH MM;have:=uH HS;unfold uD at hm;rcases hm with hm | hm
     ·have:=h6.2.2.2 (.inl hm);omega
     ·exact .inl hm)
    have R7C:=uU (show R7c x↔¬∃k,k<s/\(hwB x ((x.c x.g0).p k).key=true\/hwB x ((x.c x.g0).p k).val=true) by
     have e1:x.sub.toNat=s:=by have:=uH HS;omega
     constructor
     ·rintro h ⟨k,hk,hw⟩;rcases uH PH2 with p | p
      ·exact h p hg k (by rw[e1];exact hk) hw
      ·omega
     ·intro h _ _ k hk hw;exact h ⟨k,by rw[e1] at hk;exact hk,hw⟩)
    clear C;by_cases hex:∃k,k<s/\(hwB x ((x.c x.g0).p k).key=true\/hwB x ((x.c x.g0).p k).val=true)
    ·have N:=uU (show ¬R7 x from λr7=>R7C.1 (IFF.1 r7).2 hex);have HW:=uU (λw' (e:Up wr w')=>a4c (a6w x b s kp ap (x.c x.g0).p true ⟨λ_=>hex,λ_=>rfl⟩ w' (HV1.ext e.ext) hlp (λk hk=>(CC.ext e.ext).P k (by omega)) FF) e);clear hex;go_wp2_with fail;refine wp_region_quiet (C:=Up wr) (by kernel_rfl) (by kernel_rfl) (show Ext _ _ from(Ext.refl _).drew) ?_
     go_simp
     iterate 12 (first | go_big_quiet_skip | (go_big_quiet_want;go_big_quiet_op;first | go_big_quiet_on | (apply Exists.intro;refine⟨λw' hw'=>?_,?_⟩;(first | (go_at_call 182;exact(uH HG w' hw')) | (go_at_call 185;exact(uH HW w' hw')) | (with_reducible rfl) | (go_simp;first | done | (with_reducible rfl) | (refine⟨?_,?_⟩ <;> with_reducible rfl)));go_big_quiet_on)))
     refine wpQuiet_nil ?_;intro w3 hq3;have x3:=hbl.trans hq3.ext;clear F0 HG HW;go_wp2_with fail;go_ret;exact⟨false,rfl,⟨λf=>by simp at f,λr=>(N r).elim⟩,x3⟩
    ·have Y:=uU (show R7 x from IFF.2 ⟨A1,R7C.2 hex⟩);have HW:=uU (λw' (e:Up wr w')=>a4c (a6w x b s kp ap (x.c x.g0).p false ⟨λf=>by simp at f,λq=>(hex q).elim⟩ w' (HV1.ext e.ext) hlp (λk hk=>(CC.ext e.ext).P k (by omega)) FF) e);clear hex;go_wp2_with fail;refine wp_region_quiet (C:=Up wr) (by kernel_rfl) (by kernel_rfl) (show Ext _ _ from(Ext.refl _).drew) ?_
     go_simp
     iterate 12 (first | go_big_quiet_skip | (go_big_quiet_want;go_big_quiet_op;first | go_big_quiet_on | (apply Exists.intro;refine⟨λw' hw'=>?_,?_⟩;(first | (go_at_call 182;exact(uH HG w' hw')) | (go_at_call 185;exact(uH HW w' hw')) | (with_reducible rfl) | (go_simp;first | done | (with_reducible rfl) | (refine⟨?_,?_⟩ <;> with_reducible rfl)));go_big_quiet_on)))
     refine wpQuiet_nil ?_;intro w3 hq3;have x3:=hbl.trans hq3.ext;clear F0 HG HW;go_wp2_with fail;go_ret;exact⟨true,rfl,⟨λ_=>uH Y,λ_=>rfl⟩,x3⟩
def Rn(x:Hp):Nat->Prop
 | 0=>R1 x
 | 1=>R2 x
 | 2=>R3 x
 | 3=>R4 x
 | 4=>R5 x
 | 5=>R6 x
 | 6=>R7 x
 | _=>R8 x
theorem b5p{x:Hp}{k:Nat}(hk:k<8)(h:∀j,j<k->Rn x j)(hn:¬Rn x k):eQ x ((k:Int)+1):=by
 unfold eQ;have h0:=h 0;have h1:=h 1;have h2:=h 2;have h3:=h 3;have h4:=h 4;have h5:=h 5;have h6:=h 6;simp only [Rn] at h0 h1 h2 h3 h4 h5 h6
 match k,hk with
 | 0,_=>exact .inl ⟨hn,rfl⟩
 | 1,_=>exact .inr (.inl ⟨h0 (by omega),hn,rfl⟩)
 | 2,_=>exact .inr (.inr (.inl ⟨h0 (by omega),h1 (by omega),hn,rfl⟩))
 | 3,_=>exact .inr (.inr (.inr (.inl ⟨h0 (by omega),h1 (by omega),h2 (by omega),hn,rfl⟩)))
 | 4,_=>exact .inr (.inr (.inr (.inr (.inl ⟨h0 (by omega),h1 (by omega),h2 (by omega),h3 (by omega),hn,rfl⟩))))
 | 5,_=>exact .inr (.inr (.inr (.inr (.inr (.inl ⟨h0 (by omega),h1 (by omega),h2 (by omega),h3 (by omega),h4 (by omega),hn,rfl⟩)))))
 | 6,_=>exact .inr (.inr (.inr (.inr (.inr (.inr (.inl ⟨h0 (by omega),h1 (by omega),h2 (by omega),h3 (by omega),h4 (by omega),h5 (by omega),hn,rfl⟩))))))
 | 7,_=>exact .inr (.inr (.inr (.inr (.inr (.inr (.inr (.inl ⟨h0 (by omega),h1 (by omega),h2 (by omega),h3 (by omega),h4 (by omega),h5 (by omega),h6 (by omega),hn,rfl⟩)))))))
theorem okis_ok(h:∀j,j<8->Rn x j):eQ x 0:=by
 unfold eQ;exact .inr (.inr (.inr (.inr (.inr (.inr (.inr (.inr ⟨h 0 (by omega),h 1 (by omega),h 2 (by omega),h 3 (by omega),h 4 (by omega),h 5 (by omega),h 6 (by omega),h 7 (by omega),rfl⟩)))))))
theorem rn_step(h:∀j,j<k->Rn x j)(hn:Rn x k):∀j,j<k+1->Rn x j:=λj hj=>by
 by_cases e:j=k
 ·rw[e];exact hn
 ·exact h j (by omega)
theorem c9o(r2:R2 x)(i:Nat)(hi:i<x.A.length):(x.c i).F.length<=200:=by
 rcases r2.1 i hi with c | c | c
 ·have:=c.2.1.2.2.2.2.2;omega
 ·have:=c.2.1.2.2.2.2.2;omega
 ·exact c.2.2.2.2.2.2.2
theorem b5q(b:Nat):(∀w,(Instr.index 165 (.agg #[.func (.func 106) #[.pointer (some ⟨b,0,none⟩)] #[],.func (.func 108) #[.pointer (some ⟨b,0,none⟩)] #[],.func (.func 109) #[.pointer (some ⟨b,0,none⟩)] #[],.func (.func 110) #[.pointer (some ⟨b,0,none⟩)] #[],.func (.func 111) #[.pointer (some ⟨b,0,none⟩)] #[],.func (.func 112) #[.pointer (some ⟨b,0,none⟩)] #[],.func (.func 113) #[.pointer (some ⟨b,0,none⟩)] #[],.func (.func 114) #[.pointer (some ⟨b,0,none⟩)] #[]]) (.int .i64 0)).run Tryz.prog w=.ok (.func (.func 106) #[.pointer (some ⟨b,0,none⟩)] #[]) w)/\(∀w,(Instr.index 165 (.agg #[.func (.func 106) #[.pointer (some ⟨b,0,none⟩)] #[],.func (.func 108) #[.pointer (some ⟨b,0,none⟩)] #[],.func (.func 109) #[.pointer (some ⟨b,0,none⟩)] #[],.func (.func 110) #[.pointer (some ⟨b,0,none⟩)] #[],.func (.func 111) #[.pointer (some ⟨b,0,none⟩)] #[],.func (.func 112) #[.pointer (some ⟨b,0,none⟩)] #[],.func (.func 113) #[.pointer (some ⟨b,0,none⟩)] #[],.func (.func 114) #[.pointer (some ⟨b,0,none⟩)] #[]]) (.int .i64 1)).run Tryz.prog w=.ok (.func (.func 108) #[.pointer (some ⟨b,0,none⟩)] #[]) w)/\(∀w,(Instr.index 165 (.agg #[.func (.func 106) #[.pointer (some ⟨b,0,none⟩)] #[],.func (.func 108) #[.pointer (some ⟨b,0,none⟩)] #[],.func (.func 109) #[.pointer (some ⟨b,0,none⟩)] #[],.func (.func 110) #[.pointer (some ⟨b,0,none⟩)] #[],.func (.func 111) #[.pointer (some ⟨b,0,none⟩)] #[],.func (.func 112) #[.pointer (some ⟨b,0,none⟩)] #[],.func (.func 113) #[.pointer (some ⟨b,0,none⟩)] #[],.func (.func 114) #[.pointer (some ⟨b,0,none⟩)] #[]]) (.int .i64 2)).run Tryz.prog w=.ok (.func (.func 109) #[.pointer (some ⟨b,0,none⟩)] #[]) w)/\(∀w,(Instr.index 165 (.agg #[.func (.func 106) #[.pointer (some ⟨b,0,none⟩)] #[],.func (.func 108) #[.pointer (some ⟨b,0,none⟩)] #[],.func (.func 109) #[.pointer (some ⟨b,0,none⟩)] #[],.func (.func 110) #[.pointer (some ⟨b,0,none⟩)] #[],.func (.func 111) #[.pointer (some ⟨b,0,none⟩)] #[],.func (.func 112) #[.pointer (some ⟨b,0,none⟩)] #[],.func (.func 113) #[.pointer (some ⟨b,0,none⟩)] #[],.func (.func 114) #[.pointer (some ⟨b,0,none⟩)] #[]]) (.int .i64 3)).run Tryz.prog w=.ok (.func (.func 110) #[.pointer (some ⟨b,0,none⟩)] #[]) w)/\(∀w,(Instr.index 165 (.agg #[.func (.func 106) #[.pointer (some ⟨b,0,none⟩)] #[],.func (.func 108) #[.pointer (some ⟨b,0,none⟩)] #[],.func (.func 109) #[.pointer (some ⟨b,0,none⟩)] #[],.func (.func 110) #[.pointer (some ⟨b,0,none⟩)] #[],.func (.func 111) #[.pointer (some ⟨b,0,none⟩)] #[],.func (.func 112) #[.pointer (some ⟨b,0,none⟩)] #[],.func (.func 113) #[.pointer (some ⟨b,0,none⟩)] #[],.func (.func 114) #[.pointer (some ⟨b,0,none⟩)] #[]]) (.int .i64 4)).run Tryz.prog w=.ok (.func (.func 111) #[.pointer (some ⟨b,0,none⟩)] #[]) w)/\(∀w,(Instr.index 165 (.agg #[.func (.func 106) #[.pointer (some ⟨b,0,none⟩)] #[],.func (.func 108) #[.pointer (some ⟨b,0,none⟩)] #[],.func (.func 109) #[.pointer (some ⟨b,0,none⟩)] #[],.func (.func 110) #[.pointer (some ⟨b,0,none⟩)] #[],.func (.func 111) #[.pointer (some ⟨b,0,none⟩)] #[],.func (.func 112) #[.pointer (some ⟨b,0,none⟩)] #[],.func (.func 113) #[.pointer (some ⟨b,0,none⟩)] #[],.func (.func 114) #[.pointer (some ⟨b,0,none⟩)] #[]]) (.int .i64 5)).run Tryz.prog w=.ok (.func (.func 112) #[.pointer (some ⟨b,0,none⟩)] #[]) w)/\(∀w,(Instr.index 165 (.agg #[.func (.func 106) #[.pointer (some ⟨b,0,none⟩)] #[],.func (.func 108) #[.pointer (some ⟨b,0,none⟩)] #[],.func (.func 109) #[.pointer (some ⟨b,0,none⟩)] #[],.func (.func 110) #[.pointer (some ⟨b,0,none⟩)] #[],.func (.func 111) #[.pointer (some ⟨b,0,none⟩)] #[],.func (.func 112) #[.pointer (some ⟨b,0,none⟩)] #[],.func (.func 113) #[.pointer (some ⟨b,0,none⟩)] #[],.func (.func 114) #[.pointer (some ⟨b,0,none⟩)] #[]]) (.int .i64 6)).run Tryz.prog w=.ok (.func (.func 113) #[.pointer (some ⟨b,0,none⟩)] #[]) w)/\(∀w,(Instr.index 165 (.agg #[.func (.func 106) #[.pointer (some ⟨b,0,none⟩)] #[],.func (.func 108) #[.pointer (some ⟨b,0,none⟩)] #[],.func (.func 109) #[.pointer (some ⟨b,0,none⟩)] #[],.func (.func 110) #[.pointer (some ⟨b,0,none⟩)] #[],.func (.func 111) #[.pointer (some ⟨b,0,none⟩)] #[],.func (.func 112) #[.pointer (some ⟨b,0,none⟩)] #[],.func (.func 113) #[.pointer (some ⟨b,0,none⟩)] #[],.func (.func 114) #[.pointer (some ⟨b,0,none⟩)] #[]]) (.int .i64 7)).run Tryz.prog w=.ok (.func (.func 114) #[.pointer (some ⟨b,0,none⟩)] #[]) w):=
 ⟨λ_=>by kernel_rfl,λ_=>by kernel_rfl,λ_=>by kernel_rfl,λ_=>by kernel_rfl,λ_=>by kernel_rfl,λ_=>by kernel_rfl,λ_=>by kernel_rfl,λ_=>by kernel_rfl⟩
theorem c5k(x:Hp)(b:Nat)(w:World)(h:HAt w b x ar kr ac kc ag kg)(hn:¬R1 x):
  Calls Tryz.prog 68 #[.pointer (some ⟨b,0,none⟩)] w λe w'=>∃n:Int,Hid (e=.returned (.int .i64 n))/\eQ x n/\Ext w w':=by
 obtain⟨i0,_⟩:=b5q b;have HH:=uU h;clear h;go_enter Tryz.func68,Tryz.ntmps68;go_wp2_with fail;go_loopw [24] (λi wr=>i=.int .i64 0/\Ext w wr) (λ_ _=>0)
 case atStart=>exact⟨rfl,(Ext.refl w).alloc _⟩
 case round=>
  obtain⟨rfl,hbl⟩:=hrel;go_wp2_with fail;refine(a3z x b _ (HH.ext hbl)).mono ?_;rintro e w2 ⟨r,rfl,hr,hq⟩;have x2:=hbl.trans hq;cases r
  ·have Y:=uU (b5p (x:=x) (k:=0) (by omega) (λj hj=>by omega) hn);clear hr;go_wp2_with fail;go_ret;exact⟨1,rfl,Y,x2⟩
  ·exact(hn (hr.1 rfl)).elim
theorem c2a(x:Hp)(b:Nat)(w:World)(h:VAt w b x ar kr ac kc ag kg an kn)(hF:FAt w b x base vf F)(hcap:a4g w x ac)(r1:R1 x):
  Calls Tryz.prog 68 #[.pointer (some ⟨b,0,none⟩)] w λe w'=>∃n:Int,Hid (e=.returned (.int .i64 n))/\eQ x n/\Ext w w':=by
 obtain⟨i0,i1,i2,i3,i4,i5,i6,i7⟩:=b5q b;have hn8:x.A.length<=8000:=by have:=r1.M;have:=r1.A;omega
 have hg8:x.D.length<=8000:=by have:=r1.D;omega
 have HV:=uU h;have HFF:=uU hF;have HCAP:=uU hcap;clear h hF hcap r1;go_enter Tryz.func68,Tryz.ntmps68;go_wp2_with fail;go_loopw [24] (λi wr=>∃k:Nat,k<=8/\i=.int .i64 k/\Hid (∀j,j<k->Rn x j)/\Ext w wr) (λi _=>8-(intOf i).toNat)
 case atStart=>exact⟨0,by omega,rfl,λj hj=>by omega,(Ext.refl w).alloc _⟩
 case round=>
  obtain⟨k,hk,rfl,HA,hbl⟩:=hrel;have hv:=uU (HV.ext hbl);obtain rfl | rfl | rfl | rfl | rfl | rfl | rfl | rfl | rfl:k=0\/k=1\/k=2\/k=3\/k=4\/k=5\/k=6\/k=7\/k=8:=by omega
  all_goals go_wp2_with fail
  refine(a3z x b _ hv.H).mono ?_;rotate_left;refine(b4n x b _ hv (HFF.ext hbl) hn8).mono ?_;rotate_left;refine(b6n x b _ hv hn8 (c9o (HA 1 (by omega)))).mono ?_;rotate_left;refine(b4g x b _ hv).mono ?_;rotate_left;refine(b3k x b _ hv hg8 hn8).mono ?_;rotate_left;refine(b0i x b _ hv (HA 0 (by omega)) (HA 1 (by omega)) (HA 4 (by omega))).mono ?_;rotate_left;refine(b4o x b _ hv (a4g.ext HCAP HV.H hbl) (HA 0 (by omega)) (HA 1 (by omega)) (HA 3 (by omega)) (HA 4 (by omega)) (HA 5 (by omega))).mono ?_;rotate_left;refine(b1o x b _ hv).mono ?_;rotate_left
  ·have Y:=uU (okis_ok (x:=x) HA);go_ret;exact⟨0,rfl,Y,hbl⟩
  all_goals
   rintro e w2 ⟨r,rfl,hr,hq⟩;have x2:=hbl.trans hq;cases r
   ·have Y:=uU (b5p (x:=x) (by omega) HA (λq=>by have:=hr.2 q;simp at this));clear hr;go_wp2_with fail;go_ret;exact⟨_,rfl,Y,x2⟩
   ·have S:=uU (rn_step HA (hr.1 rfl));clear hr;go_wp2_with fail;go_roundw
    case rel=>exact⟨_,by omega,by go_num,S,x2⟩
    case measure=>simp [intOf]
theorem a4g.extS(h:a4g w x ac)(hC:SlC w (.slice ac x.A.length kc) x.A)(e:Ext w w'):a4g w' x ac:=λi hi bc oc ad l c ha hc=>by
 obtain⟨b2,o2,e2,_,vp,_,_,_,_,_,_,_,p7,hp⟩:=SlC.nth hC i hi;rw[ha] at e2;cases e2;have:=e.keep p7;rw[this] at hc;cases hc;exact h i hi _ _ _ _ _ ha p7
end Go.Proofs.YtddkhnclmeikfaaGreat
