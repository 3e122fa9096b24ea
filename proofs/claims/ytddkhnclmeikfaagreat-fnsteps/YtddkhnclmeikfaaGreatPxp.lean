import Derived.Test.YtddkhnclmeikfaaGreatImpP
import Derived.Laws.EntriesVeiled
import Derived.Laws.Pointers
set_option maxRecDepth 100000
set_option maxHeartbeats 8000000
namespace Go.Proofs.YtddkhnclmeikfaaGreat
open Go.RowKit
attribute [local go_sem ↓] Go.wp_at_zero Go.wp_at_succ
variable{ar ac ag an:Option Addr}{kr kn kc kg B b br bn hd:Nat}{x:Hp}{vf v4 v8 vk:Value}{F:List Int}{w w':World}{cB cO pb pk role:Nat->Nat}{pa:Nat->Option Addr}{K:List Nat}{P:Program}
theorem a6o(x:Hp)(b n cap:Nat)(ap:Option Addr)(f:Nat->Pr)(s:Bool)(hs:s=true↔∃k,k<n/\(hwB x (f k).key=true\/hwB x (f k).val=true))(w:World)(h:VAt w b x ar kr ac kc ag kg an kn)
  (lp:n<=35184372088832) (P:∀k,k<n->∃b' o',ap=some ⟨b',o',none⟩/\tL w b' (o'+k*6) (f k)) (hF:∀k,k<n->uK (f k).key x.cells.length/\uK (f k).val x.cells.length) :
  Calls Tryz.prog 185 #[.pointer (some ⟨b,0,none⟩),.slice ap n cap] w λe w'=>e=.returned (.bool s)/\Ext w w':=
 (a3f x b n cap ap f w h lp P hF).mono λe w' ⟨r,he,hr,hx⟩=>by
  have:r=s:=by rw[Bool.eq_iff_iff];exact hr.trans hs.symm
  rw[<-this];exact⟨he,hx⟩
theorem b3q(x:Hp)(b:Nat)(w:World)(h:VAt w b x ar kr ac kc ag kg an kn)(hcap:a4d w x ac)(r1:R1 x)(r2:R2 x)(r4:R4 x)(r5:R5 x)(r6:R6 x):
  Calls Tryz.prog 113 #[.pointer (some ⟨b,0,none⟩)] w λe w'=>∃r:Bool,Hid (e=.returned (.bool r))/\(r=true↔R7 x)/\Ext w w':=by
 have c5:=h.H.c5;have n13:=h.n13;have HV:=uU h;have HCAP:=uU hcap;have lc:=h.H.lc;have hsub0:0<=x.sub:=r1.sub.1;have Q2:=uU r2;have Q4:=uU r4;have Q5:=uU r5;have Q6:=uU r6;clear h hcap r1 r2 r4 r5 r6;cases tm:a1q x
 ·have Y:=uU (show R7 x from λm=>by rw[<-a2d,tm] at m;simp at m);go_enter Tryz.func113,Tryz.ntmps113;go_wp2_with fail;refine(a7z x b false tm _ c5).mono ?_;rintro e w1 ⟨rfl,rfl⟩;go_wp2_with fail;go_ret;exact⟨true,rfl,⟨λ_=>uH Y,λ_=>rfl⟩,Ext.refl _⟩
 have MM:=uU (a2d.1 tm);have IFF:=uU (R7_iff Q2 Q4 Q5 Q6 MM);go_enter Tryz.func113,Tryz.ntmps113;go_wp2_with fail;refine(a7z x b true tm _ c5).mono ?_;rintro e w1 ⟨rfl,rfl⟩;go_wp2_with fail;go_loopw [13] (λi wr=>∃(k:Nat),k<=x.cells.length/\i=.int .i64 k/\Hid (∀i,i<k->¬(a1n (x.c i)=true/\zC (x.c i)=true/\(x.phase=2\/(i:Int)<x.hand))/\((x.c i).color=2->¬∃k,k<(x.c i).prs.length/\(hwB x ((x.c i).p k).key=true\/hwB x ((x.c i).p k).val=true)))/\Ext w1 wr) (λi _=>x.cells.length-(intOf i).toNat)
 case atStart=>exact⟨0,Nat.zero_le _,rfl,λj hj=>by omega,Ext.refl _⟩
 case round=>
  clear n13 c5;obtain⟨k,hk,rfl,HA,hbl⟩:=hrel;by_cases hlt:k<x.cells.length
  ·have hv:=HV.ext hbl;obtain⟨bn,on,bc,oc,rfl,rfl,m0,m1⟩:=hv.N k hlt;obtain⟨bc2,oc2,ap,kp,e2,C⟩:=hv.H.cell k hlt;cases e2;have d13:=hv.n13;have HV1:=uU hv;have HC:=uU C;have HPP:=uU C.P;have p5:=C.p5;have p7:=C.p7;have lp:=C.lp;have hk0:(0:Int)<=(k:Int):=by omega
   have hk1:(k:Int)<(x.cells.length:Int):=by omega
   clear hv C;have FF:=uU (λl (hl:l<(x.c k).prs.length)=>(a8a Q4 MM k l hlt hl).1)
   have ST:=uU (show ¬(a1n (x.c k)=true/\zC (x.c k)=true/\(x.phase=2\/(k:Int)<x.hand))->((x.c k).color=2->¬∃l,l<(x.c k).prs.length/\(hwB x ((x.c k).p l).key=true\/hwB x ((x.c k).p l).val=true))->∀i,i<k+1->¬(a1n (x.c i)=true/\zC (x.c i)=true/\(x.phase=2\/(i:Int)<x.hand))/\((x.c i).color=2->¬∃k,k<(x.c i).prs.length/\(hwB x ((x.c i).p k).key=true\/hwB x ((x.c i).p k).val=true)) from λh1 h2 j hj=>by
    by_cases e:j=k
    ·rw[e];exact⟨h1,h2⟩
    ·exact HA j (by omega))
   cases ts:a1n (x.c k)
   ·have H1:=uU (show ¬(a1n (x.c k)=true/\zC (x.c k)=true/\(x.phase=2\/(k:Int)<x.hand)) from λq=>by rw[ts] at q;simp at q);go_wp2_with fail;refine(a3u (x.c k) bn (on+k*2) _ _ ap kp _ m1 HC).mono ?_;rintro e w2 ⟨rfl,rfl⟩;rw[ts];cases tc:((x.c k).color == 2)
    ·have OK:=uU (ST H1 (λe=>by rw[e] at tc;simp at tc));go_wp2_with fail;go_roundw
     case rel=>exact⟨k+1,by omega,by go_num,OK,hbl⟩
     case measure=>simp [intOf];omega
    ·go_wp2_with fail;refine(a3f x b (x.c k).prs.length kp ap (x.c k).p _ (HV.ext hbl) lp HPP FF).mono ?_;rintro e w6 ⟨r,rfl,hr,hq6⟩;have x6:=Ext.trans hbl hq6;cases r
     ·have OK:=uU (ST H1 (λ_ q=>by have:=hr.2 q;simp at this));clear hr;go_wp2_with fail;go_roundw
      case rel=>exact⟨k+1,by omega,by go_num,OK,x6⟩
      case measure=>simp [intOf];omega
     ·have N:=uU (show ¬R7 x from λr7=>((IFF.1 r7).1 k hlt).2 (by simpa using tc) (hr.1 rfl));clear hr;go_wp2_with fail;go_ret;exact⟨false,rfl,⟨λf=>by simp at f,λr=>(N r).elim⟩,x6⟩
   ·cases tw:zC (x.c k)
    ·have H1:=uU (show ¬(a1n (x.c k)=true/\zC (x.c k)=true/\(x.phase=2\/(k:Int)<x.hand)) from λq=>by rw[tw] at q;simp at q);go_wp2_with fail;refine(a3u (x.c k) bn (on+k*2) _ _ ap kp _ m1 HC).mono ?_;rintro e w2 ⟨rfl,rfl⟩;rw[ts];go_wp2_with fail;refine(a4r (x.c k) bn (on+k*2) _ _ ap kp _ m1 HC).mono ?_;rintro e w3 ⟨rfl,rfl⟩;rw[tw];cases tc:((x.c k).color == 2)
     ·have OK:=uU (ST H1 (λe=>by rw[e] at tc;simp at tc));go_wp2_with fail;go_roundw
      case rel=>exact⟨k+1,by omega,by go_num,OK,hbl⟩
      case measure=>simp [intOf];omega
     ·go_wp2_with fail;refine(a3f x b (x.c k).prs.length kp ap (x.c k).p _ (HV.ext hbl) lp HPP FF).mono ?_;rintro e w6 ⟨r,rfl,hr,hq6⟩;have x6:=Ext.trans hbl hq6;cases r
      ·have OK:=uU (ST H1 (λ_ q=>by have:=hr.2 q;simp at this));clear hr;go_wp2_with fail;go_roundw
       case rel=>exact⟨k+1,by omega,by go_num,OK,x6⟩
       case measure=>simp [intOf];omega
      ·have N:=uU (show ¬R7 x from λr7=>((IFF.1 r7).1 k hlt).2 (by simpa using tc) (hr.1 rfl));clear hr;go_wp2_with fail;go_ret;exact⟨false,rfl,⟨λf=>by simp at f,λr=>(N r).elim⟩,x6⟩
    ·cases tr:((x.phase == 2) || decide ((k:Int)<x.hand))
     ·have H1:=uU (show ¬(a1n (x.c k)=true/\zC (x.c k)=true/\(x.phase=2\/(k:Int)<x.hand)) from λq=>by
       have:=q.2.2;simp at tr;omega)
      go_wp2_with fail;refine(a3u (x.c k) bn (on+k*2) _ _ ap kp _ m1 HC).mono ?_;rintro e w2 ⟨rfl,rfl⟩;rw[ts];go_wp2_with fail;refine(a4r (x.c k) bn (on+k*2) _ _ ap kp _ m1 HC).mono ?_;rintro e w3 ⟨rfl,rfl⟩;rw[tw];go_wp2_with fail;refine(a8y x b bn (on+k*2) k _ HV1.H.c5 HV1.H.c6 m0).mono ?_;rintro e w4 ⟨rfl,hq4⟩;rw[tr];have x4:=hbl.trans hq4;have PP4:=uU ((HC.ext hq4).P);have m1':=hq4.keep m1;have p5':=hq4.keep p5;have p7':=hq4.keep p7;clear m1 p5 p7;cases tc:((x.c k).color == 2)
      ·have OK:=uU (ST H1 (λe=>by rw[e] at tc;simp at tc));go_wp2_with fail;go_roundw
       case rel=>exact⟨k+1,by omega,by go_num,OK,x4⟩
       case measure=>simp [intOf];omega
      ·go_wp2_with fail;refine(a3f x b (x.c k).prs.length kp ap (x.c k).p _ (HV.ext x4) lp PP4 FF).mono ?_;rintro e w6 ⟨r,rfl,hr,hq6⟩;have x6:=Ext.trans x4 hq6;cases r
       ·have OK:=uU (ST H1 (λ_ q=>by have:=hr.2 q;simp at this));clear hr;go_wp2_with fail;go_roundw
        case rel=>exact⟨k+1,by omega,by go_num,OK,x6⟩
        case measure=>simp [intOf];omega
       ·have N:=uU (show ¬R7 x from λr7=>((IFF.1 r7).1 k hlt).2 (by simpa using tc) (hr.1 rfl));clear hr;go_wp2_with fail;go_ret;exact⟨false,rfl,⟨λf=>by simp at f,λr=>(N r).elim⟩,x6⟩
     ·have N:=uU (show ¬R7 x from λr7=>((IFF.1 r7).1 k hlt).1 ⟨ts,tw,by simpa using tr⟩);go_wp2_with fail;refine(a3u (x.c k) bn (on+k*2) _ _ ap kp _ m1 HC).mono ?_;rintro e w2 ⟨rfl,rfl⟩;rw[ts];go_wp2_with fail;refine(a4r (x.c k) bn (on+k*2) _ _ ap kp _ m1 HC).mono ?_;rintro e w3 ⟨rfl,rfl⟩;rw[tw];go_wp2_with fail;refine(a8y x b bn (on+k*2) k _ HV1.H.c5 HV1.H.c6 m0).mono ?_;rintro e w4 ⟨rfl,hq4⟩;rw[tr];have x4:=hbl.trans hq4;go_wp2_with fail;go_ret;exact⟨false,rfl,⟨λf=>by simp at f,λr=>(N r).elim⟩,x4⟩
  ·have A1:=uU (show R7b x from λi hi=>uH HA i (by omega));have hv:=HV.ext hbl;have d7:=hv.H.c7;have HV1:=uU hv;obtain⟨s,hs⟩:∃s:Nat,x.sub=(s:Int):=⟨x.sub.toNat,by omega⟩;rw[hs] at d7;have HS:=uU hs;have F0:∀w',Up wr w'->w'.cell? ⟨b,7,none⟩=some (iv (s:Int)):=λw' e=>e.ext.keep d7
   clear hv hs hsub0;by_cases hg:x.gray.length=0
   ·have d8:=HV1.H.c8;rw[hg] at d8
    have hs0:s=0:=by
     have h6:=uH Q6;have hm:=uH MM;have:=uH HS;unfold uE at hm;rcases hm with hm | hm
     ·have:=h6.2.2.2 (.inl hm);omega
     ·have:=(h6.2.1 hm).2.1 hg;omega
    subst hs0;have Y:=uU (show R7 x from IFF.2 ⟨A1,λ_ g=>(g hg).elim⟩);have HG:=uU (λw' (e:Up wr w')=>a4z ((a6c b w' (e.ext.keep d8)).mono λ_ _ ⟨he,hw⟩=>⟨he,hw ▸ Ext.refl w'⟩) e);have HW:=uU (λw' (e:Up wr w')=>a4z (a6o x b 0 0 none (λ_=>Pr0) false (by simp) w' (HV1.ext e.ext) (by omega) (λk hk=>by omega) (λk hk=>by omega)) e);go_wp2_with fail;refine wp_region_quiet (C:=Up wr) (by kernel_rfl) (by kernel_rfl) (show Ext _ _ from(Ext.refl _).drew) ?_
    go_simp
    iterate 12 (first | go_big_quiet_skip | (go_big_quiet_want;go_big_quiet_op;first | go_big_quiet_on | (apply Exists.intro;refine⟨λw' hw'=>?_,?_⟩;(first | (go_at_call 182;exact(uH HG w' hw')) | (go_at_call 185;exact(uH HW w' hw')) | (with_reducible rfl) | (go_simp;first | done | (with_reducible rfl) | (refine⟨?_,?_⟩ <;> with_reducible rfl)));go_big_quiet_on)))
    refine wpQuiet_nil ?_;intro w3 hq3;have x3:=hbl.trans hq3.ext;clear F0 HG HW;go_wp2_with fail;go_ret;exact⟨true,rfl,⟨λ_=>uH Y,λ_=>rfl⟩,x3⟩
   ·obtain⟨g1,g2,g3⟩:=g0_ok Q5 hg;obtain⟨bc,oc,ap,kp,e2,C⟩:=HV1.H.cell x.g0 g1;have hg0:0<x.gray.length:=by omega
    have hgi:x.gray[0]=(x.g0:Int):=by rw[<-g2];simp [hg0]
    have hsn:s<=(x.c x.g0).prs.length:=by
     have h6:=uH Q6;have hm:=uH MM;have:=uH HS;unfold uE at hm;rcases hm with hm | hm
     ·have:=h6.2.2.2 (.inl hm);omega
     ·have:=(h6.2.1 hm).2.2 hg;omega
    have hsk:s<=kp:=by
     have hc:=(a4d.ext HCAP HV.H hbl) x.g0 g1 bc oc ap (x.c x.g0).prs.length kp e2 C.p7;omega
    have i0:(0:Int)<=(s:Int):=by omega
    have i1:(s:Int)<=(kp:Int):=by omega
    have hlp:s<=35184372088832:=by have:=C.lp;omega
    have HG:=uU (λw' (e:Up wr w')=>a4z ((a6d x b x.g0 w' (HV1.ext e.ext) hg0 hgi g1 bc oc ap kp e2 (C.ext e.ext)).mono λ_ _ ⟨he,m,hw⟩=>⟨he,hw ▸ (Ext.refl w').drewN m⟩) e);have FF:=uU (λl (hl:l<s)=>(a8a Q4 MM x.g0 l g1 (by omega)).1);have CC:=uU C
    have PH2:=uU (show x.phase=2\/s=0 by
     have h6:=uH Q6;have hm:=uH MM;have:=uH HS;unfold uE at hm;rcases hm with hm | hm
     ·have:=h6.2.2.2 (.inl hm);omega
     ·exact .inl hm)
    have R7C:=uU (show R7c x↔¬∃k,k<s/\(hwB x ((x.c x.g0).p k).key=true\/hwB x ((x.c x.g0).p k).val=true) by
     have e1:x.sub.toNat=s:=by have:=uH HS;omega
     constructor
     ·rintro h ⟨k,hk,hw⟩;rcases uH PH2 with p | p
      ·exact h p hg k (by rw[e1];exact hk) hw
      ·omega
     ·intro h _ _ k hk hw;exact h ⟨k,by rw[e1] at hk;exact hk,hw⟩)
    clear C;by_cases hex:∃k,k<s/\(hwB x ((x.c x.g0).p k).key=true\/hwB x ((x.c x.g0).p k).val=true)
    ·have N:=uU (show ¬R7 x from λr7=>R7C.1 (IFF.1 r7).2 hex);have HW:=uU (λw' (e:Up wr w')=>a4z (a6o x b s kp ap (x.c x.g0).p true ⟨λ_=>hex,λ_=>rfl⟩ w' (HV1.ext e.ext) hlp (λk hk=>(CC.ext e.ext).P k (by omega)) FF) e);clear hex;go_wp2_with fail;refine wp_region_quiet (C:=Up wr) (by kernel_rfl) (by kernel_rfl) (show Ext _ _ from(Ext.refl _).drew) ?_
     go_simp
     iterate 12 (first | go_big_quiet_skip | (go_big_quiet_want;go_big_quiet_op;first | go_big_quiet_on | (apply Exists.intro;refine⟨λw' hw'=>?_,?_⟩;(first | (go_at_call 182;exact(uH HG w' hw')) | (go_at_call 185;exact(uH HW w' hw')) | (with_reducible rfl) | (go_simp;first | done | (with_reducible rfl) | (refine⟨?_,?_⟩ <;> with_reducible rfl)));go_big_quiet_on)))
     refine wpQuiet_nil ?_;intro w3 hq3;have x3:=hbl.trans hq3.ext;clear F0 HG HW;go_wp2_with fail;go_ret;exact⟨false,rfl,⟨λf=>by simp at f,λr=>(N r).elim⟩,x3⟩
    ·have Y:=uU (show R7 x from IFF.2 ⟨A1,R7C.2 hex⟩);have HW:=uU (λw' (e:Up wr w')=>a4z (a6o x b s kp ap (x.c x.g0).p false ⟨λf=>by simp at f,λq=>(hex q).elim⟩ w' (HV1.ext e.ext) hlp (λk hk=>(CC.ext e.ext).P k (by omega)) FF) e);clear hex;go_wp2_with fail;refine wp_region_quiet (C:=Up wr) (by kernel_rfl) (by kernel_rfl) (show Ext _ _ from(Ext.refl _).drew) ?_
     go_simp
     iterate 12 (first | go_big_quiet_skip | (go_big_quiet_want;go_big_quiet_op;first | go_big_quiet_on | (apply Exists.intro;refine⟨λw' hw'=>?_,?_⟩;(first | (go_at_call 182;exact(uH HG w' hw')) | (go_at_call 185;exact(uH HW w' hw')) | (with_reducible rfl) | (go_simp;first | done | (with_reducible rfl) | (refine⟨?_,?_⟩ <;> with_reducible rfl)));go_big_quiet_on)))
     refine wpQuiet_nil ?_;intro w3 hq3;have x3:=hbl.trans hq3.ext;clear F0 HG HW;go_wp2_with fail;go_ret;exact⟨true,rfl,⟨λ_=>uH Y,λ_=>rfl⟩,x3⟩
def Rn(x:Hp):Nat->Prop
 | 0=>R1 x
 | 1=>R2 x
 | 2=>R3 x
 | 3=>R4 x
 | 4=>R5 x
 | 5=>R6 x
 | 6=>R7 x
 | _=>R8 x
theorem a1p{x:Hp}{k:Nat}(hk:k<8)(h:∀j,j<k->Rn x j)(hn:¬Rn x k):eJ x ((k:Int)+1):=by
 unfold eJ;have h0:=h 0;have h1:=h 1;have h2:=h 2;have h3:=h 3;have h4:=h 4;have h5:=h 5;have h6:=h 6;simp only [Rn] at h0 h1 h2 h3 h4 h5 h6
 match k,hk with
 | 0,_=>exact .inl ⟨hn,rfl⟩
 | 1,_=>exact .inr (.inl ⟨h0 (by omega),hn,rfl⟩)
 | 2,_=>exact .inr (.inr (.inl ⟨h0 (by omega),h1 (by omega),hn,rfl⟩))
 | 3,_=>exact .inr (.inr (.inr (.inl ⟨h0 (by omega),h1 (by omega),h2 (by omega),hn,rfl⟩)))
 | 4,_=>exact .inr (.inr (.inr (.inr (.inl ⟨h0 (by omega),h1 (by omega),h2 (by omega),h3 (by omega),hn,rfl⟩))))
 | 5,_=>exact .inr (.inr (.inr (.inr (.inr (.inl ⟨h0 (by omega),h1 (by omega),h2 (by omega),h3 (by omega),h4 (by omega),hn,rfl⟩)))))
 | 6,_=>exact .inr (.inr (.inr (.inr (.inr (.inr (.inl ⟨h0 (by omega),h1 (by omega),h2 (by omega),h3 (by omega),h4 (by omega),h5 (by omega),hn,rfl⟩))))))
 | 7,_=>exact .inr (.inr (.inr (.inr (.inr (.inr (.inr (.inl ⟨h0 (by omega),h1 (by omega),h2 (by omega),h3 (by omega),h4 (by omega),h5 (by omega),h6 (by omega),hn,rfl⟩)))))))
theorem okis_ok(h:∀j,j<8->Rn x j):eJ x 0:=by
 unfold eJ;exact .inr (.inr (.inr (.inr (.inr (.inr (.inr (.inr ⟨h 0 (by omega),h 1 (by omega),h 2 (by omega),h 3 (by omega),h 4 (by omega),h 5 (by omega),h 6 (by omega),h 7 (by omega),rfl⟩)))))))
theorem a4g{k:Nat}(h:∀j,j<k->Rn x j)(hn:Rn x k):∀j,j<k+1->Rn x j:=λj hj=>by
 by_cases e:j=k
 ·rw[e];exact hn
 ·exact h j (by omega)
theorem c7e(r2:R2 x)(i:Nat)(hi:i<x.cells.length):(x.c i).prs.length<=200:=by
 rcases r2.1 i hi with c | c | c
 ·have:=c.2.1.2.2.2.2.2;omega
 ·have:=c.2.1.2.2.2.2.2;omega
 ·exact c.2.2.2.2.2.2.2
theorem b4i(b:Nat):(∀w,(Instr.index 165 (.agg #[.func (.func 106) #[.pointer (some ⟨b,0,none⟩)] #[],.func (.func 108) #[.pointer (some ⟨b,0,none⟩)] #[],.func (.func 109) #[.pointer (some ⟨b,0,none⟩)] #[],.func (.func 110) #[.pointer (some ⟨b,0,none⟩)] #[],.func (.func 111) #[.pointer (some ⟨b,0,none⟩)] #[],.func (.func 112) #[.pointer (some ⟨b,0,none⟩)] #[],.func (.func 113) #[.pointer (some ⟨b,0,none⟩)] #[],.func (.func 114) #[.pointer (some ⟨b,0,none⟩)] #[]]) (.int .i64 0)).run Tryz.prog w=.ok (.func (.func 106) #[.pointer (some ⟨b,0,none⟩)] #[]) w)/\(∀w,(Instr.index 165 (.agg #[.func (.func 106) #[.pointer (some ⟨b,0,none⟩)] #[],.func (.func 108) #[.pointer (some ⟨b,0,none⟩)] #[],.func (.func 109) #[.pointer (some ⟨b,0,none⟩)] #[],.func (.func 110) #[.pointer (some ⟨b,0,none⟩)] #[],.func (.func 111) #[.pointer (some ⟨b,0,none⟩)] #[],.func (.func 112) #[.pointer (some ⟨b,0,none⟩)] #[],.func (.func 113) #[.pointer (some ⟨b,0,none⟩)] #[],.func (.func 114) #[.pointer (some ⟨b,0,none⟩)] #[]]) (.int .i64 1)).run Tryz.prog w=.ok (.func (.func 108) #[.pointer (some ⟨b,0,none⟩)] #[]) w)/\(∀w,(Instr.index 165 (.agg #[.func (.func 106) #[.pointer (some ⟨b,0,none⟩)] #[],.func (.func 108) #[.pointer (some ⟨b,0,none⟩)] #[],.func (.func 109) #[.pointer (some ⟨b,0,none⟩)] #[],.func (.func 110) #[.pointer (some ⟨b,0,none⟩)] #[],.func (.func 111) #[.pointer (some ⟨b,0,none⟩)] #[],.func (.func 112) #[.pointer (some ⟨b,0,none⟩)] #[],.func (.func 113) #[.pointer (some ⟨b,0,none⟩)] #[],.func (.func 114) #[.pointer (some ⟨b,0,none⟩)] #[]]) (.int .i64 2)).run Tryz.prog w=.ok (.func (.func 109) #[.pointer (some ⟨b,0,none⟩)] #[]) w)/\(∀w,(Instr.index 165 (.agg #[.func (.func 106) #[.pointer (some ⟨b,0,none⟩)] #[],.func (.func 108) #[.pointer (some ⟨b,0,none⟩)] #[],.func (.func 109) #[.pointer (some ⟨b,0,none⟩)] #[],.func (.func 110) #[.pointer (some ⟨b,0,none⟩)] #[],.func (.func 111) #[.pointer (some ⟨b,0,none⟩)] #[],.func (.func 112) #[.pointer (some ⟨b,0,none⟩)] #[],.func (.func 113) #[.pointer (some ⟨b,0,none⟩)] #[],.func (.func 114) #[.pointer (some ⟨b,0,none⟩)] #[]]) (.int .i64 3)).run Tryz.prog w=.ok (.func (.func 110) #[.pointer (some ⟨b,0,none⟩)] #[]) w)/\(∀w,(Instr.index 165 (.agg #[.func (.func 106) #[.pointer (some ⟨b,0,none⟩)] #[],.func (.func 108) #[.pointer (some ⟨b,0,none⟩)] #[],.func (.func 109) #[.pointer (some ⟨b,0,none⟩)] #[],.func (.func 110) #[.pointer (some ⟨b,0,none⟩)] #[],.func (.func 111) #[.pointer (some ⟨b,0,none⟩)] #[],.func (.func 112) #[.pointer (some ⟨b,0,none⟩)] #[],.func (.func 113) #[.pointer (some ⟨b,0,none⟩)] #[],.func (.func 114) #[.pointer (some ⟨b,0,none⟩)] #[]]) (.int .i64 4)).run Tryz.prog w=.ok (.func (.func 111) #[.pointer (some ⟨b,0,none⟩)] #[]) w)/\(∀w,(Instr.index 165 (.agg #[.func (.func 106) #[.pointer (some ⟨b,0,none⟩)] #[],.func (.func 108) #[.pointer (some ⟨b,0,none⟩)] #[],.func (.func 109) #[.pointer (some ⟨b,0,none⟩)] #[],.func (.func 110) #[.pointer (some ⟨b,0,none⟩)] #[],.func (.func 111) #[.pointer (some ⟨b,0,none⟩)] #[],.func (.func 112) #[.pointer (some ⟨b,0,none⟩)] #[],.func (.func 113) #[.pointer (some ⟨b,0,none⟩)] #[],.func (.func 114) #[.pointer (some ⟨b,0,none⟩)] #[]]) (.int .i64 5)).run Tryz.prog w=.ok (.func (.func 112) #[.pointer (some ⟨b,0,none⟩)] #[]) w)/\(∀w,(Instr.index 165 (.agg #[.func (.func 106) #[.pointer (some ⟨b,0,none⟩)] #[],.func (.func 108) #[.pointer (some ⟨b,0,none⟩)] #[],.func (.func 109) #[.pointer (some ⟨b,0,none⟩)] #[],.func (.func 110) #[.pointer (some ⟨b,0,none⟩)] #[],.func (.func 111) #[.pointer (some ⟨b,0,none⟩)] #[],.func (.func 112) #[.pointer (some ⟨b,0,none⟩)] #[],.func (.func 113) #[.pointer (some ⟨b,0,none⟩)] #[],.func (.func 114) #[.pointer (some ⟨b,0,none⟩)] #[]]) (.int .i64 6)).run Tryz.prog w=.ok (.func (.func 113) #[.pointer (some ⟨b,0,none⟩)] #[]) w)/\(∀w,(Instr.index 165 (.agg #[.func (.func 106) #[.pointer (some ⟨b,0,none⟩)] #[],.func (.func 108) #[.pointer (some ⟨b,0,none⟩)] #[],.func (.func 109) #[.pointer (some ⟨b,0,none⟩)] #[],.func (.func 110) #[.pointer (some ⟨b,0,none⟩)] #[],.func (.func 111) #[.pointer (some ⟨b,0,none⟩)] #[],.func (.func 112) #[.pointer (some ⟨b,0,none⟩)] #[],.func (.func 113) #[.pointer (some ⟨b,0,none⟩)] #[],.func (.func 114) #[.pointer (some ⟨b,0,none⟩)] #[]]) (.int .i64 7)).run Tryz.prog w=.ok (.func (.func 114) #[.pointer (some ⟨b,0,none⟩)] #[]) w):=
 ⟨λ_=>by kernel_rfl,λ_=>by kernel_rfl,λ_=>by kernel_rfl,λ_=>by kernel_rfl,λ_=>by kernel_rfl,λ_=>by kernel_rfl,λ_=>by kernel_rfl,λ_=>by kernel_rfl⟩
theorem c3r(x:Hp)(b:Nat)(w:World)(h:HAt w b x ar kr ac kc ag kg)(hn:¬R1 x):
  Calls Tryz.prog 68 #[.pointer (some ⟨b,0,none⟩)] w λe w'=>∃n:Int,Hid (e=.returned (.int .i64 n))/\eJ x n/\Ext w w':=by
 obtain⟨i0,_⟩:=b4i b;have HH:=uU h;clear h;go_enter Tryz.func68,Tryz.ntmps68;go_wp2_with fail;go_loopw [24] (λi wr=>i=.int .i64 0/\Ext w wr) (λ_ _=>0)
 case atStart=>exact⟨rfl,(Ext.refl w).alloc _⟩
 case round=>
  obtain⟨rfl,hbl⟩:=hrel;go_wp2_with fail;refine(a3w x b _ (HH.ext hbl)).mono ?_;rintro e w2 ⟨r,rfl,hr,hq⟩;have x2:=hbl.trans hq;cases r
  ·have Y:=uU (a1p (x:=x) (k:=0) (by omega) (λj hj=>by omega) hn);clear hr;go_wp2_with fail;go_ret;exact⟨1,rfl,Y,x2⟩
  ·exact(hn (hr.1 rfl)).elim
theorem c0d(x:Hp)(b:Nat)(w:World){base:Nat}(h:VAt w b x ar kr ac kc ag kg an kn)(hF:FAt w b x base vf F)(hcap:a4d w x ac)(r1:R1 x):
  Calls Tryz.prog 68 #[.pointer (some ⟨b,0,none⟩)] w λe w'=>∃n:Int,Hid (e=.returned (.int .i64 n))/\eJ x n/\Ext w w':=by
 obtain⟨i0,i1,i2,i3,i4,i5,i6,i7⟩:=b4i b;have hn8:x.cells.length<=8000:=by have:=r1.room;have:=r1.cells;omega
 have hg8:x.gray.length<=8000:=by have:=r1.gray;omega
 have HV:=uU h;have HFF:=uU hF;have HCAP:=uU hcap;clear h hF hcap r1;go_enter Tryz.func68,Tryz.ntmps68;go_wp2_with fail;go_loopw [24] (λi wr=>∃k:Nat,k<=8/\i=.int .i64 k/\Hid (∀j,j<k->Rn x j)/\Ext w wr) (λi _=>8-(intOf i).toNat)
 case atStart=>exact⟨0,by omega,rfl,λj hj=>by omega,(Ext.refl w).alloc _⟩
 case round=>
  obtain⟨k,hk,rfl,HA,hbl⟩:=hrel;have hv:=uU (HV.ext hbl);obtain rfl | rfl | rfl | rfl | rfl | rfl | rfl | rfl | rfl:k=0\/k=1\/k=2\/k=3\/k=4\/k=5\/k=6\/k=7\/k=8:=by omega
  ·go_wp2_with fail;refine(a3w x b _ hv.H).mono ?_;rintro e w2 ⟨r,rfl,hr,hq⟩;have x2:=hbl.trans hq;cases r
   ·have Y:=uU (a1p (x:=x) (k:=0) (by omega) HA (λq=>by have:=hr.2 q;simp at this));clear hr;go_wp2_with fail;go_ret;exact⟨1,rfl,Y,x2⟩
   ·have S:=uU (a4g HA (show Rn x 0 from hr.1 rfl));clear hr;go_wp2_with fail;go_roundw
    case rel=>exact⟨1,by omega,by go_num,S,x2⟩
    case measure=>simp [intOf]
  ·go_wp2_with fail;refine(b3p x b _ hv (HFF.ext hbl) hn8).mono ?_;rintro e w2 ⟨r,rfl,hr,hq⟩;have x2:=hbl.trans hq;cases r
   ·have Y:=uU (a1p (x:=x) (k:=1) (by omega) HA (λq=>by have:=hr.2 q;simp at this));clear hr;go_wp2_with fail;go_ret;exact⟨2,rfl,Y,x2⟩
   ·have S:=uU (a4g HA (show Rn x 1 from hr.1 rfl));clear hr;go_wp2_with fail;go_roundw
    case rel=>exact⟨2,by omega,by go_num,S,x2⟩
    case measure=>simp [intOf]
  ·go_wp2_with fail;refine(b5g x b _ hv hn8 (c7e (HA 1 (by omega)))).mono ?_;rintro e w2 ⟨r,rfl,hr,hq⟩;have x2:=hbl.trans hq;cases r
   ·have Y:=uU (a1p (x:=x) (k:=2) (by omega) HA (λq=>by have:=hr.2 q;simp at this));clear hr;go_wp2_with fail;go_ret;exact⟨3,rfl,Y,x2⟩
   ·have S:=uU (a4g HA (show Rn x 2 from hr.1 rfl));clear hr;go_wp2_with fail;go_roundw
    case rel=>exact⟨3,by omega,by go_num,S,x2⟩
    case measure=>simp [intOf]
  ·go_wp2_with fail;refine(b3h x b _ hv).mono ?_;rintro e w2 ⟨r,rfl,hr,hq⟩;have x2:=hbl.trans hq;cases r
   ·have Y:=uU (a1p (x:=x) (k:=3) (by omega) HA (λq=>by have:=hr.2 q;simp at this));clear hr;go_wp2_with fail;go_ret;exact⟨4,rfl,Y,x2⟩
   ·have S:=uU (a4g HA (show Rn x 3 from hr.1 rfl));clear hr;go_wp2_with fail;go_roundw
    case rel=>exact⟨4,by omega,by go_num,S,x2⟩
    case measure=>simp [intOf]
  ·go_wp2_with fail;refine(b2n x b _ hv hg8 hn8).mono ?_;rintro e w2 ⟨r,rfl,hr,hq⟩;have x2:=hbl.trans hq;cases r
   ·have Y:=uU (a1p (x:=x) (k:=4) (by omega) HA (λq=>by have:=hr.2 q;simp at this));clear hr;go_wp2_with fail;go_ret;exact⟨5,rfl,Y,x2⟩
   ·have S:=uU (a4g HA (show Rn x 4 from hr.1 rfl));clear hr;go_wp2_with fail;go_roundw
    case rel=>exact⟨5,by omega,by go_num,S,x2⟩
    case measure=>simp [intOf]
  ·go_wp2_with fail;refine(a9w x b _ hv (HA 0 (by omega)) (HA 1 (by omega)) (HA 4 (by omega))).mono ?_;rintro e w2 ⟨r,rfl,hr,hq⟩;have x2:=hbl.trans hq;cases r
   ·have Y:=uU (a1p (x:=x) (k:=5) (by omega) HA (λq=>by have:=hr.2 q;simp at this));clear hr;go_wp2_with fail;go_ret;exact⟨6,rfl,Y,x2⟩
   ·have S:=uU (a4g HA (show Rn x 5 from hr.1 rfl));clear hr;go_wp2_with fail;go_roundw
    case rel=>exact⟨6,by omega,by go_num,S,x2⟩
    case measure=>simp [intOf]
  ·go_wp2_with fail;refine(b3q x b _ hv (a4d.ext HCAP HV.H hbl) (HA 0 (by omega)) (HA 1 (by omega)) (HA 3 (by omega)) (HA 4 (by omega)) (HA 5 (by omega))).mono ?_;rintro e w2 ⟨r,rfl,hr,hq⟩;have x2:=hbl.trans hq;cases r
   ·have Y:=uU (a1p (x:=x) (k:=6) (by omega) HA (λq=>by have:=hr.2 q;simp at this));clear hr;go_wp2_with fail;go_ret;exact⟨7,rfl,Y,x2⟩
   ·have S:=uU (a4g HA (show Rn x 6 from hr.1 rfl));clear hr;go_wp2_with fail;go_roundw
    case rel=>exact⟨7,by omega,by go_num,S,x2⟩
    case measure=>simp [intOf]
  ·go_wp2_with fail;refine(b0w x b _ hv).mono ?_;rintro e w2 ⟨r,rfl,hr,hq⟩;have x2:=hbl.trans hq;cases r
   ·have Y:=uU (a1p (x:=x) (k:=7) (by omega) HA (λq=>by have:=hr.2 q;simp at this));clear hr;go_wp2_with fail;go_ret;exact⟨8,rfl,Y,x2⟩
   ·have S:=uU (a4g HA (show Rn x 7 from hr.1 rfl));clear hr;go_wp2_with fail;go_roundw
    case rel=>exact⟨8,by omega,by go_num,S,x2⟩
    case measure=>simp [intOf]
  ·have Y:=uU (okis_ok (x:=x) HA);go_wp2_with fail;go_ret;exact⟨0,rfl,Y,hbl⟩
theorem a4d.extS(h:a4d w x ac)(hC:SlC w (.slice ac x.cells.length kc) x.cells)(e:Ext w w'):a4d w' x ac:=λi hi bc oc ad l c ha hc=>by
 obtain⟨b2,o2,e2,_,vp,_,_,_,_,_,_,_,p7,hp⟩:=SlC.nth hC i hi;rw[ha] at e2;cases e2;have:=e.keep p7;rw[this] at hc;cases hc;exact h i hi _ _ _ _ _ ha p7
theorem b4j(x:Hp)(w:World)(hR:SlW w (.slice ar x.regs.length kr) x.regs)(hC:SlC w (.slice ac x.cells.length kc) x.cells)(hG:SlI w (.slice ag x.gray.length kg) x.gray)(hcap:a4d w x ac):
  Calls Tryz.prog 65 #[x.v (.slice ar x.regs.length kr) (.slice ac x.cells.length kc) (.slice ag x.gray.length kg)] w λe w'=>Ext w w'/\Hid ((¬eJ x 0/\e=.returned (.tuple #[.pointer none,.bool false]))\/(eJ x 0/\∃b an kn,e=.returned (.tuple #[.pointer (some ⟨b,0,none⟩),.bool true])/\VAt w' b x ar kr ac kc ag kg an kn/\Hid (∃bn on,an=some ⟨bn,on,none⟩))):=by
 have x1:=(Ext.refl w).alloc (.cells #[iv x.room,iv x.used,iv x.born,.slice ar x.regs.length kr,.slice ac x.cells.length kc,iv x.phase,iv x.hand,iv x.sub,.slice ag x.gray.length kg,iv x.per,iv x.start,iv x.rounds,iv x.forced] 34);have S1:=uU (SlW.ext x1 hR);have S2:=uU (SlC.ext x1 hC);have S3:=uU (SlI.ext x1 hG);have S4:=uU (hcap.extS hC x1);clear hR hC hG hcap;go_enter Tryz.func65,Tryz.ntmps65;go_wp2_with fail;refine(c7b x _ S1 S2 S3).mono ?_;rintro e w2 ⟨b,rfl,hq,hor⟩;have x2:=x1.trans hq;rcases uH hor with⟨hn,hh⟩ | ⟨hr,an,kn,base,vf,F,hv,hf,han⟩
 ·have HH:=uU hh;clear hor hh;go_wp2_with fail;refine(c3r x b _ HH hn).mono ?_;rintro e w3 ⟨n,rfl,hok,hq3⟩;have x3:=x2.trans hq3;have OK:=uU hok;clear hok;cases t:(n == 0)
  ·have t2:(n != 0)=true:=by simpa using t
   have N:=uU (show ¬eJ x 0 from λh=>by have:=eJ.uniq h OK;simp at t;omega);go_wp2_with fail;go_ret2;exact⟨x3,.inl ⟨N,rfl⟩⟩
  ·exfalso;have h0:eJ x 0:=by have:=uH OK;simp at t;rw[t] at this;exact this
   have h1:eJ x 1:=.inl ⟨hn,rfl⟩;have:=eJ.uniq h0 h1;omega
 ·have HV:=uU hv;have HF:=uU hf;have HC:=uU (S4.extS S2 hq);have HR:=uU hr;clear hor hv hf hr;go_wp2_with fail;refine(c0d x b _ HV HF HC HR).mono ?_;rintro e w3 ⟨n,rfl,hok,hq3⟩;have x3:=x2.trans hq3;have OK:=uU hok;have V3:=uU (HV.ext hq3);clear hok;cases t:(n == 0)
  ·have t2:(n != 0)=true:=by simpa using t
   have N:=uU (show ¬eJ x 0 from λh=>by have:=eJ.uniq h OK;simp at t;omega);go_wp2_with fail;go_ret2;exact⟨x3,.inl ⟨N,rfl⟩⟩
  ·have t2:(n != 0)=false:=by simpa using t
   have Y:=uU (show eJ x 0 by have:=uH OK;simp at t;rw[t] at this;exact this);go_wp2_with fail;go_ret2;exact⟨x3,.inr ⟨Y,b,an,kn,rfl,V3,han⟩⟩
theorem b0s(y:Wd)(b:Nat)(w:World)(k2:(y.k == 2)=false):
  Calls Tryz.prog 123 #[.pointer (some ⟨b,0,none⟩),y.v] w λe w'=>e=.returned (.pointer none)/\Ext w w':=by
 go_enter Tryz.func123,Tryz.ntmps123;go_wp2_with fail;refine(a6z y b _ k2).mono ?_;rintro e w1 ⟨rfl,hq⟩;go_wp2_with fail;go_ret;exact⟨rfl,Ext.trans ((Ext.refl w).alloc _) hq⟩
def qH(x:Hp)(i:Nat):Nat:=if ((x.c i).st == 2)=true then (x.c i).to.toNat else i
theorem c7f(r2:R2 x)(i:Nat)(hi:i<x.cells.length):qH x i<x.cells.length:=by
 unfold qH
 split
 ·rename_i h;have hs:(x.c i).st=2:=by simpa using h
  have:=r2.1 i hi;unfold cE eD at this;omega
 ·exact hi
theorem a9g[Inhabited uN](h:SAt B w b x ar kr v4 v8 br cB cO bn pb pa pk kn hd vf F vk K role)(r2:R2 x)(i:Nat)(hi:i<x.cells.length):
  Calls Tryz.prog 123 #[.pointer (some ⟨b,0,none⟩),.agg #[iv 2,iv 0,iv i]] w λe w'=>e=.returned (ndp bn (qH x i))/\Ext w w':=by
 have x1:=(Ext.refl w).alloc (.cells #[iv 2,iv 0,iv i] 152);have n13:=h.sb.n13;obtain⟨m0,m1⟩:=h.sb.nd i hi;obtain⟨p0,_,_,_,_,_,p6⟩:=h.rw.s i hi;have QF:=uU (λW (e:Ext w W)=>a4s ⟨2,0,(i:Int)⟩ b x.cells.length bn 0 kn i W (by simp) (e.keep n13) hi);cases ts:((x.c i).st == 2)
 ·have L:=uU (show qH x i=i by simp only [qH,ts];simp);clear h r2 m0;go_enter Tryz.func123,Tryz.ntmps123;go_wp2_with fail;refine(QF _ x1).mono ?_;rintro e w1 ⟨rfl,hq⟩;rw[Nat.zero_add];have x2:=x1.trans hq;have m1':=x2.keep m1;have p0':=x2.keep p0;clear m1 p0 n13 p6;go_wp2_with fail;go_ret;exact⟨by rw[uH L];rfl,x2⟩
 ·have hs:(x.c i).st=2:=by simpa using ts
  obtain⟨t,ht⟩:∃t:Nat,(x.c i).to=(t:Int):=⟨(x.c i).to.toNat,by
   have:=r2.1 i hi;unfold cE eD at this;omega⟩
  have hti:t<i:=by
   have:=r2.1 i hi;unfold cE eD at this;omega
  have L:=uU (show qH x i=t by simp only [qH,ts];simp [ht]);rw[ht] at p6;have t0:(0:Int)<=(t:Int):=by omega
  have t1:(t:Int)<(x.cells.length:Int):=by omega
  clear h r2 m0 ht hs;go_enter Tryz.func123,Tryz.ntmps123;go_wp2_with fail;refine(QF _ x1).mono ?_;rintro e w1 ⟨rfl,hq⟩;rw[Nat.zero_add];have x2:=x1.trans hq;have m1':=x2.keep m1;have p0':=x2.keep p0;have p6':=x2.keep p6;have d13:=x2.keep n13;clear m1 p0 n13 p6;go_wp2_with fail;go_quiet (fail);go_wp2_with fail;go_ret;exact⟨by rw[uH L];rfl,x2.drewN _⟩
theorem b4k(bn o:Nat)(pl:Int)(w:World)(m0:w.cell? ⟨bn,o,none⟩=some (iv pl)):
  Calls Tryz.prog 319 #[.pointer (some ⟨bn,o,none⟩)] w λe w'=>e=.returned (.agg #[iv 2,iv 0,iv pl])/\Ext w w':=by
 have hb:bn<w.heap.size:=uL m0;go_enter Tryz.func319,Tryz.ntmps319;go_wp2_with fail;refine bodyPost_ret (v:=.agg #[iv 2,iv 0,iv pl]) (by simp [results,Tryz.results319,go_sem]) rfl ⟨rfl,?_⟩
 repeat (first | refine Ext.setCell ?_ (Nat.le_refl _) _ | exact(Ext.refl w).alloc _)
theorem c7g(y:Wd)(b:Nat)(w:World)(k2:(y.k == 2)=false):
  Calls Tryz.prog 324 #[.pointer (some ⟨b,0,none⟩),y.v] w λe w'=>e=.returned y.v/\Ext w w':=by
 have x1:=((Ext.refl w).alloc (.cells #[iv y.k,iv y.n,iv y.a] 152)).alloc (.cells #[iv 0,iv 0,iv 0] 152);go_enter Tryz.func324,Tryz.ntmps324;go_wp2_with fail;refine(b0s y b _ k2).mono ?_;rintro e w1 ⟨rfl,hq⟩;have x2:=x1.trans hq;have z1:w.heap.size+1<w1.heap.size:=by have:=hq.size;simp at this;omega
 have z0:w.heap.size<w1.heap.size:=by omega
 have hc1:=(cZ hq).1;have hf1:=(cZ hq).2;have v0:=hq.keep (b:=w.heap.size) (o:=0) (v:=iv y.k) (by simp [go_sem]);have v1:=hq.keep (b:=w.heap.size) (o:=1) (v:=iv y.n) (by simp [go_sem]);have v2:=hq.keep (b:=w.heap.size) (o:=2) (v:=iv y.a) (by simp [go_sem]);have r0:=hq.keep (b:=w.heap.size+1) (o:=0) (v:=iv 0) (by simp [go_sem]);have r1:=hq.keep (b:=w.heap.size+1) (o:=1) (v:=iv 0) (by simp [go_sem]);have r2:=hq.keep (b:=w.heap.size+1) (o:=2) (v:=iv 0) (by simp [go_sem]);clear hq;go_wp2_with fail;refine bodyPost_ret (v:=y.v) (by simp [results,Tryz.results324,go_sem,r0,r1,r2]) rfl ⟨rfl,?_⟩
 repeat (first | refine Ext.setCell ?_ (by show w.heap.size<=w.heap.size+1;omega) _ | exact x2)
theorem sres_at[Inhabited uN](h:SAt B w b x ar kr v4 v8 br cB cO bn pb pa pk kn hd vf F vk K role)(q2:R2 x)(i:Nat)(hi:i<x.cells.length):
  Calls Tryz.prog 324 #[.pointer (some ⟨b,0,none⟩),.agg #[iv 2,iv 0,iv i]] w λe w'=>e=.returned (.agg #[iv 2,iv 0,iv (qH x i)])/\Ext w w':=by
 have x1:=((Ext.refl w).alloc (.cells #[iv 2,iv 0,iv i] 152)).alloc (.cells #[iv 0,iv 0,iv 0] 152);have HV:=uU h;have M0:=uU (h.sb.nd (qH x i) (c7f q2 i hi)).1;clear h;go_enter Tryz.func324,Tryz.ntmps324;go_wp2_with fail;refine(a9g (HV.ext x1) q2 i hi).mono ?_;rintro e w1 ⟨rfl,hq⟩;have x2:=x1.trans hq;have QH:=uU hq;clear hq;go_wp2_with fail;refine(b4k bn (qH x i*2) (qH x i) _ (x2.keep M0)).mono ?_;rintro e w2 ⟨rfl,hq2⟩;have x3:=x2.trans hq2;have hq:=QH.trans hq2;have z1:w.heap.size+1<w2.heap.size:=by have:=hq.size;simp at this;omega
 have hc1:=(cZ hq).1;have hf1:=(cZ hq).2;have r0:=hq.keep (b:=w.heap.size+1) (o:=0) (v:=iv 0) (by simp [go_sem]);have r1:=hq.keep (b:=w.heap.size+1) (o:=1) (v:=iv 0) (by simp [go_sem]);have r2:=hq.keep (b:=w.heap.size+1) (o:=2) (v:=iv 0) (by simp [go_sem]);clear hq hq2;go_wp2_with fail;refine bodyPost_ret (v:=.agg #[iv 2,iv 0,iv (qH x i)]) (by simp [results,Tryz.results324,go_sem,r0,r1,r2]) rfl ⟨rfl,?_⟩
 repeat (first | refine Ext.setCell ?_ (by show w.heap.size<=w.heap.size+1;omega) _ | exact x3)
theorem b7w[Inhabited uN](h:SAt B w b x ar kr v4 v8 br cB cO bn pb pa pk kn hd vf F vk K role)(q2:R2 x)(y:Wd)(hy:uK y x.cells.length):
  Calls Tryz.prog 324 #[.pointer (some ⟨b,0,none⟩),y.v] w λe w'=>e=.returned (qJ x y).v/\Ext w w':=by
 cases q:(y.k == 2)
 ·have e:qJ x y=y:=by
   unfold qJ;rw[if_neg];intro h;simp [h.1] at q
  rw[e];exact c7g y b w q
 ·have hk:y.k=2:=by simpa using q
  obtain⟨k,n,a⟩:=y;simp only at hk;subst hk;unfold uK at hy;simp only at hy;obtain⟨i,rfl⟩:∃i:Nat,a=(i:Int):=⟨a.toNat,by omega⟩;obtain rfl:n=0:=by omega
  have hi:i<x.cells.length:=by omega
  have ei:((i:Int)).toNat=i:=by omega
  have e:qJ x ⟨2,0,i⟩=⟨2,0,qH x i⟩:=by
   unfold qJ qH;simp only [ei];by_cases h2:(x.c i).st=2
   ·have ht:0<=(x.c i).to:=by
     have:=q2.1 i hi;unfold cE eD at this;omega
    have et:(((x.c i).to.toNat:Nat):Int)=(x.c i).to:=by omega
    rw[if_pos ⟨trivial,h2⟩,if_pos (by simpa using h2),et]
   ·rw[if_neg (λh=>h2 h.2),if_neg (by simpa using h2)]
  rw[e];exact sres_at h q2 i hi
theorem SAt.move[Inhabited uN](h:SAt B w b x ar kr v4 v8 br cB cO bn pb pa pk kn hd vf F vk K role)(t f:Nat)(htf:t≠f)(ht:t<x.cells.length)(hf:f<x.cells.length)(o:uX (λq=>∃j,j<x.cells.length/\q=cB j) w w')(nf:∀j,j<x.cells.length->Nf1 (cB j) w')(hs:S7 w' (cB t) (cO t) (x.c f))(h7:w'.cell? ⟨cB t,cO t+7,none⟩=some (.slice (pa f) (x.c f).prs.length (pk f)))(gs:S7 w' (cB f) (cO f) (mvC t))(g7:w'.cell? ⟨cB f,cO f+7,none⟩=some (.slice none 0 0))
  (ho:∀q,q<x.cells.length->q≠t->q≠f->∀k,k<8->w'.cell? ⟨cB q,cO q+k,none⟩=w.cell? ⟨cB q,cO q+k,none⟩) :
  ∃pb' pa' pk' role',SAt B w' b { x with cells:=(x.cells.set t (x.c f)).set f (mvC t) } ar kr v4 v8 br cB cO bn pb' pa' pk' kn hd vf F vk K role':=by
 have hc:∀q,({ x with cells:=(x.cells.set t (x.c f)).set f (mvC t) }:Hp).c q=if q=f then mvC t else if q=t then x.c f else x.c q:=λq=>by
  have h1:=Hp.c_set { x with cells:=x.cells.set t (x.c f) } f (mvC t) (by simpa using hf) q;have h2:=Hp.c_set x t (x.c f) ht q;have e:({ x with cells:=(x.cells.set t (x.c f)).set f (mvC t) }:Hp)={ ({ x with cells:=x.cells.set t (x.c f) }:Hp) with cells:=({ x with cells:=x.cells.set t (x.c f) }:Hp).cells.set f (mvC t) }:=rfl;rw[e,h1];by_cases e1:q=f
  ·rw[if_pos e1,if_pos e1]
  ·rw[if_neg e1,if_neg e1];exact h2
 refine⟨_,_,_,_,h.turned ((x.cells.set t (x.c f)).set f (mvC t)) (by simp) (λq=>if q=t then f else q) (λq=>if q=f then none else if q=t then pa f else pa q) (λq=>if q=f then 0 else if q=t then pk f else pk q) (λd=>if 0<pk f/\d=pb f then 6+t else role d) o nf (λq hq=>?_) (λq hq=>?_) (λq hq=>?_) (λq hq hl=>?_) (λd hb=>?_)⟩
 ·have hq':q<x.cells.length:=by simpa using hq
  rw[hc q];by_cases e1:q=f
  ·rw[if_pos e1];exact Nat.zero_le _
  ·simp only [if_neg e1];by_cases e2:q=t
   ·simp only [if_pos e2];exact h.rw.kp f hf
   ·simp only [if_neg e2];exact h.rw.kp q hq'
 ·rw[hc q];by_cases e1:q=f
  ·subst e1;rw[if_pos rfl];exact gs
  ·rw[if_neg e1];by_cases e2:q=t
   ·subst e2;rw[if_pos rfl];exact hs
   ·rw[if_neg e2];exact(h.rw.s q hq).of λj hj=>ho q hq e2 e1 j (by omega)
 ·rw[hc q];by_cases e1:q=f
  ·subst e1;simp only [if_true];exact g7
  ·simp only [if_neg e1];by_cases e2:q=t
   ·subst e2;simp only [if_true];exact h7
   ·simp only [if_neg e2];rw[ho q hq e2 e1 7 (by omega)];exact h.rw.p7 q hq
 ·rw[hc q];by_cases e1:q=f
  ·rw[if_pos e1] at hl;omega
  ·rw[if_neg e1] at hl;simp only [if_neg e1];by_cases e2:q=t
   ·rw[if_pos e2] at hl;simp only [if_pos e2];exact⟨⟨hf,trivial⟩,trivial,trivial,by rw[if_pos ⟨hl,trivial⟩,e2]⟩
   ·rw[if_neg e2] at hl;simp only [if_neg e2];refine⟨⟨hq,trivial⟩,trivial,trivial,?_⟩;rw[if_neg (λe=>?_)]
    ·exact h.sp.p q hq hl
    ·have r1:=h.sp.p q hq hl;have r2:=h.sp.p f hf e.1;rw[e.2] at r1;omega
 ·by_cases e:0<pk f/\d=pb f
  ·have r2:=h.sp.p f hf e.1;rw[<-e.2] at r2;omega
  ·rw[if_neg e]
theorem b7x[Inhabited uN](h:SAt B w b x ar kr v4 v8 br cB cO bn pb pa pk kn hd vf F vk K role)(t f:Nat)(htf:t≠f)(ht:t<x.cells.length)(hf:f<x.cells.length):
  ∃pb' pa' pk' role',SAt B (zY (qE w (cB t) (cO t) (x.c f) (.slice (pa f) (x.c f).prs.length (pk f))) (cB f) (cO f) 2 t) b (b0u x t f) ar kr v4 v8 br cB cO bn pb' pa' pk' kn hd vf F vk K role':=by
 obtain⟨k1,k2⟩:=a7t w (cB t) (cO t) (x.c f) (x.c t) (.slice (pa f) (x.c f).prs.length (pk f)) _ (h.rw.s t ht) (h.rw.p7 t ht);have o1:=a2w w (cB t) (cO t) (x.c f) (.slice (pa f) (x.c f).prs.length (pk f));have y1:=a0h w (cB t) (cO t) (x.c f) (.slice (pa f) (x.c f).prs.length (pk f));have far1:∀q,q<x.cells.length->q≠t->∀k,k<8->(qE w (cB t) (cO t) (x.c f) (.slice (pa f) (x.c f).prs.length (pk f))).cell? ⟨cB q,cO q+k,none⟩=w.cell? ⟨cB q,cO q+k,none⟩:=λq hq e k hk=>h.rw.far8 ht hq e (Nat.le_refl _) y1 o1 k hk
 have s2:S7 (qE w (cB t) (cO t) (x.c f) (.slice (pa f) (x.c f).prs.length (pk f))) (cB f) (cO f) (x.c f):=(h.rw.s f hf).of λj hj=>far1 f hf (λe=>htf e.symm) j (by omega)
 have s7:=(far1 f hf (λe=>htf e.symm) 7 (by omega)).trans (h.rw.p7 f hf);obtain⟨m1,m2⟩:=a4m (qE w (cB t) (cO t) (x.c f) (.slice (pa f) (x.c f).prs.length (pk f))) (cB f) (cO f) 2 t _ _ s2 s7;have o2:=a3r (qE w (cB t) (cO t) (x.c f) (.slice (pa f) (x.c f).prs.length (pk f))) (cB f) (cO f) 2 t;have y2:=a0g (qE w (cB t) (cO t) (x.c f) (.slice (pa f) (x.c f).prs.length (pk f))) (cB f) (cO f) 2 t;have far2:∀q,q<x.cells.length->q≠f->∀k,k<8->(zY (qE w (cB t) (cO t) (x.c f) (.slice (pa f) (x.c f).prs.length (pk f))) (cB f) (cO f) 2 t).cell? ⟨cB q,cO q+k,none⟩=(qE w (cB t) (cO t) (x.c f) (.slice (pa f) (x.c f).prs.length (pk f))).cell? ⟨cB q,cO q+k,none⟩:=λq hq e k hk=>h.rw.far8 hf hq e y1.size y2 o2 k hk
 refine h.move t f htf ht hf ((y1.mono (λq e=>⟨t,ht,e⟩)).trans (y2.mono (λq e=>⟨f,hf,e⟩))) (λq hq=>a6j (a6j (h.rw.nc q hq).1 (a4o (h.rw.nc t ht).1 _ _ _) y1) (a8p (a6j (h.rw.nc f hf).1 (a4o (h.rw.nc t ht).1 _ _ _) y1) _ _ _) y2) ?_ ?_ m1 m2 (λq hq h1 h2 k hk=>?_)
 ·exact k1.of λj hj=>far2 t ht htf j (by omega)
 ·rw[far2 t ht htf 7 (by omega)];exact k2
 ·rw[far2 q hq h2 k hk,far1 q hq h1 k hk]
def rgR(x:Hp)(t f j:Nat):Hp:={ x with regs:=(x.regs.take j).map (mvW t f)++x.regs.drop j }
theorem c7h(x:Hp)(t f j:Nat)(hj:j<x.regs.length):∃h:j<(rgR x t f j).regs.length,(rgR x t f j).regs[j]=x.regs[j]:=by
 have hl:j<(rgR x t f j).regs.length:=by simp [rgR];omega
 refine⟨hl,?_⟩;simp only [rgR];rw[List.getElem_append_right (by simp;omega)];simp [Nat.min_eq_left (Nat.le_of_lt hj)]
theorem b7y(x:Hp)(t f j:Nat)(hj:j<x.regs.length):({ rgR x t f j with regs:=(rgR x t f j).regs.set j (mvW t f x.regs[j]) }:Hp)=rgR x t f (j+1):=by
 have:(rgR x t f j).regs.set j (mvW t f x.regs[j])=(rgR x t f (j+1)).regs:=by
  simp only [rgR];rw[List.set_append_right _ _ (by simp;omega),List.take_succ_eq_append_getElem hj,List.map_append];simp only [List.length_map,List.length_take,Nat.min_eq_left (Nat.le_of_lt hj),Nat.sub_self];have hd:=List.drop_eq_getElem_cons hj;rw[hd];simp only [List.set_cons_zero,List.map_cons,List.map_nil,List.append_assoc,List.singleton_append]
 rw[this];rfl
theorem c7i(x:Hp)(t f j:Nat)(hj:j<x.regs.length)(h:mvW t f x.regs[j]=x.regs[j]):rgR x t f (j+1)=rgR x t f j:=by
 rw[<-b7y x t f j hj,h];obtain⟨hl,e⟩:=c7h x t f j hj;rw[<-e];simp
theorem c7j(x:Hp)(t f:Nat):rgR x t f 0=x:=by simp [rgR]
theorem rgR_all(x:Hp)(t f:Nat):b0u (rgR x t f x.regs.length) t f=zN x t f:=by simp [rgR,b0u,zN,Hp.c]
theorem ptr_nil(bn o:Nat)(w:World):(binOp .eql 126 (.pointer none) (.pointer (some ⟨bn,o,none⟩))).run Tryz.prog w=.ok (.bool false) w:=by kernel_rfl
theorem b7z(w:World)(bn p q:Nat):(sameAddr ⟨bn,p,none⟩ ⟨bn,q,none⟩).run P w=.ok (p == q) w:=by
 have:((⟨bn,p,none⟩:Addr) == ⟨bn,q,none⟩)=(p == q):=by
  rw[Bool.eq_iff_iff];simp
 simp [sameAddr,this]
theorem c7k(w:World)(d:Nat)(t e:TypeId)(i:TypeInfo)(ht:P.underlying t=some (.pointer e))(hi:P.info? e=some i)(hs:i.size≠0)(bn p q:Nat):
  (Op.equalIn (d+1) t (.pointer (some ⟨bn,p,none⟩)) (.pointer (some ⟨bn,q,none⟩))).run P w=.ok (p == q) w:=by
 simp [Op.equalIn,run_underlying ht,sizeOf,typeInfo,hi,hs,b7z]
theorem c3s:(Tryz.prog.info? 124).map (λi=>i.size)=some 2:=by kernel_rfl
theorem c7m(bn p q:Nat)(w:World):(binOp .eql 126 (.pointer (some ⟨bn,p,none⟩)) (.pointer (some ⟨bn,q,none⟩))).run Tryz.prog w=.ok (.bool (p == q)) w:=by
 obtain⟨i,hi,hs⟩:∃i,Tryz.prog.info? 124=some i/\i.size=2:=by
  have:=c3s;cases h:Tryz.prog.info? 124 with
  | none=>rw[h] at this;simp at this
  | some i=>rw[h] at this;simp at this;exact⟨i,rfl,this⟩
 have he:(Op.equalIn 10000 126 (.pointer (some ⟨bn,p,none⟩)) (.pointer (some ⟨bn,q,none⟩))).run Tryz.prog w=.ok (p == q) w:=by
  exact c7k w 9999 126 124 i Tryz.underlying126 hi (by omega) bn p q
 simp only [binOp];simp [Op.equal,Op.maxDepth,he]
theorem ptr_no(bn p q:Nat)(w:World)(h:¬p=q):(binOp .eql 126 (.pointer (some ⟨bn,p,none⟩)) (.pointer (some ⟨bn,q,none⟩))).run Tryz.prog w=.ok (.bool false) w:=by
 rw[c7m,beq_eq_false_iff_ne.2 h]
theorem ptr_yes(bn p:Nat)(w:World):(binOp .eql 126 (.pointer (some ⟨bn,p,none⟩)) (.pointer (some ⟨bn,p,none⟩))).run Tryz.prog w=.ok (.bool true) w:=by
 rw[c7m];simp
end Go.Proofs.YtddkhnclmeikfaaGreat
