import Derived.Test.YtddkhnclmeikfaaGreatSpecC
import Derived.BigRegion
import Derived.Deep.RegionWith
set_option maxRecDepth 100000
set_option maxHeartbeats 2000000
namespace Go.Proofs.YtddkhnclmeikfaaGreat
open Go.RowKit
attribute [local go_sem ↓] Go.wp_at_zero Go.wp_at_succ
variable{ar ac ag:Option Addr}{kr kc kg:Nat}{w w':World}
def Up(w w':World):Prop:=Ext w w'
theorem Up.ext(h:Up w w'):Ext w w':=h
theorem a4c{P:Program}{f:FuncId}{args:Array Value}{v:Value}(h:Calls P f args w' λe w''=>e=.returned v/\Ext w' w'')(hw:Up w w'):Calls P f args w' λe w''=>e=.returned v/\Up w w'':=
 h.mono λ_ _ ⟨he,hx⟩=>⟨he,Ext.trans hw hx⟩
theorem b7w(x:Hp)(b:Nat)(w:World)(h:HAt w b x ar kr ac kc ag kg):
  Calls Tryz.prog 129 #[.pointer (some ⟨b,0,none⟩)] w λe w'=>∃r:Bool,e=.returned (.bool r)/\(r=true↔R4 x)/\Ext w w':=by
 have c3:=h.c3;have lr:=h.lr;have lc:=h.lc;go_enter Tryz.func129,Tryz.ntmps129;go_wp2_with fail;go_loopw [16] (λi wr=>∃k:Nat,k<=x.B.length/\i=.int .i64 k/\(∀j (hj:j<x.B.length),j<k->cL x x.B[j] False)/\Ext w wr) (λi _=>x.B.length-(intOf i).toNat)
 case atStart=>exact⟨0,Nat.zero_le _,rfl,λj hj h=>by omega,Ext.refl _⟩
 case round=>
  obtain⟨k,hk,rfl,hall,hbl⟩:=hrel;have HA:=uU hall;clear hall;by_cases hlt:k<x.B.length
  ·obtain⟨b',o,rfl,p0,p1,p2⟩:=(h.ext hbl).R k hlt;have hb':b'<wr.heap.size:=uL p0;have hk0:(0:Int)<=(k:Int):=by omega
   have hk1:(k:Int)<(x.B.length:Int):=by omega
   go_wp2_with fail;refine(a5z x b x.B[k] false _ (h.ext (hbl.alloc _))).mono ?_;rintro e w1 ⟨rfl,hq1⟩;have x1:Ext w w1:=(hbl.alloc _).trans hq1;cases q:qQ x x.B[k] false
   ·have N:=uU (show ¬R4 x from λr=>by
     have:=(a1n (m:=false) (p:=False) (by simp)).2 (r.1 k hlt);rw[this] at q;simp at q)
    go_wp2_with fail;go_ret;exact⟨false,rfl,⟨λf=>by simp at f,λr=>(N r).elim⟩,x1⟩
   ·have S:=uU (show ∀j (hj:j<x.B.length),j<k+1->cL x x.B[j] False from λj hj hjk=>by
     by_cases e:j=k
     ·subst e;exact(a1n (m:=false) (p:=False) (by simp)).1 q
     ·exact HA j hj (by omega))
    go_wp2_with fail;go_roundw
    case rel=>exact⟨k+1,by omega,by go_num,S,x1⟩
    case measure=>simp [intOf];omega
  ·have A1:=uU (show ∀j (hj:j<x.B.length),cL x x.B[j] False from λj hj=>uH HA j hj (by omega));clear HA;have c4:=(h.ext hbl).c4;go_wp2_with fail;clear hlt hk;go_loopw [30] (λi wr=>∃k:Nat,k<=x.A.length/\i=.int .i64 k/\(∀j,j<k->¬(hY x j/\cU (x.c j))/\∀l,l<(x.c j).F.length->a2m x j l ((x.c j).p l))/\Ext w wr) (λi _=>x.A.length-(intOf i).toNat)
   case atStart=>exact⟨0,Nat.zero_le _,rfl,λj h=>by omega,hbl⟩
   case round=>
    clear hbl c4;obtain⟨k,hk,rfl,hall,hbl⟩:=hrel;have HA:=uU hall;clear hall;by_cases hlt:k<x.A.length
    ·obtain⟨b',o,ap,kp,rfl,C⟩:=(h.ext hbl).cell k hlt;obtain⟨p0,p1,p2,p3,p4,p5,p6,p7,lp,P⟩:=C;have HP:=uU P;clear P;have hb':b'<wr.heap.size:=uL p0;have hk0:(0:Int)<=(k:Int):=by omega
     have hk1:(k:Int)<(x.A.length:Int):=by omega
     go_wp2_with fail;have hd:=a8w x b k _ (h.ext (hbl.alloc (.cells #[.int .i64 (x.c k).st,.int .i64 (x.c k).kind,.int .i64 (x.c k).T,.int .i64 (x.c k).U,.int .i64 (x.c k).born,.int .i64 (x.c k).J,.int .i64 (x.c k).to,.slice ap (x.c k).F.length kp] 62))) (by omega) (by omega);rw[Int.toNat_natCast] at hd;refine hd.mono ?_;clear hd;rintro e w1 ⟨rfl,rfl⟩;have hbl1:=hbl.alloc (.cells #[.int .i64 (x.c k).st,.int .i64 (x.c k).kind,.int .i64 (x.c k).T,.int .i64 (x.c k).U,.int .i64 (x.c k).born,.int .i64 (x.c k).J,.int .i64 (x.c k).to,.slice ap (x.c k).F.length kp] 62);cases qd:a0n x k
     ·go_wp2_with fail;go_loopw [52] (λi wr2=>∃l:Nat,l<=(x.c k).F.length/\i=.int .i64 l/\(∀j,j<l->a2m x k j ((x.c k).p j))/\Ext w wr2/\Ext wr wr2) (λi _=>(x.c k).F.length-(intOf i).toNat)
      case atStart=>exact⟨0,Nat.zero_le _,rfl,λj h=>by omega,hbl1,(Ext.refl wr).alloc _⟩
      case round=>
       obtain⟨l,hl,rfl,hall,hx2,hy2⟩:=hrel;have HB:=uU hall;clear hall;by_cases hl2:l<(x.c k).F.length
       ·obtain⟨b2,o2,rfl,q0,q1,q2,q3,q4,q5⟩:=uH HP l hl2;have e0:=hy2.keep q0;have e1:=hy2.keep q1;have e2:=hy2.keep q2;have e3:=hy2.keep q3;have e4:=hy2.keep q4;have e5:=hy2.keep q5;have hb2:b2<wr.heap.size:=uL e0;clear q0 q1 q2 q3 q4 q5 p0 p1 p2 p3 p4 p5 p6 p7;have hl0:(0:Int)<=(l:Int):=by omega
        have hl1:(l:Int)<((x.c k).F.length:Int):=by omega
        have ndoom:¬hY x k:=λhd=>by rw[<-a2b,qd] at hd;simp at hd
        have hm:=b0z (x:=x) (i:=k) (k:=l);have hmm:((!eD x k l)=true↔¬cX x k l):=by rw[<-hm];simp
        have K1:=uU (a1n (x:=x) (y:=((x.c k).p l).key) hmm);have K2:=uU (a1n (x:=x) (y:=((x.c k).p l).val) hmm);have ND:=uU ndoom;clear hm hmm ndoom;go_wp2_with fail;refine(b5z x b k l _ (h.ext (hx2.alloc _))).mono ?_;rintro e w2 ⟨rfl,rfl⟩;have hx3:=hx2.alloc (.cells #[.int .i64 ((x.c k).p l).key.k,.int .i64 ((x.c k).p l).key.n,.int .i64 ((x.c k).p l).key.a,.int .i64 ((x.c k).p l).val.k,.int .i64 ((x.c k).p l).val.n,.int .i64 ((x.c k).p l).val.a] 154);have hy3:=hy2.alloc (.cells #[.int .i64 ((x.c k).p l).key.k,.int .i64 ((x.c k).p l).key.n,.int .i64 ((x.c k).p l).key.a,.int .i64 ((x.c k).p l).val.k,.int .i64 ((x.c k).p l).val.n,.int .i64 ((x.c k).p l).val.a] 154);go_wp2_with fail;refine(a5z x b ((x.c k).p l).key (!eD x k l) _ (h.ext hx3)).mono ?_;rintro e w3 ⟨rfl,hq3⟩;have hc3:=(cD hq3).1;have x3:Ext w w3:=hx3.trans hq3;have y3:=Ext.trans hy3 hq3;cases qk:qQ x ((x.c k).p l).key (!eD x k l)
        ·have N:=uU (show ¬R4 x from λr=>by
          have:=K1.2 (((r.2 k hlt).2 l hl2).2 ND).1;rw[this] at qk;simp at qk)
         go_wp2_with fail;go_ret;exact⟨false,rfl,⟨λf=>by simp at f,λr=>(N r).elim⟩,x3⟩
        ·go_wp2_with fail;refine(a5z x b ((x.c k).p l).val (!eD x k l) _ (h.ext x3)).mono ?_;rintro e w4 ⟨rfl,hq4⟩;cases qv:qQ x ((x.c k).p l).val (!eD x k l)
         ·have N:=uU (show ¬R4 x from λr=>by
           have:=K2.2 (((r.2 k hlt).2 l hl2).2 ND).2;rw[this] at qv;simp at qv)
          go_wp2_with fail;go_ret;exact⟨false,rfl,⟨λf=>by simp at f,λr=>(N r).elim⟩,x3.trans hq4⟩
         ·have S:=uU (show ∀j,j<l+1->a2m x k j ((x.c k).p j) from λj hj=>by
           by_cases e:j=l
           ·subst e;exact⟨λhd=>(ND hd).elim,λ_=>⟨K1.1 qk,K2.1 qv⟩⟩
           ·exact HB j (by omega))
          go_wp2_with fail;go_roundw
          case rel=>exact⟨l+1,by omega,by go_num,S,x3.trans hq4,Ext.trans y3 hq4⟩
          case measure=>simp [intOf];omega
       ·have S:=uU (show ∀j,j<k+1->¬(hY x j/\cU (x.c j))/\∀l,l<(x.c j).F.length->a2m x j l ((x.c j).p l) from λj hj=>by
         by_cases e:j=k
         ·subst e;exact⟨λhd=>by rw[<-a2b,qd] at hd;simp at hd,λl' hl'=>uH HB l' (by omega)⟩
         ·exact HA j (by omega))
        go_wp2_with fail;go_roundw
        case rel=>exact⟨k+1,by omega,by go_num,S,hx2⟩
        case measure=>simp [intOf];omega
     ·have HD:=uU (a2b.1 qd);by_cases qs:cU (x.c k)
      ·have N:=uU (show ¬R4 x from λr=>(r.2 k hlt).1 ⟨HD,qs⟩);cases qs1:((x.c k).U == 1)
       ·have qs2:((x.c k).U == 2)=true:=by unfold cU at qs;simp at qs1 ⊢;omega
        clear qs;go_wp2_with fail;go_ret;exact⟨false,rfl,⟨λf=>by simp at f,λr=>(N r).elim⟩,hbl1⟩
       ·clear qs;go_wp2_with fail;go_ret;exact⟨false,rfl,⟨λf=>by simp at f,λr=>(N r).elim⟩,hbl1⟩
      ·have qs1:((x.c k).U == 1)=false:=by unfold cU at qs;simp;omega
       have qs2:((x.c k).U == 2)=false:=by unfold cU at qs;simp;omega
       have QS:=uU qs;clear qs;go_wp2_with fail;go_loopw [52] (λi wr2=>∃l:Nat,l<=(x.c k).F.length/\i=.int .i64 l/\(∀j,j<l->a2m x k j ((x.c k).p j))/\Ext w wr2/\Ext wr wr2) (λi _=>(x.c k).F.length-(intOf i).toNat)
       case atStart=>exact⟨0,Nat.zero_le _,rfl,λj h=>by omega,hbl1,(Ext.refl wr).alloc _⟩
       case round=>
        obtain⟨l,hl,rfl,hall,hx2,hy2⟩:=hrel;have HB:=uU hall;clear hall;by_cases hl2:l<(x.c k).F.length
        ·obtain⟨b2,o2,rfl,q0,q1,q2,q3,q4,q5⟩:=uH HP l hl2;have e0:=hy2.keep q0;have e1:=hy2.keep q1;have e2:=hy2.keep q2;have e3:=hy2.keep q3;have e4:=hy2.keep q4;have e5:=hy2.keep q5;have hb2:b2<wr.heap.size:=uL e0;have d4:=(h.ext hx2).c4;have hb3:b<wr.heap.size:=uL d4;clear q0 q1 q2 q3 q4 q5 p0 p1 p2 p3 p4 p5 p6 p7;have hl0:(0:Int)<=(l:Int):=by omega
         have hl1:(l:Int)<((x.c k).F.length:Int):=by omega
         have hx3:=hx2.alloc (.cells #[.int .i64 ((x.c k).p l).key.k,.int .i64 ((x.c k).p l).key.n,.int .i64 ((x.c k).p l).key.a,.int .i64 ((x.c k).p l).val.k,.int .i64 ((x.c k).p l).val.n,.int .i64 ((x.c k).p l).val.a] 154);have hy3:=hy2.alloc (.cells #[.int .i64 ((x.c k).p l).key.k,.int .i64 ((x.c k).p l).key.n,.int .i64 ((x.c k).p l).key.a,.int .i64 ((x.c k).p l).val.k,.int .i64 ((x.c k).p l).val.n,.int .i64 ((x.c k).p l).val.a] 154);go_wp2_with fail;have hb4:b<wr.heap.size+1:=by omega
         cases qk:dJ ((x.c k).p l).key x.A.length
         ·have N:=uU (show ¬R4 x from λr=>by
           have:=a0j.2 (((r.2 k hlt).2 l hl2).1 HD).1;rw[this] at qk;simp at qk)
          have F0:∀w',Up (wr.alloc (.cells #[.int .i64 ((x.c k).p l).key.k,.int .i64 ((x.c k).p l).key.n,.int .i64 ((x.c k).p l).key.a,.int .i64 ((x.c k).p l).val.k,.int .i64 ((x.c k).p l).val.n,.int .i64 ((x.c k).p l).val.a] 154)) w'->w'.cell? ⟨wr.heap.size,0,none⟩=some (iv ((x.c k).p l).key.k)/\w'.cell? ⟨wr.heap.size,1,none⟩=some (iv ((x.c k).p l).key.n)/\w'.cell? ⟨wr.heap.size,2,none⟩=some (iv ((x.c k).p l).key.a)/\w'.cell? ⟨b,4,none⟩=some (.slice (some ⟨b',o,none⟩) x.A.length kc):=λw' hw'=>⟨hw'.ext.keep (by simp [go_sem]),hw'.ext.keep (by simp [go_sem]),hw'.ext.keep (by simp [go_sem]),hw'.ext.keep ((Ext.alloc (Ext.refl _) _).keep d4)⟩
          refine wp_region_quiet (C:=Up (wr.alloc (.cells #[.int .i64 ((x.c k).p l).key.k,.int .i64 ((x.c k).p l).key.n,.int .i64 ((x.c k).p l).key.a,.int .i64 ((x.c k).p l).val.k,.int .i64 ((x.c k).p l).val.n,.int .i64 ((x.c k).p l).val.a] 154))) (by kernel_rfl) (by kernel_rfl) (show Ext _ _ from(Ext.refl _).drew) ?_
          go_simp
          iterate 20 (first | go_big_quiet_skip | (go_big_quiet_want;go_big_quiet_op;first | go_big_quiet_on | (apply Exists.intro;refine⟨λw' hw'=>?_,?_⟩;(first | (go_at_call 207;exact a4c (a1r ((x.c k).p l).key x.A.length _) hw') | (with_reducible rfl) | (go_simp;first | done | (with_reducible rfl) | (refine⟨?_,?_⟩ <;> with_reducible rfl)));go_big_quiet_on)))
          refine wpQuiet_nil ?_;intro w1 hq1;have hq1:=hq1.ext;clear F0;go_wp2_with fail;go_ret;exact⟨false,rfl,⟨λf=>by simp at f,λr=>(N r).elim⟩,hx3.trans hq1⟩
         ·cases qv:dJ ((x.c k).p l).val x.A.length
          ·have N:=uU (show ¬R4 x from λr=>by
            have:=a0j.2 (((r.2 k hlt).2 l hl2).1 HD).2;rw[this] at qv;simp at qv)
           go_region_held3 (λw'=>w'.cell? ⟨wr.heap.size,0,none⟩=some (iv ((x.c k).p l).key.k)/\w'.cell? ⟨wr.heap.size,1,none⟩=some (iv ((x.c k).p l).key.n)/\w'.cell? ⟨wr.heap.size,2,none⟩=some (iv ((x.c k).p l).key.a)/\w'.cell? ⟨wr.heap.size,3,none⟩=some (iv ((x.c k).p l).val.k)/\w'.cell? ⟨wr.heap.size,4,none⟩=some (iv ((x.c k).p l).val.n)/\w'.cell? ⟨wr.heap.size,5,none⟩=some (iv ((x.c k).p l).val.a)/\w'.cell? ⟨b,4,none⟩=some (.slice (some ⟨b',o,none⟩) x.A.length kc)) (first | (simp [*];done) | go_keep)
            (first | (go_at_call_of 207 (((x.c k).p l).key.k);refine(a1r ((x.c k).p l).key x.A.length _).mono ?_;rintro e w1 ⟨rfl,hq1⟩;have hc1:=(cD hq1).1;have z1:wr.heap.size<w1.heap.size:=(by have:=hq1.size;simp at this;omega);have z1b:b<w1.heap.size:=(by omega);simp only [World.size_drew,World.size_alloc] at hc1) | (go_at_call_of 207 (((x.c k).p l).val.k);refine(a1r ((x.c k).p l).val x.A.length _).mono ?_;rintro e w2 ⟨rfl,hq2⟩;have hc2:=(cD hq2).1))
           go_wp2_with fail;go_ret;exact⟨false,rfl,⟨λf=>by simp at f,λr=>(N r).elim⟩,(hx3.trans (Ext.trans ((Ext.refl _).drew) hq1)).trans hq2⟩
          ·have S:=uU (show ∀j,j<l+1->a2m x k j ((x.c k).p j) from λj hj=>by
            by_cases e:j=l
            ·subst e;exact⟨λ_=>⟨a0j.1 qk,a0j.1 qv⟩,λnd=>(nd HD).elim⟩
            ·exact HB j (by omega))
           go_region_held3 (λw'=>w'.cell? ⟨wr.heap.size,0,none⟩=some (iv ((x.c k).p l).key.k)/\w'.cell? ⟨wr.heap.size,1,none⟩=some (iv ((x.c k).p l).key.n)/\w'.cell? ⟨wr.heap.size,2,none⟩=some (iv ((x.c k).p l).key.a)/\w'.cell? ⟨wr.heap.size,3,none⟩=some (iv ((x.c k).p l).val.k)/\w'.cell? ⟨wr.heap.size,4,none⟩=some (iv ((x.c k).p l).val.n)/\w'.cell? ⟨wr.heap.size,5,none⟩=some (iv ((x.c k).p l).val.a)/\w'.cell? ⟨b,4,none⟩=some (.slice (some ⟨b',o,none⟩) x.A.length kc)) (first | (simp [*];done) | go_keep)
            (first | (go_at_call_of 207 (((x.c k).p l).key.k);refine(a1r ((x.c k).p l).key x.A.length _).mono ?_;rintro e w1 ⟨rfl,hq1⟩;have hc1:=(cD hq1).1;have z1:wr.heap.size<w1.heap.size:=(by have:=hq1.size;simp at this;omega);have z1b:b<w1.heap.size:=(by omega);simp only [World.size_drew,World.size_alloc] at hc1) | (go_at_call_of 207 (((x.c k).p l).val.k);refine(a1r ((x.c k).p l).val x.A.length _).mono ?_;rintro e w2 ⟨rfl,hq2⟩;have hc2:=(cD hq2).1))
           go_wp2_with fail;go_roundw
           case rel=>exact⟨l+1,by omega,by go_num,S,(hx3.trans (Ext.trans ((Ext.refl _).drew) hq1)).trans hq2,(Ext.trans hy3 (Ext.trans ((Ext.refl _).drew) hq1)).trans hq2⟩
           case measure=>simp [intOf];omega
        ·have S:=uU (show ∀j,j<k+1->¬(hY x j/\cU (x.c j))/\∀l,l<(x.c j).F.length->a2m x j l ((x.c j).p l) from λj hj=>by
          by_cases e:j=k
          ·subst e;exact⟨λhd=>uH QS hd.2,λl' hl'=>uH HB l' (by omega)⟩
          ·exact HA j (by omega))
         go_wp2_with fail;go_roundw
         case rel=>exact⟨k+1,by omega,by go_num,S,hx2⟩
         case measure=>simp [intOf];omega
    ·have Y:=uU (show R4 x from⟨A1,λi hi=>uH HA i (by omega)⟩);go_wp2_with fail;go_ret;exact⟨true,rfl,⟨λ_=>uH Y,λ_=>rfl⟩,hbl⟩
theorem a8d(g:List Int)(k l:Nat)(h:l<g.length):(g.take (l+1)).count (k:Int)=(g.take l).count (k:Int)+if (g[l] == (k:Int))=true then 1 else 0:=by
 rw[List.take_succ_eq_append_getElem h,List.count_append,List.count_singleton]
theorem c0u(x:Hp)(b:Nat)(w:World)(h:HAt w b x ar kr ac kc ag kg)(q1:(x.E == 1)=true):
  Calls Tryz.prog 130 #[.pointer (some ⟨b,0,none⟩)] w λe w'=>∃r:Bool,e=.returned (.bool r)/\(r=true↔R5 x)/\Ext w w':=by
 have MK:=uU (show uD x from Or.inl (by simpa using q1));have c4:=h.c4;have c5:=h.c5;have c8:=h.c8;have lc:=h.lc;have lg:=h.lg;have G0:=uU (show ¬uD x->x.D.length=0 from λn=>(n MK).elim);go_enter Tryz.func130,Tryz.ntmps130;go_wp2_with fail;go_loopw [38] (λi wr=>∃k:Nat,k<=x.A.length/\i=.int .i64 k/\(∀j,j<k->eV x j)/\Ext w wr) (λi _=>x.A.length-(intOf i).toNat)
 case atStart=>exact⟨0,Nat.zero_le _,rfl,λj h=>by omega,Ext.refl _⟩
 case round=>
  obtain⟨k,hk,rfl,hall,hbl⟩:=hrel;have HA:=uU hall;clear hall;by_cases hlt:k<x.A.length
  ·obtain⟨b',o,ap,kp,rfl,p0,p1,p2,p3,p4,p5,p6,p7,lp,P⟩:=(h.ext hbl).cell k hlt;clear P;have d8:=(h.ext hbl).c8;have hb':b'<wr.heap.size:=uL p0;have hb:b<wr.heap.size:=uL d8;have hk0:(0:Int)<=(k:Int):=by omega
   have hk1:(k:Int)<(x.A.length:Int):=by omega
   have hbl1:=hbl.alloc (.cells #[.int .i64 (x.c k).st,.int .i64 (x.c k).kind,.int .i64 (x.c k).T,.int .i64 (x.c k).U,.int .i64 (x.c k).born,.int .i64 (x.c k).J,.int .i64 (x.c k).to,.slice ap (x.c k).F.length kp] 62)
   have ST:=uU (show eV x k->∀j,j<k+1->eV x j from λhn j hj=>by
    by_cases e:j=k
    ·subst e;exact hn
    ·exact HA j (by omega))
   go_wp2_with fail;obtain⟨WO,hWO⟩:∃W:World,W=wr:=⟨_,rfl⟩;subst hWO;go_loopw [6,48] (λnv i wr2=>∃l n:Nat,l<=x.D.length/\i=.int .i64 l/\nv=.int .i64 n/\n<=l/\Hid (n=(x.D.take l).count (k:Int))/\Ext w wr2/\Ext (WO.alloc (.cells #[.int .i64 (x.c k).st,.int .i64 (x.c k).kind,.int .i64 (x.c k).T,.int .i64 (x.c k).U,.int .i64 (x.c k).born,.int .i64 (x.c k).J,.int .i64 (x.c k).to,.slice ap (x.c k).F.length kp] 62)) wr2) (λ_ i _=>x.D.length-(intOf i).toNat)
   case atStart=>exact⟨0,0,Nat.zero_le _,rfl,rfl,by omega,by show _=_;simp,hbl1,Ext.refl _⟩
   case round=>
    obtain⟨l,n,hl,rfl,rfl,hn,hcnt,hx2,hy2⟩:=hrel;by_cases hl2:l<x.D.length
    ·obtain⟨bg,og,rfl,pg⟩:=(h.ext hx2).G l hl2;unfold yD at pg;simp only [Nat.mul_one] at pg;clear p0 p1 p2 p3 p4 p5 p6 p7 d8;have hl0:(0:Int)<=(l:Int):=by omega
     have hl1:(l:Int)<(x.D.length:Int):=by omega
     have ct:=a8d x.D k l hl2;cases t:(x.D[l] == (k:Int))
     ·have H:Hid (n=(x.D.take (l+1)).count (k:Int)):=by have:=uH hcnt;show _=_;rw[ct,t];simpa using this
      clear ct;go_wp2_with fail;go_roundw
      case rel=>exact⟨l+1,n,by omega,by go_num,rfl,by omega,H,hx2,hy2⟩
      case measure=>simp [intOf];omega
     ·have H:Hid (n+1=(x.D.take (l+1)).count (k:Int)):=by have:=uH hcnt;show _=_;rw[ct,t,<-this];simp
      clear ct;go_wp2_with fail;go_roundw
      case rel=>exact⟨l+1,n+1,by omega,by go_num,by go_num,by omega,H,hx2,hy2⟩
      case measure=>simp [intOf];omega
    ·have hc:=uU (show n=cnt x.D k by have:=uH hcnt;rw[List.take_of_length_le (by omega)] at this;exact this);have f5:=hy2.keep (b:=WO.heap.size) (o:=5) (v:=.int .i64 (x.c k).J) (by simp [go_sem]);have d5:=(h.ext hx2).c5;have d6:=(h.ext hx2).c6;clear p0 p1 p2 p3 p4 p5 p6 p7 d8 hcnt;cases t1:((x.c k).J == 1)
     ·have t1':(x.c k).J≠1:=by simpa using t1
      have t1b:((x.c k).J != 1)=true:=by simpa using t1'
      by_cases hn0:0<n
      ·have N:=uU (show ¬R5 x from λr=>by have:=(r.2.1 k hlt).2.1 t1';have:=uH hc;omega);clear t1';go_wp2_with fail;go_ret;exact⟨false,rfl,⟨λf=>by simp at f,λr=>(N r).elim⟩,hx2⟩
      ·have hz:Hid (cnt x.D k=0):=by have:=uH hc;show _=_;omega
       cases t2:((x.c k).J == 2)
       ·have S:=uU (ST ⟨λe=>absurd e t1',λ_=>uH hz,λe=>by simp [e] at t2⟩);clear t1';go_wp2_with fail;go_roundw
        case rel=>exact⟨k+1,by omega,by go_num,S,hx2⟩
        case measure=>simp [intOf];omega
       ·have S:=uU (ST ⟨λe=>absurd e t1',λ_=>uH hz,λ_=>Or.inl MK⟩);clear t1';go_wp2_with fail;go_roundw
        case rel=>exact⟨k+1,by omega,by go_num,S,hx2⟩
        case measure=>simp [intOf];omega
     ·have t1':(x.c k).J=1:=by simpa using t1
      have t1b:((x.c k).J != 1)=false:=by simp [t1']
      have t1c:((x.c k).J == 2)=false:=by simp [t1']
      have TC:=uU t1';clear t1';by_cases hn1:n=1
      ·have hn2:((n:Int) != 1)=false:=by simp [hn1]
       have S:=uU (ST ⟨λ_=>by have:=uH hc;omega,λe=>absurd TC e,λe=>by have:=uH TC;omega⟩);clear hn1;go_wp2_with fail;go_roundw
       case rel=>exact⟨k+1,by omega,by go_num,S,hx2⟩
       case measure=>simp [intOf];omega
      ·have hn2:((n:Int) != 1)=true:=by simp;omega
       have N:=uU (show ¬R5 x from λr=>by have:=(r.2.1 k hlt).1 TC;have:=uH hc;omega);clear hn1;go_wp2_with fail;go_ret;exact⟨false,rfl,⟨λf=>by simp at f,λr=>(N r).elim⟩,hx2⟩
  ·have A1:=uU (show ∀j,j<x.A.length->eV x j from λj hj=>uH HA j (by omega));have d8:=(h.ext hbl).c8;go_wp2_with fail;clear hlt hk HA;go_loopw [102] (λi wr2=>∃l:Nat,l<=x.D.length/\i=.int .i64 l/\(∀j (hj:j<x.D.length),j<l->0<=x.D[j]/\x.D[j]<x.A.length)/\Ext w wr2) (λi _=>x.D.length-(intOf i).toNat)
   case atStart=>exact⟨0,Nat.zero_le _,rfl,λj hj h=>by omega,hbl⟩
   case round=>
    clear hbl d8;obtain⟨l,hl,rfl,hall,hx2⟩:=hrel;have HB:=uU hall;clear hall;by_cases hl2:l<x.D.length
    ·obtain⟨bg,og,rfl,pg⟩:=(h.ext hx2).G l hl2;unfold yD at pg;simp only [Nat.mul_one] at pg;have d4:=(h.ext hx2).c4;have hl0:(0:Int)<=(l:Int):=by omega
     have hl1:(l:Int)<(x.D.length:Int):=by omega
     by_cases t1:x.D[l]<0
     ·have N:=uU (show ¬R5 x from λr=>by have:=r.2.2 x.D[l] (List.getElem_mem hl2);omega);go_wp2_with fail;go_ret
      first | (exact Or.inl ⟨rfl,N,hx2⟩) | (exact⟨false,rfl,⟨λf=>by simp at f,λr=>(N r).elim⟩,hx2⟩)
     ·by_cases t2:(x.A.length:Int)<=x.D[l]
      ·have N:=uU (show ¬R5 x from λr=>by have:=r.2.2 x.D[l] (List.getElem_mem hl2);omega);go_wp2_with fail;go_ret
       first | (exact Or.inl ⟨rfl,N,hx2⟩) | (exact⟨false,rfl,⟨λf=>by simp at f,λr=>(N r).elim⟩,hx2⟩)
      ·have S:=uU (show ∀j (hj:j<x.D.length),j<l+1->0<=x.D[j]/\x.D[j]<x.A.length from λj hj hjl=>by
        by_cases e:j=l
        ·subst e;omega
        ·exact HB j hj (by omega))
       go_wp2_with fail;go_roundw
       case rel=>exact⟨l+1,by omega,by go_num,S,hx2⟩
       case measure=>simp [intOf];omega
    ·have Y:=uU (show R5 x from⟨G0,A1,λg hg=>by
      obtain⟨j,hj,rfl⟩:=List.getElem_of_mem hg;exact HB j hj (by omega)⟩)
     go_wp2_with fail;go_ret;exact⟨true,rfl,⟨λ_=>uH Y,λ_=>rfl⟩,hx2⟩
theorem c0v(x:Hp)(b:Nat)(w:World)(h:HAt w b x ar kr ac kc ag kg)(q1:(x.E == 1)=false)(q2:(x.E == 2)=true):
  Calls Tryz.prog 130 #[.pointer (some ⟨b,0,none⟩)] w λe w'=>∃r:Bool,e=.returned (.bool r)/\(r=true↔R5 x)/\Ext w w':=by
 have MK:=uU (show uD x from Or.inr (by simpa using q2));have c4:=h.c4;have c5:=h.c5;have c8:=h.c8;have lc:=h.lc;have lg:=h.lg;have G0:=uU (show ¬uD x->x.D.length=0 from λn=>(n MK).elim);go_enter Tryz.func130,Tryz.ntmps130;go_wp2_with fail;go_loopw [38] (λi wr=>∃k:Nat,k<=x.A.length/\i=.int .i64 k/\(∀j,j<k->eV x j)/\Ext w wr) (λi _=>x.A.length-(intOf i).toNat)
 case atStart=>exact⟨0,Nat.zero_le _,rfl,λj h=>by omega,Ext.refl _⟩
 case round=>
  obtain⟨k,hk,rfl,hall,hbl⟩:=hrel;have HA:=uU hall;clear hall;by_cases hlt:k<x.A.length
  ·obtain⟨b',o,ap,kp,rfl,p0,p1,p2,p3,p4,p5,p6,p7,lp,P⟩:=(h.ext hbl).cell k hlt;clear P;have d8:=(h.ext hbl).c8;have hb':b'<wr.heap.size:=uL p0;have hb:b<wr.heap.size:=uL d8;have hk0:(0:Int)<=(k:Int):=by omega
   have hk1:(k:Int)<(x.A.length:Int):=by omega
   have hbl1:=hbl.alloc (.cells #[.int .i64 (x.c k).st,.int .i64 (x.c k).kind,.int .i64 (x.c k).T,.int .i64 (x.c k).U,.int .i64 (x.c k).born,.int .i64 (x.c k).J,.int .i64 (x.c k).to,.slice ap (x.c k).F.length kp] 62)
   have ST:=uU (show eV x k->∀j,j<k+1->eV x j from λhn j hj=>by
    by_cases e:j=k
    ·subst e;exact hn
    ·exact HA j (by omega))
   go_wp2_with fail;obtain⟨WO,hWO⟩:∃W:World,W=wr:=⟨_,rfl⟩;subst hWO;go_loopw [6,48] (λnv i wr2=>∃l n:Nat,l<=x.D.length/\i=.int .i64 l/\nv=.int .i64 n/\n<=l/\Hid (n=(x.D.take l).count (k:Int))/\Ext w wr2/\Ext (WO.alloc (.cells #[.int .i64 (x.c k).st,.int .i64 (x.c k).kind,.int .i64 (x.c k).T,.int .i64 (x.c k).U,.int .i64 (x.c k).born,.int .i64 (x.c k).J,.int .i64 (x.c k).to,.slice ap (x.c k).F.length kp] 62)) wr2) (λ_ i _=>x.D.length-(intOf i).toNat)
   case atStart=>exact⟨0,0,Nat.zero_le _,rfl,rfl,by omega,by show _=_;simp,hbl1,Ext.refl _⟩
   case round=>
    obtain⟨l,n,hl,rfl,rfl,hn,hcnt,hx2,hy2⟩:=hrel;by_cases hl2:l<x.D.length
    ·obtain⟨bg,og,rfl,pg⟩:=(h.ext hx2).G l hl2;unfold yD at pg;simp only [Nat.mul_one] at pg;clear p0 p1 p2 p3 p4 p5 p6 p7 d8;have hl0:(0:Int)<=(l:Int):=by omega
     have hl1:(l:Int)<(x.D.length:Int):=by omega
     have ct:=a8d x.D k l hl2;cases t:(x.D[l] == (k:Int))
     ·have H:Hid (n=(x.D.take (l+1)).count (k:Int)):=by have:=uH hcnt;show _=_;rw[ct,t];simpa using this
      clear ct;go_wp2_with fail;go_roundw
      case rel=>exact⟨l+1,n,by omega,by go_num,rfl,by omega,H,hx2,hy2⟩
      case measure=>simp [intOf];omega
     ·have H:Hid (n+1=(x.D.take (l+1)).count (k:Int)):=by have:=uH hcnt;show _=_;rw[ct,t,<-this];simp
      clear ct;go_wp2_with fail;go_roundw
      case rel=>exact⟨l+1,n+1,by omega,by go_num,by go_num,by omega,H,hx2,hy2⟩
      case measure=>simp [intOf];omega
    ·have hc:=uU (show n=cnt x.D k by have:=uH hcnt;rw[List.take_of_length_le (by omega)] at this;exact this);have f5:=hy2.keep (b:=WO.heap.size) (o:=5) (v:=.int .i64 (x.c k).J) (by simp [go_sem]);have d5:=(h.ext hx2).c5;have d6:=(h.ext hx2).c6;clear p0 p1 p2 p3 p4 p5 p6 p7 d8 hcnt;cases t1:((x.c k).J == 1)
     ·have t1':(x.c k).J≠1:=by simpa using t1
      have t1b:((x.c k).J != 1)=true:=by simpa using t1'
      by_cases hn0:0<n
      ·have N:=uU (show ¬R5 x from λr=>by have:=(r.2.1 k hlt).2.1 t1';have:=uH hc;omega);clear t1';go_wp2_with fail;go_ret;exact⟨false,rfl,⟨λf=>by simp at f,λr=>(N r).elim⟩,hx2⟩
      ·have hz:Hid (cnt x.D k=0):=by have:=uH hc;show _=_;omega
       cases t2:((x.c k).J == 2)
       ·have S:=uU (ST ⟨λe=>absurd e t1',λ_=>uH hz,λe=>by simp [e] at t2⟩);clear t1';go_wp2_with fail;go_roundw
        case rel=>exact⟨k+1,by omega,by go_num,S,hx2⟩
        case measure=>simp [intOf];omega
       ·have S:=uU (ST ⟨λe=>absurd e t1',λ_=>uH hz,λ_=>Or.inl MK⟩);clear t1';go_wp2_with fail;go_roundw
        case rel=>exact⟨k+1,by omega,by go_num,S,hx2⟩
        case measure=>simp [intOf];omega
     ·have t1':(x.c k).J=1:=by simpa using t1
      have t1b:((x.c k).J != 1)=false:=by simp [t1']
      have t1c:((x.c k).J == 2)=false:=by simp [t1']
      have TC:=uU t1';clear t1';by_cases hn1:n=1
      ·have hn2:((n:Int) != 1)=false:=by simp [hn1]
       have S:=uU (ST ⟨λ_=>by have:=uH hc;omega,λe=>absurd TC e,λe=>by have:=uH TC;omega⟩);clear hn1;go_wp2_with fail;go_roundw
       case rel=>exact⟨k+1,by omega,by go_num,S,hx2⟩
       case measure=>simp [intOf];omega
      ·have hn2:((n:Int) != 1)=true:=by simp;omega
       have N:=uU (show ¬R5 x from λr=>by have:=(r.2.1 k hlt).1 TC;have:=uH hc;omega);clear hn1;go_wp2_with fail;go_ret;exact⟨false,rfl,⟨λf=>by simp at f,λr=>(N r).elim⟩,hx2⟩
  ·have A1:=uU (show ∀j,j<x.A.length->eV x j from λj hj=>uH HA j (by omega));have d8:=(h.ext hbl).c8;go_wp2_with fail;clear hlt hk HA;go_loopw [102] (λi wr2=>∃l:Nat,l<=x.D.length/\i=.int .i64 l/\(∀j (hj:j<x.D.length),j<l->0<=x.D[j]/\x.D[j]<x.A.length)/\Ext w wr2) (λi _=>x.D.length-(intOf i).toNat)
   case atStart=>exact⟨0,Nat.zero_le _,rfl,λj hj h=>by omega,hbl⟩
   case round=>
    clear hbl d8;obtain⟨l,hl,rfl,hall,hx2⟩:=hrel;have HB:=uU hall;clear hall;by_cases hl2:l<x.D.length
    ·obtain⟨bg,og,rfl,pg⟩:=(h.ext hx2).G l hl2;unfold yD at pg;simp only [Nat.mul_one] at pg;have d4:=(h.ext hx2).c4;have hl0:(0:Int)<=(l:Int):=by omega
     have hl1:(l:Int)<(x.D.length:Int):=by omega
     by_cases t1:x.D[l]<0
     ·have N:=uU (show ¬R5 x from λr=>by have:=r.2.2 x.D[l] (List.getElem_mem hl2);omega);go_wp2_with fail;go_ret
      first | (exact Or.inl ⟨rfl,N,hx2⟩) | (exact⟨false,rfl,⟨λf=>by simp at f,λr=>(N r).elim⟩,hx2⟩)
     ·by_cases t2:(x.A.length:Int)<=x.D[l]
      ·have N:=uU (show ¬R5 x from λr=>by have:=r.2.2 x.D[l] (List.getElem_mem hl2);omega);go_wp2_with fail;go_ret
       first | (exact Or.inl ⟨rfl,N,hx2⟩) | (exact⟨false,rfl,⟨λf=>by simp at f,λr=>(N r).elim⟩,hx2⟩)
      ·have S:=uU (show ∀j (hj:j<x.D.length),j<l+1->0<=x.D[j]/\x.D[j]<x.A.length from λj hj hjl=>by
        by_cases e:j=l
        ·subst e;omega
        ·exact HB j hj (by omega))
       go_wp2_with fail;go_roundw
       case rel=>exact⟨l+1,by omega,by go_num,S,hx2⟩
       case measure=>simp [intOf];omega
    ·have Y:=uU (show R5 x from⟨G0,A1,λg hg=>by
      obtain⟨j,hj,rfl⟩:=List.getElem_of_mem hg;exact HB j hj (by omega)⟩)
     go_wp2_with fail;go_ret;exact⟨true,rfl,⟨λ_=>uH Y,λ_=>rfl⟩,hx2⟩
theorem c0w(x:Hp)(b:Nat)(w:World)(h:HAt w b x ar kr ac kc ag kg)(q1:(x.E == 1)=false)(q2:(x.E == 2)=false):
  Calls Tryz.prog 130 #[.pointer (some ⟨b,0,none⟩)] w λe w'=>∃r:Bool,e=.returned (.bool r)/\(r=true↔R5 x)/\Ext w w':=by
 have MK:=uU (show ¬uD x from λh=>by rcases h with h | h <;> simp [h] at q1 q2);have c4:=h.c4;have c5:=h.c5;have c8:=h.c8;have lc:=h.lc;have lg:=h.lg;by_cases hg:0<x.D.length
 ·have N:=uU (show ¬R5 x from λr=>by have:=r.1 MK;omega);go_enter Tryz.func130,Tryz.ntmps130;go_wp2_with fail;go_ret;exact⟨false,rfl,⟨λf=>by simp at f,λr=>(N r).elim⟩,Ext.refl _⟩
 have G0:=uU (show ¬uD x->x.D.length=0 from λ_=>by omega);go_enter Tryz.func130,Tryz.ntmps130;go_wp2_with fail;clear hg;go_loopw [38] (λi wr=>∃k:Nat,k<=x.A.length/\i=.int .i64 k/\(∀j,j<k->eV x j)/\Ext w wr) (λi _=>x.A.length-(intOf i).toNat)
 case atStart=>exact⟨0,Nat.zero_le _,rfl,λj h=>by omega,Ext.refl _⟩
 case round=>
  obtain⟨k,hk,rfl,hall,hbl⟩:=hrel;have HA:=uU hall;clear hall;by_cases hlt:k<x.A.length
  ·obtain⟨b',o,ap,kp,rfl,p0,p1,p2,p3,p4,p5,p6,p7,lp,P⟩:=(h.ext hbl).cell k hlt;clear P;have d8:=(h.ext hbl).c8;have hb':b'<wr.heap.size:=uL p0;have hb:b<wr.heap.size:=uL d8;have hk0:(0:Int)<=(k:Int):=by omega
   have hk1:(k:Int)<(x.A.length:Int):=by omega
   have hbl1:=hbl.alloc (.cells #[.int .i64 (x.c k).st,.int .i64 (x.c k).kind,.int .i64 (x.c k).T,.int .i64 (x.c k).U,.int .i64 (x.c k).born,.int .i64 (x.c k).J,.int .i64 (x.c k).to,.slice ap (x.c k).F.length kp] 62)
   have ST:=uU (show eV x k->∀j,j<k+1->eV x j from λhn j hj=>by
    by_cases e:j=k
    ·subst e;exact hn
    ·exact HA j (by omega))
   go_wp2_with fail;obtain⟨WO,hWO⟩:∃W:World,W=wr:=⟨_,rfl⟩;subst hWO;go_loopw [6,48] (λnv i wr2=>∃l n:Nat,l<=x.D.length/\i=.int .i64 l/\nv=.int .i64 n/\n<=l/\Hid (n=(x.D.take l).count (k:Int))/\Ext w wr2/\Ext (WO.alloc (.cells #[.int .i64 (x.c k).st,.int .i64 (x.c k).kind,.int .i64 (x.c k).T,.int .i64 (x.c k).U,.int .i64 (x.c k).born,.int .i64 (x.c k).J,.int .i64 (x.c k).to,.slice ap (x.c k).F.length kp] 62)) wr2) (λ_ i _=>x.D.length-(intOf i).toNat)
   case atStart=>exact⟨0,0,Nat.zero_le _,rfl,rfl,by omega,by show _=_;simp,hbl1,Ext.refl _⟩
   case round=>
    obtain⟨l,n,hl,rfl,rfl,hn,hcnt,hx2,hy2⟩:=hrel;by_cases hl2:l<x.D.length
    ·obtain⟨bg,og,rfl,pg⟩:=(h.ext hx2).G l hl2;unfold yD at pg;simp only [Nat.mul_one] at pg;clear p0 p1 p2 p3 p4 p5 p6 p7 d8;have hl0:(0:Int)<=(l:Int):=by omega
     have hl1:(l:Int)<(x.D.length:Int):=by omega
     have ct:=a8d x.D k l hl2;cases t:(x.D[l] == (k:Int))
     ·have H:Hid (n=(x.D.take (l+1)).count (k:Int)):=by have:=uH hcnt;show _=_;rw[ct,t];simpa using this
      clear ct;go_wp2_with fail;go_roundw
      case rel=>exact⟨l+1,n,by omega,by go_num,rfl,by omega,H,hx2,hy2⟩
      case measure=>simp [intOf];omega
     ·have H:Hid (n+1=(x.D.take (l+1)).count (k:Int)):=by have:=uH hcnt;show _=_;rw[ct,t,<-this];simp
      clear ct;go_wp2_with fail;go_roundw
      case rel=>exact⟨l+1,n+1,by omega,by go_num,by go_num,by omega,H,hx2,hy2⟩
      case measure=>simp [intOf];omega
    ·have hc:=uU (show n=cnt x.D k by have:=uH hcnt;rw[List.take_of_length_le (by omega)] at this;exact this);have f5:=hy2.keep (b:=WO.heap.size) (o:=5) (v:=.int .i64 (x.c k).J) (by simp [go_sem]);have d5:=(h.ext hx2).c5;have d6:=(h.ext hx2).c6;clear p0 p1 p2 p3 p4 p5 p6 p7 d8 hcnt;cases t1:((x.c k).J == 1)
     ·have t1':(x.c k).J≠1:=by simpa using t1
      have t1b:((x.c k).J != 1)=true:=by simpa using t1'
      by_cases hn0:0<n
      ·have N:=uU (show ¬R5 x from λr=>by have:=(r.2.1 k hlt).2.1 t1';have:=uH hc;omega);clear t1';go_wp2_with fail;go_ret;exact⟨false,rfl,⟨λf=>by simp at f,λr=>(N r).elim⟩,hx2⟩
      ·have hz:Hid (cnt x.D k=0):=by have:=uH hc;show _=_;omega
       cases t2:((x.c k).J == 2)
       ·have S:=uU (ST ⟨λe=>absurd e t1',λ_=>uH hz,λe=>by simp [e] at t2⟩);clear t1';go_wp2_with fail;go_roundw
        case rel=>exact⟨k+1,by omega,by go_num,S,hx2⟩
        case measure=>simp [intOf];omega
       ·cases t3:(x.E == 3)
        ·have t3b:(x.E != 3)=true:=by simpa using t3
         have N:=uU (show ¬R5 x from λr=>by
          rcases (r.2.1 k hlt).2.2 (by simpa using t2) with m | m
          ·exact MK m
          ·simp [m.1] at t3)
         clear t1';go_wp2_with fail;go_ret;exact⟨false,rfl,⟨λf=>by simp at f,λr=>(N r).elim⟩,hx2⟩
        ·have t3b:(x.E != 3)=false:=by simpa using t3
         by_cases t4:(k:Int)<x.I
         ·have N:=uU (show ¬R5 x from λr=>by
           rcases (r.2.1 k hlt).2.2 (by simpa using t2) with m | m
           ·exact MK m
           ·omega)
          clear t1';go_wp2_with fail;go_ret;exact⟨false,rfl,⟨λf=>by simp at f,λr=>(N r).elim⟩,hx2⟩
         ·have S:=uU (ST ⟨λe=>absurd e t1',λ_=>uH hz,λ_=>Or.inr ⟨by simpa using t3,by omega⟩⟩);clear t1';go_wp2_with fail;go_roundw
          case rel=>exact⟨k+1,by omega,by go_num,S,hx2⟩
          case measure=>simp [intOf];omega
     ·have t1':(x.c k).J=1:=by simpa using t1
      have t1b:((x.c k).J != 1)=false:=by simp [t1']
      have t1c:((x.c k).J == 2)=false:=by simp [t1']
      have TC:=uU t1';clear t1';by_cases hn1:n=1
      ·have hn2:((n:Int) != 1)=false:=by simp [hn1]
       have S:=uU (ST ⟨λ_=>by have:=uH hc;omega,λe=>absurd TC e,λe=>by have:=uH TC;omega⟩);clear hn1;go_wp2_with fail;go_roundw
       case rel=>exact⟨k+1,by omega,by go_num,S,hx2⟩
       case measure=>simp [intOf];omega
      ·have hn2:((n:Int) != 1)=true:=by simp;omega
       have N:=uU (show ¬R5 x from λr=>by have:=(r.2.1 k hlt).1 TC;have:=uH hc;omega);clear hn1;go_wp2_with fail;go_ret;exact⟨false,rfl,⟨λf=>by simp at f,λr=>(N r).elim⟩,hx2⟩
  ·have A1:=uU (show ∀j,j<x.A.length->eV x j from λj hj=>uH HA j (by omega));have d8:=(h.ext hbl).c8;go_wp2_with fail;clear hlt hk HA;go_loopw [102] (λi wr2=>∃l:Nat,l<=x.D.length/\i=.int .i64 l/\(∀j (hj:j<x.D.length),j<l->0<=x.D[j]/\x.D[j]<x.A.length)/\Ext w wr2) (λi _=>x.D.length-(intOf i).toNat)
   case atStart=>exact⟨0,Nat.zero_le _,rfl,λj hj h=>by omega,hbl⟩
   case round=>
    clear hbl d8;obtain⟨l,hl,rfl,hall,hx2⟩:=hrel;have HB:=uU hall;clear hall;by_cases hl2:l<x.D.length
    ·obtain⟨bg,og,rfl,pg⟩:=(h.ext hx2).G l hl2;unfold yD at pg;simp only [Nat.mul_one] at pg;have d4:=(h.ext hx2).c4;have hl0:(0:Int)<=(l:Int):=by omega
     have hl1:(l:Int)<(x.D.length:Int):=by omega
     by_cases t1:x.D[l]<0
     ·have N:=uU (show ¬R5 x from λr=>by have:=r.2.2 x.D[l] (List.getElem_mem hl2);omega);go_wp2_with fail;go_ret
      first | (exact Or.inl ⟨rfl,N,hx2⟩) | (exact⟨false,rfl,⟨λf=>by simp at f,λr=>(N r).elim⟩,hx2⟩)
     ·by_cases t2:(x.A.length:Int)<=x.D[l]
      ·have N:=uU (show ¬R5 x from λr=>by have:=r.2.2 x.D[l] (List.getElem_mem hl2);omega);go_wp2_with fail;go_ret
       first | (exact Or.inl ⟨rfl,N,hx2⟩) | (exact⟨false,rfl,⟨λf=>by simp at f,λr=>(N r).elim⟩,hx2⟩)
      ·have S:=uU (show ∀j (hj:j<x.D.length),j<l+1->0<=x.D[j]/\x.D[j]<x.A.length from λj hj hjl=>by
        by_cases e:j=l
        ·subst e;omega
        ·exact HB j hj (by omega))
       go_wp2_with fail;go_roundw
       case rel=>exact⟨l+1,by omega,by go_num,S,hx2⟩
       case measure=>simp [intOf];omega
    ·have Y:=uU (show R5 x from⟨G0,A1,λg hg=>by
      obtain⟨j,hj,rfl⟩:=List.getElem_of_mem hg;exact HB j hj (by omega)⟩)
     go_wp2_with fail;go_ret;exact⟨true,rfl,⟨λ_=>uH Y,λ_=>rfl⟩,hx2⟩
theorem b6c(x:Hp)(b:Nat)(w:World)(h:HAt w b x ar kr ac kc ag kg):
  Calls Tryz.prog 130 #[.pointer (some ⟨b,0,none⟩)] w λe w'=>∃r:Bool,e=.returned (.bool r)/\(r=true↔R5 x)/\Ext w w':=by
 cases q1:(x.E == 1)
 ·cases q2:(x.E == 2)
  ·exact c0w x b w h q1 q2
  ·exact c0v x b w h q1 q2
 ·exact c0u x b w h q1
end Go.Proofs.YtddkhnclmeikfaaGreat
