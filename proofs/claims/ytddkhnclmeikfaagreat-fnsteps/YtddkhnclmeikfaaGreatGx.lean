import Derived.Test.YtddkhnclmeikfaaGreatFr0
import Derived.Lib.AppendZerosOnto
import Derived.Lib.Walk
set_option maxRecDepth 100000
set_option maxHeartbeats 4000000
namespace Go.Proofs.YtddkhnclmeikfaaGreat
open Go.RowKit
attribute [local go_sem ↓] Go.wp_at_zero Go.wp_at_succ
variable{B b kr g br c m kc kg C bn hd:Nat}{w v:World}{x:Hp}{ar ac ag:Option Addr}{pb pk role cB cO:Nat->Nat}{pa:Nat->Option Addr}{v4 v8 vf vk:Value}{F:List Int}
def frH(n:Int):Hp:=⟨n,0,0,List.replicate 16 ⟨0,0,0⟩,[],0,0,0,[],0,0,0,0⟩
theorem frH_snd(n:Int)(h1:1<=n)(h2:n<=4000):Snd (frH n):=by
 have hc:(frH n).cells=[]:=rfl;refine⟨⟨⟨h1,h2⟩,by simp [frH],by simp [frH];omega,by simp [frH],by simp [frH],by simp [frH],by simp [frH],by simp [frH],by simp [frH],by simp [frH],by simp [frH],by simp [frH]⟩,⟨λi hi=>by simp [hc] at hi,λi hi=>by simp [hc] at hi⟩,⟨by simp [frH,dN],by simp [frH];omega⟩,⟨λi hi=>?_,λi hi=>by simp [hc] at hi⟩,⟨λ_=>rfl,λi hi=>by simp [hc] at hi,λq hq=>by simp [frH] at hq⟩,⟨λ_=>⟨rfl,rfl⟩,λe=>by simp [frH] at e,λe=>by simp [frH] at e,λ_=>rfl⟩,λ_ i hi=>by simp [hc] at hi,λi hi=>by simp [hc] at hi⟩;have e:(frH n).regs[i]=⟨0,0,0⟩:=List.eq_of_mem_replicate (n:=16) (List.getElem_mem hi);rw[e];exact⟨.inl ⟨rfl,rfl,rfl⟩,λh=>by cases h⟩
theorem zw_cell(w:World)(t:TypeId)(j:Nat)(hj:j<48):(w.alloc (.cells (zw 48) t)).cell? ⟨w.heap.size,j,none⟩=some (iv 0):=by
 have:=heap_alloc_new w (.cells (zw 48) t);unfold World.cell?;simp only [this];simp [zw,hj]
theorem b5x(w:World)(c:Array Value)(t:TypeId):Nf1 w.heap.size (w.alloc (.cells c t)):=⟨by simp [go_sem],λj=>by simp [go_sem]⟩
theorem c8a(S:Nat->Prop)(n:Int)(w:World)(hS:∀q,S q->q<w.heap.size):GG S w.heap.size ((w.alloc (.cells (zw 48) 152)).alloc (.cells #[iv n,iv 0,iv 0,.slice (some ⟨w.heap.size,0,none⟩) 16 16,.slice none 0 0,iv 0,iv 0,iv 0,.slice none 0 0,iv 0,iv 0,iv 0,iv 0] 34)) (w.heap.size+1) (frH n):=by
 have x0:=(Ext.refl w).alloc (.cells (zw 48) 152);have N0:=b5x w (zw 48) 152;have Z:=λj hj=>zw_cell w 152 j hj
 obtain⟨W0,h0⟩:∃W0,W0=w.alloc (.cells (zw 48) 152):=⟨_,rfl⟩;rw[<-h0] at x0 N0 Z ⊢;have s0:W0.heap.size=w.heap.size+1:=by rw[h0];simp [go_sem]
 clear h0;have x1:=(Ext.refl W0).alloc (.cells #[iv n,iv 0,iv 0,.slice (some ⟨w.heap.size,0,none⟩) 16 16,.slice none 0 0,iv 0,iv 0,iv 0,.slice none 0 0,iv 0,iv 0,iv 0,iv 0] 34);have N1:=b5x W0 #[iv n,iv 0,iv 0,.slice (some ⟨w.heap.size,0,none⟩) 16 16,.slice none 0 0,iv 0,iv 0,iv 0,.slice none 0 0,iv 0,iv 0,iv 0,iv 0] 34;have HB:=dW.new W0 (frH n) (.slice (some ⟨w.heap.size,0,none⟩) 16 16) (.slice none 0 0) (.slice none 0 0) 34;rw[s0] at N1 HB;obtain⟨W1,h1⟩:∃W1,W1=W0.alloc (.cells #[iv n,iv 0,iv 0,.slice (some ⟨w.heap.size,0,none⟩) 16 16,.slice none 0 0,iv 0,iv 0,iv 0,.slice none 0 0,iv 0,iv 0,iv 0,iv 0] 34):=⟨_,rfl⟩;have HB:dW (W0.alloc (.cells #[iv n,iv 0,iv 0,.slice (some ⟨w.heap.size,0,none⟩) 16 16,.slice none 0 0,iv 0,iv 0,iv 0,.slice none 0 0,iv 0,iv 0,iv 0,iv 0] 34)) (w.heap.size+1) (frH n) (.slice (some ⟨w.heap.size,0,none⟩) 16 16) (.slice none 0 0) (.slice none 0 0):=HB;rw[<-h1] at x1 N1 HB ⊢;clear h1;have e:(frH n).regs.length=16:=by simp [frH]
 have ec:(frH n).cells=[]:=rfl;refine⟨λq=>if q<w.heap.size then W1.heap[q]? else none,λq hq=>?_,some ⟨w.heap.size,0,none⟩,16,none,0,.slice none 0 0,w.heap.size,0,λ_=>0,λ_=>none,λ_=>0,λq=>if q=w.heap.size+1 then 0 else if q=w.heap.size then 2 else 1,?_⟩
 ·have:=hS q hq;simp only [this,if_true];exact a4p (by have:=x1.size;omega)
 ·letI:Inhabited uN:=⟨⟨λq=>if q<w.heap.size then W1.heap[q]? else none⟩⟩
  refine⟨by rw[e];exact HB,N1,by omega,λ_=>rfl,λh=>by simp [ec] at h,⟨λi hi=>?_,λq hq=>by simp [ec] at hq,λq hq=>by simp [ec] at hq,λq hq=>by simp [ec] at hq,λq hq=>by simp [ec] at hq,λ_=>⟨N0.ext x1,Nat.le_refl _⟩,λh=>by simp [ec] at h,λh=>by simp [ec] at h,λq _ hq=>by simp [ec] at hq,λq hq=>by simp [ec] at hq⟩,.inl ⟨rfl,rfl⟩,⟨if_pos rfl,λ_=>by rw[if_neg (by omega),if_pos rfl],λh=>by simp [ec] at h,λq hq=>by simp [Value.ownBlock] at hq,λq hq=>by simp [ec] at hq⟩,by simp [ec],λq o hq=>?_,λh=>by omega⟩
  ·have hi2:i<16:=e ▸ hi;have e3:(frH n).regs[i]=⟨0,0,0⟩:=List.eq_of_mem_replicate (n:=16) (List.getElem_mem hi);exact(congrArg (tW W1 w.heap.size (i*3)) e3).mpr ⟨x1.keep (Z _ (by omega)),x1.keep (Z _ (by omega)),x1.keep (Z _ (by omega))⟩
  ·have hq:(if q<w.heap.size then W1.heap[q]? else none)=some o:=hq
   split at hq
   ·exact⟨by rw[if_neg (by omega),if_neg (by omega)],hq⟩
   ·cases hq
theorem c4o(v w:World)(c m:Nat)(h:Cu v w c m)(hm:m<=99999):
  Calls Tryz.prog 93 #[.pointer (some ⟨c,0,none⟩)] w λe w'=>∃r:Int,Hid (e=.returned (iv r))/\1<=r/\r<=4000/\Hid (Cu v w' c (m+4)):=by
 have CU:=uU h;clear h;go_enter Tryz.func93,Tryz.ntmps93;go_wp2_with (go_at_call 54;refine(b5e v _ c _ _ CU (by omega) (by omega) (by omega)).mono ?_;rintro e w1 ⟨r,he,r0,r1,cu,o⟩;have e2:=uH he;subst e2;clear he o CU;have CU:=cu;clear cu)
 all_goals
  go_ret;exact⟨_,rfl,by omega,by omega,CU⟩
theorem c0k(v w:World)(c m:Nat)(n:Int)(h1:1<=n)(h2:n<=4000)(h:Cu v w c m):
  Calls Tryz.prog 94 #[.pointer (some ⟨c,0,none⟩),iv n] w λe w'=>∃b g B,Hid (e=.returned (.pointer (some ⟨b,0,none⟩)))/\Hid (Bd B v w' b c g m):=by
 have CU:=uU h;have GF:=uU (c8a (λq=>q=c) n w (λq e=>by have:=h.2.2.1.1;omega));have XF:=uU (((Ext.refl w).alloc (.cells (zw 48) 152)).alloc (.cells #[iv n,iv 0,iv 0,.slice (some ⟨w.heap.size,0,none⟩) 16 16,.slice none 0 0,iv 0,iv 0,iv 0,.slice none 0 0,iv 0,iv 0,iv 0,iv 0] 34));have SF:=uU (show((w.alloc (.cells (zw 48) 152)).alloc (.cells #[iv n,iv 0,iv 0,.slice (some ⟨w.heap.size,0,none⟩) 16 16,.slice none 0 0,iv 0,iv 0,iv 0,.slice none 0 0,iv 0,iv 0,iv 0,iv 0] 34)).heap.size=w.heap.size+2 by simp [go_sem]);clear h;have Q:=uU (b8e n w);go_enter Tryz.func94,Tryz.ntmps94;go_wp2_with fail;refine Q.mono ?_;rintro e w1 ⟨rfl,hw⟩;rw[<-hw] at GF XF SF;clear hw Q;go_wp2_with fail;go_ret;have xb:=(Ext.refl w1).alloc (.cells #[.pointer (some ⟨c,0,none⟩),.pointer (some ⟨w.heap.size+1,0,none⟩),.slice none 0 0,iv 400] 145);have nb:=b5x w1 #[.pointer (some ⟨c,0,none⟩),.pointer (some ⟨w.heap.size+1,0,none⟩),.slice none 0 0,iv 400] 145;have hc:=CU.2.2.1.1;have hv:=CU.1.size;have hs:=uH SF;refine⟨w1.heap.size,w.heap.size+1,w.heap.size,rfl,frH n,[],.slice none 0 0,400,⟨frH_snd n h1 h2,λa ha=>(by simp at ha),by simp,CU.blk ((CU.1.trans XF).trans xb) (by rw[xb.block c (by omega)];exact XF.block c hc),hv,by omega,by omega,nb,by simp [go_sem],by simp [go_sem],by simp [go_sem],by simp [go_sem],World.ownsRow_nil _ _ _ _,by simp [Value.ownBlock],by simp [Value.ownBlock],GF.more xb (λq hq=>?_)⟩⟩;rcases hq with e | e | e
 ·exact .inr ⟨by omega,by rw[e];exact nb.1⟩
 ·exact .inl e
 ·simp [Value.ownBlock] at e
theorem a1x(h:Bd B v w b c g m):∃p:Int,w.cell? ⟨g,5,none⟩=some (iv p)/\
  Hid (p≠0->Calls Tryz.prog 116 #[.pointer (some ⟨g,0,none⟩)] w λe w'=>e=.returned (.tuple #[])/\Hid (Bd B v w' b c g m))/\
  Hid (p=0->Calls Tryz.prog 115 #[.pointer (some ⟨g,0,none⟩)] w λe w'=>e=.returned (.tuple #[])/\Hid (Bd B v w' b c g m)/\w'.cell? ⟨g,5,none⟩=some (iv 1)):=by
 obtain⟨x,L,va,lf,h⟩:=h;obtain⟨p,h1,h2⟩:=h.gg.call;refine⟨x.phase,h1.box.2.2.1,λe=>?_,λe=>?_⟩
 ·exact(a5c B g x w h1 h.s e v h.vB h.cu.1).mono λ_ w' ⟨e1,g1,x1⟩=>⟨e1,_,L,va,lf,h.blk x1 h.s.unit (h2 _ _ g1).1 (h2 _ _ g1).2⟩
 ·exact(a3y B g x w h1 v h.vB h.cu.1).mono λ_ w' ⟨e1,g1,x1⟩=>⟨e1,⟨_,L,va,lf,h.blk x1 (h.s.begin e) (h2 _ _ g1).1 (h2 _ _ g1).2⟩,g1.box.2.2.1⟩
def c8b(v:World)(c:Nat)(e:Ending)(w':World):Prop:=∃b g B m,Hid (e=.returned (.pointer (some ⟨g,0,none⟩)))/\Hid (Bd B v w' b c g m)/\m<=999999
theorem c4p(v w:World)(c m:Nat)(h:Cu v w c m)(hm:m<=9999):
  Calls Tryz.prog 69 #[.pointer (some ⟨c,0,none⟩)] w λe w'=>c8b v c e w':=by
 have CU:=uU h;clear h;go_enter Tryz.func69,Tryz.ntmps69;go_wp2_with fail;refine(c4o v w c m CU (by omega)).mono ?_;rintro e w1 ⟨n,he,n1,n2,CU⟩;have e2:=uH he;subst e2;go_wp2_with fail;refine(c0k v w1 c _ n n1 n2 CU).mono ?_;rintro e w2 ⟨b,g,B,he,BD⟩;have e2:=uH he;subst e2;clear he CU;have b0:=BD.c0;have b1:=BD.c1;obtain⟨p,c5,UN,BE⟩:=a1x BD;go_wp2_with fail;refine(zE B v _ b c g _ _ BD (by omega) (by omega) (by omega)).mono ?_;rintro e w1 ⟨ph,he,ph0,ph1,bd⟩;have e2:=uH he;subst e2;clear he;clear BD b0 b1 c5 UN BE;have BD:=bd;have b0:=BD.c0;have b1:=BD.c1;obtain⟨p,c5,UN,BE⟩:=a1x BD;clear bd;go_wp2_with (go_at_call 54;refine(zE B v _ b c g _ _ BD (by omega) (by omega) (by omega)).mono ?_;rintro e w1 ⟨r,he,r0,r1,bd⟩;have e2:=uH he;subst e2;clear he;clear BD b0 b1 c5 UN BE;have BD:=bd;have b0:=BD.c0;have b1:=BD.c1;obtain⟨p,c5,UN,BE⟩:=a1x BD;clear bd);go_loopw [5] (λi wr=>∃k:Nat,k<=8/\i=.int .i64 k/\Hid (Bd B v wr b c g (m+10+(8-k)*300))) (λi _=>(intOf i).toNat)
 case atStart=>exact⟨(1+r).toNat,by omega,by rw[Int.toNat_of_nonneg (by omega)],BD.more (by omega)⟩
 case round=>
  clear b0 b1 c5 UN BE BD;obtain⟨k,hk,rfl,BD⟩:=hrel;have b0:=BD.c0;have b1:=BD.c1;obtain⟨p,c5,UN,BE⟩:=a1x BD;by_cases hlt:(k:Int) > 0
  ·go_wp2_with (go_at_call 95;refine(bsome B v _ b c g _ BD (by omega)).mono ?_;rintro e w1 ⟨rfl,bd⟩;clear BD b0 b1 c5 UN BE;have BD:=bd;have b0:=BD.c0;have b1:=BD.c1;obtain⟨p,c5,UN,BE⟩:=a1x BD;clear bd);go_roundw
   ·exact⟨k-1,by omega,by rw[Int.ofNat_sub (by omega)];rfl,BD.more (by omega)⟩
   ·simp [intOf];omega
  ·go_upto_if 37 with(go_at_call 54;refine(zE B v _ b c g _ _ BD (by omega) (by omega) (by omega)).mono ?_;rintro e w1 ⟨r,he,r0,r1,bd⟩;have e2:=uH he;subst e2;clear he;clear BD b0 b1 c5 UN BE;have BD:=bd;have b0:=BD.c0;have b1:=BD.c1;obtain⟨p,c5,UN,BE⟩:=a1x BD;clear bd)
   ·go_ret;exact⟨b,g,B,_,rfl,BD,by omega⟩
   go_cut [] (λwx=>Hid (Bd B v wx b c g (m+3000)))
   case first=>
    cases t:(p == 0)
    ·go_wp2_with fail;go_meet;exact BD.more (by omega)
    ·go_wp2_with (go_at_call 115;refine(BE (by have:=‹(p == 0)=true›;simpa using this)).mono ?_;rintro e w1 ⟨rfl,bd,q5⟩;clear BD b0 b1 c5 UN BE;have BD:=bd;have b0:=BD.c0;have b1:=BD.c1;obtain⟨p,c5,UN,BE⟩:=a1x BD;clear bd;have pn:p≠0:=by rw[q5] at c5;simp at c5;omega);go_meet;exact BD.more (by omega)
   case rest=>
    clear b0 b1 c5 UN BE BD;have BD:=hcut;go_wp2_with fail;go_loopw [6] (λi wr=>∃k:Nat,k<=20000/\i=.int .i64 k/\Hid (Bd B v wr b c g (m+3000))) (λi _=>20000-(intOf i).toNat)
    case atStart=>exact⟨0,by omega,rfl,BD⟩
    case round=>
     clear BD;obtain⟨k,hk,rfl,BD⟩:=hrel;have b0:=BD.c0;have b1:=BD.c1;obtain⟨p,c5,UN,BE⟩:=a1x BD;obtain⟨W,hW⟩:∃W,W=wr:=⟨_,rfl⟩;subst hW
     go_upto_region 12 with(fail)
     go_cut [59] (λs wx=>wx=W/\∃t:Bool,s=.bool t/\Hid (t=true->(k:Int)<20000))
     case first=>
      rcases (show((k:Int)<20000/\(p != ph)=true/\ph<=6)\/((k:Int)<20000/\(p != ph)=true/\¬ph<=6)\/((k:Int)<20000/\(p != ph)=false)\/¬(k:Int)<20000 by cases (p != ph) <;> simp <;> omega) with⟨h1,h2,h3⟩ | ⟨h1,h2,h3⟩ | ⟨h1,h2⟩ | h1
      all_goals
       go_wp2_with fail;go_meet;exact⟨rfl,_,rfl,λe=>by first | omega | cases e⟩
     case rest=>
      obtain⟨rfl,t,rfl,ht⟩:=hcut;cases t
      ·go_wp2_with (go_at_call 54;refine(zE B v _ b c g _ _ BD (by omega) (by omega) (by omega)).mono ?_;rintro e w1 ⟨r,he,r0,r1,bd⟩;have e2:=uH he;subst e2;clear he;clear BD b0 b1 c5 UN BE;have BD:=bd;have b0:=BD.c0;have b1:=BD.c1;obtain⟨p,c5,UN,BE⟩:=a1x BD;clear bd);go_loopw [7] (λi wr=>∃k:Nat,k<=6/\i=.int .i64 k/\Hid (Bd B v wr b c g (m+4000+(6-k)*30))) (λi _=>(intOf i).toNat)
       case atStart=>exact⟨r.toNat,by omega,by rw[Int.toNat_of_nonneg (by omega)],BD.more (by omega)⟩
       case round=>
        clear b0 b1 c5 UN BE BD;obtain⟨k,hk,rfl,BD⟩:=hrel;have b0:=BD.c0;have b1:=BD.c1;obtain⟨p,c5,UN,BE⟩:=a1x BD;by_cases hlt:(k:Int) > 0
        ·go_wp2_with (first | (go_at_call 54;refine(zE B v _ b c g _ _ BD (by omega) (by omega) (by omega)).mono ?_;rintro e w1 ⟨r,he,r0,r1,bd⟩;have e2:=uH he;subst e2;clear he;clear BD b0 b1 c5 UN BE;have BD:=bd;have b0:=BD.c0;have b1:=BD.c1;obtain⟨p,c5,UN,BE⟩:=a1x BD;clear bd) | (go_at_call 117;refine(bact B v _ b c g _ BD (by omega)).mono ?_;rintro e w1 ⟨rfl,bd⟩;clear BD b0 b1 c5 UN BE;have BD:=bd;have b0:=BD.c0;have b1:=BD.c1;obtain⟨p,c5,UN,BE⟩:=a1x BD;clear bd) | (go_at_call 116;refine(UN (by first | exact pn | (have:=‹(p != 0)=true›;simpa using this) | (have:=‹(p == 0)=false›;simpa using this))).mono ?_;rintro e w1 ⟨rfl,bd⟩;clear BD b0 b1 c5 UN BE;have BD:=bd;have b0:=BD.c0;have b1:=BD.c1;obtain⟨p,c5,UN,BE⟩:=a1x BD;clear bd))
         all_goals
          go_roundw
          ·exact⟨k-1,by omega,by rw[Int.ofNat_sub (by omega)];rfl,BD.more (by omega)⟩
          ·simp [intOf];omega
        ·go_wp2_with fail;go_ret;exact⟨b,g,B,_,rfl,BD,by omega⟩
      ·have h1:=uH ht rfl
       go_upto_if 69 with(fail)
       go_cut [] (λwx=>Hid (Bd B v wx b c g (m+3000))/\∃q:Int,wx.cell? ⟨g,5,none⟩=some (iv q)/\q≠0)
       case first=>
        cases t:(p == 0)
        ·go_wp2_with fail;go_meet;exact⟨BD,p,c5,by simpa using t⟩
        ·go_wp2_with (go_at_call 115;refine(BE (by simpa using t)).mono ?_;rintro e w1 ⟨rfl,bd,q5⟩);go_meet;exact⟨bd,1,q5,by omega⟩
       case rest=>
        clear BD b0 b1 c5 UN BE;obtain⟨BD,q,q5,qn⟩:=hcut;have b0:=BD.c0;have b1:=BD.c1;obtain⟨p,c5,UN,BE⟩:=a1x BD;have pn:p≠0:=by rw[q5] at c5;simp at c5;omega
        go_wp2_with (go_at_call 116;refine(UN (by first | exact pn | (have:=‹(p != 0)=true›;simpa using this) | (have:=‹(p == 0)=false›;simpa using this))).mono ?_;rintro e w1 ⟨rfl,bd⟩;clear BD b0 b1 c5 UN BE;have BD:=bd;have b0:=BD.c0;have b1:=BD.c1;obtain⟨p,c5,UN,BE⟩:=a1x BD;clear bd);go_roundw
        ·exact⟨k+1,by omega,by go_num,BD⟩
        ·simp [intOf];omega
def ByAt(w:World)(v:Value):Prop:=∃(ad:Option Addr) (n k:Nat),v=.slice ad n k/\n<=1048576/\∀i,i<n->∃b o z,ad=some ⟨b,o,none⟩/\w.cell? ⟨b,o+i,none⟩=some (.int .u8 z)/\0<=z/\z<256
def HV(w:World)(x:Hp)(ar:Option Addr)(kr:Nat)(ac:Option Addr)(kc:Nat)(ag:Option Addr)(kg:Nat):Prop:=HRd w x ar kr ac kc ag kg/\a4d w x ac
theorem GAt.hv[Inhabited uN]{bc:Nat}(hg:GAt B w g x ar kr ac kc (.slice ag x.gray.length kg) br bc pb pa pk role)(s:Snd x):HV w x ar kr ac kc ag kg:=by
 refine⟨hg.rd (by rw[s.r1.regs];omega) (by have:=s.ok.n8;omega) (λq hq=>s.ok.p200 q hq) (by have:=s.r1.gray;have:=s.ok.n8;omega),λi hi bc2 oc ad l c ha hc=>.inl ?_⟩;have hn:0<x.cells.length:=by omega
 rw[hg.hc hn] at ha;simp only [Option.some.injEq,Addr.mk.injEq] at ha;obtain⟨rfl,rfl,_⟩:=ha;rw[Nat.zero_add,hg.rw.p7 i hi] at hc;simp only [Option.some.injEq,Value.slice.injEq] at hc;obtain⟨_,rfl,rfl⟩:=hc;exact hg.rw.kp i hi
theorem Bd.hv(h:Bd B v w b c g m):∃(x:Hp) (ar:Option Addr) (kr:Nat) (ac:Option Addr) (kc:Nat) (ag:Option Addr) (kg:Nat),Hid (Snd x)/\dW w g x (.slice ar x.regs.length kr) (.slice ac x.cells.length kc) (.slice ag x.gray.length kg)/\Hid (∀W,uX (λq=>q<B) w W->HV W x ar kr ac kc ag kg)/\v.heap.size<=B/\B<=g:=by
 obtain⟨x,L,va,lf,h⟩:=h;have s:=h.s;obtain⟨z,_,ar,kr,ac,kc,vg,br,bc,pb,pa,pk,role,hg⟩:=h.gg;obtain⟨bx,nf,lo,ha,hc,rs,gr,sp,kl,pr,cc⟩:=hg
 letI:Inhabited uN:=⟨⟨λ_=>none⟩⟩
 obtain⟨ag,kg,hvg⟩:∃a k,vg=.slice a x.gray.length k:=gr.form;subst hvg;have hg:GAt B w g x ar kr ac kc (.slice ag x.gray.length kg) br bc pb pa pk role:=⟨bx,nf,lo,ha,hc,rs,gr,sp,kl,(λq o hq=>by cases hq),cc⟩;exact⟨x,ar,kr,ac,kc,ag,kg,s,bx,λW o=>(GAt.low (λ_=>rfl) hg o (λq e=>e)).hv s,h.vB,lo⟩
theorem c4q(w:World)(u:Value)(h:ByAt w u):
  Calls Tryz.prog 23 #[u] w λe w'=>∃(x:Hp) (ar:Option Addr) (kr:Nat) (ac:Option Addr) (kc:Nat) (ag:Option Addr) (kg:Nat),Hid (e=.returned (x.v (.slice ar x.regs.length kr) (.slice ac x.cells.length kc) (.slice ag x.gray.length kg)))/\Hid (Snd x)/\Hid (HV w' x ar kr ac kc ag kg)/\Ext w w':=by
 obtain⟨ad,n,k,rfl,hn,hx⟩:=h;obtain⟨v,hv⟩:∃v,v=w.alloc (.cells #[iv 0,iv 0,iv 0,.slice none 0 0,.slice none 0 0,iv 0,iv 0,iv 0,.slice none 0 0,iv 0,iv 0,iv 0,iv 0] 34):=⟨_,rfl⟩;have xv:Ext w v:=by rw[hv];exact(Ext.refl w).alloc _
 have sv:v.heap.size=w.heap.size+1:=by rw[hv];simp [go_sem]
 have CU:=uU (show Cu v (v.alloc (.cells #[.slice ad n k,iv 0,.int .u64 0] 79)) v.heap.size 0 from⟨(Ext.refl v).alloc _,Nat.le_refl _,⟨by simp [go_sem],λj=>by simp [go_sem]⟩,ad,n,k,0,0,by simp [go_sem],by simp [go_sem],by simp [go_sem],by omega,by omega,hn,λi hi=>let ⟨b,o,z,e,c,r⟩:=hx i hi;⟨b,o,z,e,xv.keep c,r⟩⟩);have Q:=uU (c4p v _ v.heap.size 0 CU (by omega))
 have RC:=uU (show(∀o,o<13->∃u,v.cell? ⟨w.heap.size,o,none⟩=some u)/\∀o,v.frozen? ⟨w.heap.size,o,none⟩=false from⟨λo ho=>by
  rw[hv]
  match o,ho with
  | 0,_ | 1,_ | 2,_ | 3,_ | 4,_ | 5,_ | 6,_ | 7,_ | 8,_ | 9,_ | 10,_ | 11,_ | 12,_=>exact⟨_,by simp [go_sem];rfl⟩,λo=>by rw[hv];simp [go_sem]⟩)
 clear CU hx;go_enter Tryz.func23,Tryz.ntmps23;go_wp2_with fail;rw[<-hv,<-sv];refine Q.mono ?_;rintro e w3 ⟨b,g,B,m,he,bd,_⟩;have e2:=uH he;subst e2;obtain⟨x,ar,kr,ac,kc,ag,kg,S,bx,HR,vB,Bg⟩:=bd.hv;have X3:=bd.cu.1;obtain⟨d0,d1,d2,d3,d4,d5,d6,d7,d8,d9,d10,d11,d12⟩:=bx;have hg3:g<w3.heap.size:=uL d0;obtain⟨r,hr⟩:∃r,r=w.heap.size:=⟨_,rfl⟩;have rB:r<B:=by omega
 have XW:=uU (xv.trans X3);have RF:=uU (show ∀o,w3.frozen? ⟨r,o,none⟩=false from λo=>by rw[(cZ X3).2 r o (by omega),hr];exact RC.2 o);have RV:=uU (λo (ho:o<13)=>show ∃u,w3.cell? ⟨r,o,none⟩=some u from let ⟨u,hu⟩:=RC.1 o ho;⟨u,by rw[hr];exact X3.keep hu⟩);have ng:¬g=r:=by omega
 have ng2:¬r=g:=by omega
 have hr3:r<w3.heap.size:=by have:=X3.size;omega
 obtain⟨u0,r0⟩:=RV 0 (by omega);obtain⟨u1,r1⟩:=uH RV 1 (by omega);obtain⟨u2,r2⟩:=uH RV 2 (by omega);obtain⟨u3,r3⟩:=uH RV 3 (by omega);obtain⟨u4,r4⟩:=uH RV 4 (by omega);obtain⟨u5,r5⟩:=uH RV 5 (by omega);obtain⟨u6,r6⟩:=uH RV 6 (by omega);obtain⟨u7,r7⟩:=uH RV 7 (by omega);obtain⟨u8,r8⟩:=uH RV 8 (by omega);obtain⟨u9,r9⟩:=uH RV 9 (by omega);obtain⟨u10,r10⟩:=uH RV 10 (by omega);obtain⟨u11,r11⟩:=uH RV 11 (by omega);obtain⟨u12,r12⟩:=uH RV 12 (by omega);have f0:=uH RF 0;have f1:=uH RF 1;have f2:=uH RF 2;have f3:=uH RF 3;have f4:=uH RF 4;have f5:=uH RF 5;have f6:=uH RF 6;have f7:=uH RF 7;have f8:=uH RF 8;have f9:=uH RF 9;have f10:=uH RF 10;have f11:=uH RF 11;have f12:=uH RF 12;rw[<-hr];have HRr:=uU hr;clear hr hv sv xv X3 RC Q he bd;go_wp2_with fail;refine bodyPost_ret (v:=x.v (.slice ar x.regs.length kr) (.slice ac x.cells.length kc) (.slice ag x.gray.length kg)) (by simp [results,Tryz.results23,go_sem,r0,r1,r2,r3,r4,r5,r6,r7,r8,r9,r10,r11,r12]) rfl ⟨x,ar,kr,ac,kc,ag,kg,rfl,S,?_⟩;refine(λ(F:uX (λq=>q=r) w3 _)=>⟨uH HR _ (F.mono λq e=>by omega),F.ext XW (λq hq e=>by have:=uH HRr;omega)⟩) ?_
 repeat (first | (with_reducible refine uX.setCell ?_ (by simp) _) | (with_reducible exact uX.refl _ _))
theorem b8f(xs:List Wd)(v v':Value)(w:World)(h:SlW w v xs)(h':SlW w v' xs):
  Calls Tryz.prog 63 #[v,v'] w λe w'=>e=.returned (.bool true)/\Ext w w':=by
 obtain⟨ad,cap,rfl,hl,hx⟩:=h;obtain⟨ad',cap',rfl,_,hx'⟩:=h';have HX:=uU hx;have HY:=uU hx';clear hx hx';go_enter Tryz.func63,Tryz.ntmps63;go_wp2_with fail;go_loopw [5,13] (λ_i i wr=>∃k:Nat,k<=xs.length/\i=.int .i64 k/\Ext w wr) (λ_ i _=>xs.length-(intOf i).toNat)
 case atStart=>exact⟨0,Nat.zero_le _,rfl,Ext.refl _⟩
 case round=>
  obtain⟨k,hk,rfl,hbl⟩:=hrel;by_cases hlt:k<xs.length
  ·obtain⟨b,o,rfl,p0,p1,p2⟩:=uH HX k hlt;obtain⟨b',o',rfl,q0,q1,q2⟩:=uH HY k hlt;have e0:=hbl.keep p0;have g0:=hbl.keep q0;have e1:=hbl.keep p1;have g1:=hbl.keep q1;have e2:=hbl.keep p2;have g2:=hbl.keep q2;clear p0 q0 p1 q1 p2 q2;have hb:b<wr.heap.size:=uL e0;have hb':b'<wr.heap.size:=uL g0;have hk0:(0:Int)<=(k:Int):=by omega
   have hk1:(k:Int)<(xs.length:Int):=by omega
   obtain⟨y,hy⟩:∃y,y=xs[k]:=⟨_,rfl⟩;rw[<-hy] at e0 g0 e1 g1 e2 g2;clear hy;go_wp2_with fail
   go_region
   go_wp2_with fail;go_roundw
   ·exact⟨k+1,by omega,by go_num,hbl.drew⟩
   ·simp [intOf];omega
  ·go_wp2_with fail;go_ret;exact⟨rfl,hbl⟩
theorem b8g(xs:List Pr)(v v':Value)(w:World)(h:SlP w v xs)(h':SlP w v' xs):
  Calls Tryz.prog 64 #[v,v'] w λe w'=>e=.returned (.bool true)/\Ext w w':=by
 obtain⟨ad,cap,rfl,hl,hx⟩:=h;obtain⟨ad',cap',rfl,_,hx'⟩:=h';have HX:=uU hx;have HY:=uU hx';clear hx hx';go_enter Tryz.func64,Tryz.ntmps64;go_wp2_with fail;go_loopw [5,13] (λ_i i wr=>∃k:Nat,k<=xs.length/\i=.int .i64 k/\Ext w wr) (λ_ i _=>xs.length-(intOf i).toNat)
 case atStart=>exact⟨0,Nat.zero_le _,rfl,Ext.refl _⟩
 case round=>
  obtain⟨k,hk,rfl,hbl⟩:=hrel;by_cases hlt:k<xs.length
  ·obtain⟨b,o,rfl,p0,p1,p2,p3,p4,p5⟩:=uH HX k hlt;obtain⟨b',o',rfl,q0,q1,q2,q3,q4,q5⟩:=uH HY k hlt;have e0:=hbl.keep p0;have g0:=hbl.keep q0;have e1:=hbl.keep p1;have g1:=hbl.keep q1;have e2:=hbl.keep p2;have g2:=hbl.keep q2;have e3:=hbl.keep p3;have g3:=hbl.keep q3;have e4:=hbl.keep p4;have g4:=hbl.keep q4;have e5:=hbl.keep p5;have g5:=hbl.keep q5;clear p0 q0 p1 q1 p2 q2 p3 q3 p4 q4 p5 q5;have hb:b<wr.heap.size:=uL e0;have hb':b'<wr.heap.size:=uL g0;have hk0:(0:Int)<=(k:Int):=by omega
   have hk1:(k:Int)<(xs.length:Int):=by omega
   obtain⟨y,hy⟩:∃y,y=xs[k]:=⟨_,rfl⟩;rw[<-hy] at e0 g0 e1 g1 e2 g2 e3 g3 e4 g4 e5 g5;clear hy;go_wp2_with fail
   go_region
   go_wp2_with fail;go_roundw
   ·exact⟨k+1,by omega,by go_num,hbl.drew⟩
   ·simp [intOf];omega
  ·go_wp2_with fail;go_ret;exact⟨rfl,hbl⟩
theorem c0n(xs:List Int)(v v':Value)(w:World)(h:SlI w v xs)(h':SlI w v' xs):
  Calls Tryz.prog 46 #[v,v'] w λe w'=>e=.returned (.bool true)/\Ext w w':=by
 obtain⟨ad,cap,rfl,hl,hx⟩:=h;obtain⟨ad',cap',rfl,_,hx'⟩:=h';have HX:=uU hx;have HY:=uU hx';clear hx hx';go_enter Tryz.func46,Tryz.ntmps46;go_wp2_with fail;go_loopw [5,13] (λ_i i wr=>∃k:Nat,k<=xs.length/\i=.int .i64 k/\Ext w wr) (λ_ i _=>xs.length-(intOf i).toNat)
 case atStart=>exact⟨0,Nat.zero_le _,rfl,Ext.refl _⟩
 case round=>
  obtain⟨k,hk,rfl,hbl⟩:=hrel;by_cases hlt:k<xs.length
  ·obtain⟨b,o,rfl,p0⟩:=uH HX k hlt;obtain⟨b',o',rfl,q0⟩:=uH HY k hlt;have e0:=hbl.keep p0;have g0:=hbl.keep q0;clear p0 q0;simp only [Nat.mul_one] at e0 g0;have hb:b<wr.heap.size:=uL e0;have hb':b'<wr.heap.size:=uL g0;have hk0:(0:Int)<=(k:Int):=by omega
   have hk1:(k:Int)<(xs.length:Int):=by omega
   obtain⟨y,hy⟩:∃y,y=xs[k]:=⟨_,rfl⟩;rw[<-hy] at e0 g0;clear hy;go_wp2_with fail
   go_region
   go_wp2_with fail;go_roundw
   ·exact⟨k+1,by omega,by go_num,hbl.drew⟩
   ·simp [intOf];omega
  ·go_wp2_with fail;go_ret;exact⟨rfl,hbl⟩
theorem b4n(w:World)(u:Value)(i:Nat)(hi:i<1000)(h:ByAt w u):
  Calls Tryz.prog 29 #[u,iv i] w λe w'=>∃r:Int,Hid (e=.returned (iv r))/\0<=r/\r<256/\w'=w:=by
 obtain⟨ad,n,k,rfl,hn,hx⟩:=h;by_cases h0:n=0
 ·subst h0;go_enter Tryz.func29,Tryz.ntmps29;go_wp2_with fail;go_ret;exact⟨_,rfl,by omega,by omega,rfl⟩
 ·obtain⟨b,o,z,rfl,c0,z0,z1⟩:=hx (i % n) (Nat.mod_lt _ (by omega));have e0:((n:Int) == 0)=false:=by simp;omega
  have e1:((i:Int) % (n:Int))=((i % n:Nat):Int):=by simp
  obtain⟨j,hj⟩:∃j,j=i % n:=⟨_,rfl⟩;have hm:j<n:=by rw[hj];exact Nat.mod_lt _ (by omega)
  rw[<-hj] at c0 e1;have j0:(0:Int)<=(j:Int):=by omega
  have j1:(j:Int)<(n:Int):=by omega
  have hb:b<w.heap.size:=uL c0;clear hx hj;go_enter Tryz.func29,Tryz.ntmps29;go_wp2_with fail;rw[e1];go_wp2_with fail;go_ret;exact⟨_,rfl,z0,z1,rfl⟩
theorem b3d(x:Hp)(w:World){ar' ac' ag':Option Addr}{kr' kc' kg':Nat}(h:HRd w x ar kr ac kc ag kg)(h':HRd w x ar' kr' ac' kc' ag' kg'):
  Calls Tryz.prog 34 #[x.v (.slice ar x.regs.length kr) (.slice ac x.cells.length kc) (.slice ag x.gray.length kg),x.v (.slice ar' x.regs.length kr') (.slice ac' x.cells.length kc') (.slice ag' x.gray.length kg')] w λe w'=>e=.returned (.bool true)/\Ext w w':=by
 obtain⟨W,hW⟩:∃W,W=(w.alloc (.cells #[iv x.room,iv x.used,iv x.born,.slice ar x.regs.length kr,.slice ac x.cells.length kc,iv x.phase,iv x.hand,iv x.sub,.slice ag x.gray.length kg,iv x.per,iv x.start,iv x.rounds,iv x.forced] 34)).alloc (.cells #[iv x.room,iv x.used,iv x.born,.slice ar' x.regs.length kr',.slice ac' x.cells.length kc',iv x.phase,iv x.hand,iv x.sub,.slice ag' x.gray.length kg',iv x.per,iv x.start,iv x.rounds,iv x.forced] 34):=⟨_,rfl⟩;have xW:Ext w W:=by rw[hW];exact((Ext.refl w).alloc _).alloc _
 have B1:=uU (dW.new w x (.slice ar x.regs.length kr) (.slice ac x.cells.length kc) (.slice ag x.gray.length kg) 34);have B2:=uU (dW.new (w.alloc (.cells #[iv x.room,iv x.used,iv x.born,.slice ar x.regs.length kr,.slice ac x.cells.length kc,iv x.phase,iv x.hand,iv x.sub,.slice ag x.gray.length kg,iv x.per,iv x.start,iv x.rounds,iv x.forced] 34)) x (.slice ar' x.regs.length kr') (.slice ac' x.cells.length kc') (.slice ag' x.gray.length kg') 34);have B1:=uU (B1.ext ((Ext.refl _).alloc (.cells #[iv x.room,iv x.used,iv x.born,.slice ar' x.regs.length kr',.slice ac' x.cells.length kc',iv x.phase,iv x.hand,iv x.sub,.slice ag' x.gray.length kg',iv x.per,iv x.start,iv x.rounds,iv x.forced] 34)));have e1:(w.alloc (.cells #[iv x.room,iv x.used,iv x.born,.slice ar x.regs.length kr,.slice ac x.cells.length kc,iv x.phase,iv x.hand,iv x.sub,.slice ag x.gray.length kg,iv x.per,iv x.start,iv x.rounds,iv x.forced] 34)).heap.size=w.heap.size+1:=by simp [go_sem]
 rw[<-hW] at B1 B2;rw[e1] at B2;have H1:=uU (h.ext xW);have H2:=uU (h'.ext xW);obtain⟨p,hp⟩:∃p,p=w.heap.size:=⟨_,rfl⟩;clear h h' e1;go_enter Tryz.func34,Tryz.ntmps34
 go_upto_region 1 with(fail)
 rw[<-hW,<-hp];rw[<-hp] at B1 B2;obtain⟨c0,c1,c2,c3,c4,c5,c6,c7,c8,c9,c10,c11,c12⟩:=uH B1;obtain⟨d0,d1,d2,d3,d4,d5,d6,d7,d8,d9,d10,d11,d12⟩:=uH B2;have hp1:p<W.heap.size:=uL c0;have hp2:p+1<W.heap.size:=uL d0;have XW:=uU xW;clear hW hp xW;go_wp2_with fail;refine(b8f x.regs _ _ _ H1.1 H2.1).mono ?_;rintro e w1 ⟨rfl,x1⟩;have B1:=uU (B1.ext x1);have B2:=uU (B2.ext x1);have H1:=uU (H1.ext x1);have H2:=uU (H2.ext x1);have XW:=uU (XW.trans x1);clear c0 c1 c2 c3 c4 c5 c6 c7 c8 c9 c10 c11 c12 d0 d1 d2 d3 d4 d5 d6 d7 d8 d9 d10 d11 d12 x1 hp1 hp2;obtain⟨c0,c1,c2,c3,c4,c5,c6,c7,c8,c9,c10,c11,c12⟩:=uH B1;obtain⟨d0,d1,d2,d3,d4,d5,d6,d7,d8,d9,d10,d11,d12⟩:=uH B2;have hp1:p<w1.heap.size:=uL c0;have hp2:p+1<w1.heap.size:=uL d0;go_wp2_with fail;go_loopw [5,6,7,47] (λ_a _b _c i wr=>∃k:Nat,k<=x.cells.length/\i=.int .i64 k/\Ext w1 wr) (λ_ _ _ i _=>x.cells.length-(intOf i).toNat)
 case atStart=>exact⟨0,Nat.zero_le _,rfl,Ext.refl _⟩
 case round=>
  obtain⟨k,hk,rfl,hbl⟩:=hrel;have B3:=uU (B1.ext hbl);have B4:=uU (B2.ext hbl);clear c0 c1 c2 c3 c4 c5 c6 c7 c8 c9 c10 c11 c12 d0 d1 d2 d3 d4 d5 d6 d7 d8 d9 d10 d11 d12 hp1 hp2;obtain⟨c0,c1,c2,c3,c4,c5,c6,c7,c8,c9,c10,c11,c12⟩:=uH B3;obtain⟨d0,d1,d2,d3,d4,d5,d6,d7,d8,d9,d10,d11,d12⟩:=uH B4;have hp1:p<wr.heap.size:=uL c0;have hp2:p+1<wr.heap.size:=uL d0;by_cases hlt:k<x.cells.length
  ·obtain⟨_,_,ea,_,hx⟩:=H1.2.1;obtain⟨_,_,eb,_,hy⟩:=H2.2.1;obtain⟨b,o,rfl,vp,p0,p1,p2,p3,p4,p5,p6,p7,hP⟩:=hx k hlt;obtain⟨b',o',rfl,vq,q0,q1,q2,q3,q4,q5,q6,q7,hQ⟩:=hy k hlt;cases ea;cases eb;obtain⟨ap,kp,rfl,hl1⟩:=hP;obtain⟨aq,kq,rfl,hl2⟩:=hQ;have hP:SlP w1 (.slice ap (x.cells[k]).prs.length kp) (x.cells[k]).prs:=⟨ap,kp,rfl,hl1⟩;have hQ:SlP w1 (.slice aq (x.cells[k]).prs.length kq) (x.cells[k]).prs:=⟨aq,kq,rfl,hl2⟩;clear hl1 hl2;have e0:=hbl.keep p0;have e1:=hbl.keep p1;have e2:=hbl.keep p2;have e3:=hbl.keep p3;have e4:=hbl.keep p4;have e5:=hbl.keep p5;have e6:=hbl.keep p6;have e7:=hbl.keep p7;have f0:=hbl.keep q0;have f1:=hbl.keep q1;have f2:=hbl.keep q2;have f3:=hbl.keep q3;have f4:=hbl.keep q4;have f5:=hbl.keep q5;have f6:=hbl.keep q6;have f7:=hbl.keep q7;have HP:=uU (SlP.ext hbl hP);have HQ:=uU (SlP.ext hbl hQ);have hb:b<wr.heap.size:=uL e0;have hb':b'<wr.heap.size:=uL f0;clear p0 p1 p2 p3 p4 p5 p6 p7 q0 q1 q2 q3 q4 q5 q6 q7 hx hy hP hQ;have hk0:(0:Int)<=(k:Int):=by omega
   have hk1:(k:Int)<(x.cells.length:Int):=by omega
   obtain⟨y,hy⟩:∃y,y=x.cells[k]:=⟨_,rfl⟩;rw[<-hy] at e0 e1 e2 e3 e4 e5 e6 e7 f0 f1 f2 f3 f4 f5 f6 f7 HP HQ;clear hy;go_wp2_with fail;refine(b8g y.prs _ _ _ (SlP.ext (((Ext.refl wr).alloc _).alloc _) HP) (SlP.ext (((Ext.refl wr).alloc _).alloc _) HQ)).mono ?_;rintro e w3 ⟨rfl,x3⟩;have X3:=uU (hbl.trans (Ext.trans (((Ext.refl wr).alloc _).alloc _) x3));clear x3;go_wp2_with fail;go_roundw
   ·exact⟨k+1,by omega,by go_num,X3⟩
   ·simp [intOf];omega
  ·go_wp2_with fail;refine(c0n x.gray _ _ _ (SlI.ext hbl H1.2.2) (SlI.ext hbl H2.2.2)).mono ?_;rintro e w3 ⟨rfl,x3⟩;have B5:=uU (B3.ext x3);have B6:=uU (B4.ext x3);have X3:=uU ((XW.trans hbl).trans x3);clear c0 c1 c2 c3 c4 c5 c6 c7 c8 c9 c10 c11 c12 d0 d1 d2 d3 d4 d5 d6 d7 d8 d9 d10 d11 d12 hp1 hp2 x3;obtain⟨c0,c1,c2,c3,c4,c5,c6,c7,c8,c9,c10,c11,c12⟩:=uH B5;obtain⟨d0,d1,d2,d3,d4,d5,d6,d7,d8,d9,d10,d11,d12⟩:=uH B6;have hp1:p<w3.heap.size:=uL c0;have hp2:p+1<w3.heap.size:=uL d0;go_wp2_with fail;go_ret;exact⟨rfl,X3⟩
theorem SOq.box[Inhabited uN](h:SOq C B w b x):w.cell? ⟨b,5,none⟩=some (iv x.phase)/\w.frozen? ⟨b,5,none⟩=false/\B<=b/\b<w.heap.size:=by
 obtain⟨ar,kr,a4,n4,k4,a8,m8,k8,br,cB,cO,bn,pb,pa,pk,kn,hd,vf,F,vk,K,role,h,i⟩:=h;exact⟨h.sb.bx.2.2.2.2.2.1,h.sb.nb.2 5,h.sb.lo.1,h.sb.nb.1⟩
def a5o : String := String.join ["loop.exam", "ple/spool/impl.unit"]
theorem c4r(b:Nat)(W:World){s:String}(hs:s=a5o):(method 443 233 (.agg #[.pointer (some ⟨b,0,none⟩)]) s).run Tryz.prog W=.ok (328,.agg #[.pointer (some ⟨b,0,none⟩)]) W:=by subst hs;kernel_rfl
theorem b4o(b:Nat)(W:World):(binOp .neq 182 (.iface 233 (.agg #[.pointer (some ⟨b,0,none⟩)])) .nilIface).run Tryz.prog W=.ok (.bool true) W:=by kernel_rfl
theorem c8c(b:Nat)(W:World){s:String}(hs:s=a5o):(method 443 234 (.agg #[.pointer (some ⟨b,0,none⟩)]) s).run Tryz.prog W=.ok (329,.agg #[.pointer (some ⟨b,0,none⟩)]) W:=by subst hs;kernel_rfl
theorem b8h(b:Nat)(W:World):(binOp .neq 182 (.iface 234 (.agg #[.pointer (some ⟨b,0,none⟩)])) .nilIface).run Tryz.prog W=.ok (.bool true) W:=by kernel_rfl
theorem c4s(b:Nat)(W:World){s:String}(hs:s=a5o):(method 443 235 (.agg #[.pointer (some ⟨b,0,none⟩)]) s).run Tryz.prog W=.ok (331,.agg #[.pointer (some ⟨b,0,none⟩)]) W:=by subst hs;kernel_rfl
theorem b4p(b:Nat)(W:World):(binOp .neq 182 (.iface 235 (.agg #[.pointer (some ⟨b,0,none⟩)])) .nilIface).run Tryz.prog W=.ok (.bool true) W:=by kernel_rfl
theorem c8d(b:Nat)(W:World){s:String}(hs:s=a5o):(method 443 236 (.agg #[.pointer (some ⟨b,0,none⟩)]) s).run Tryz.prog W=.ok (333,.agg #[.pointer (some ⟨b,0,none⟩)]) W:=by subst hs;kernel_rfl
theorem b8i(b:Nat)(W:World):(binOp .neq 182 (.iface 236 (.agg #[.pointer (some ⟨b,0,none⟩)])) .nilIface).run Tryz.prog W=.ok (.bool true) W:=by kernel_rfl
theorem c8e(b:Nat)(W:World){s:String}(hs:s=a5o):(method 443 237 (.agg #[.pointer (some ⟨b,0,none⟩)]) s).run Tryz.prog W=.ok (335,.agg #[.pointer (some ⟨b,0,none⟩)]) W:=by subst hs;kernel_rfl
theorem b8j(b:Nat)(W:World):(binOp .neq 182 (.iface 237 (.agg #[.pointer (some ⟨b,0,none⟩)])) .nilIface).run Tryz.prog W=.ok (.bool true) W:=by kernel_rfl
theorem c8f(b:Nat)(W:World){s:String}(hs:s=a5o):(method 443 238 (.agg #[.pointer (some ⟨b,0,none⟩)]) s).run Tryz.prog W=.ok (336,.agg #[.pointer (some ⟨b,0,none⟩)]) W:=by subst hs;kernel_rfl
theorem b8k(b:Nat)(W:World):(binOp .neq 182 (.iface 238 (.agg #[.pointer (some ⟨b,0,none⟩)])) .nilIface).run Tryz.prog W=.ok (.bool true) W:=by kernel_rfl
theorem a9i[Inhabited uN](n:Nat)(h:SOq C B w b x)(hC:C<=1000000000)(s:Snd x)(a:World)(ha:a.heap.size<=B)(hx:Ext a w):
  Calls Tryz.prog 144 #[.pointer (some ⟨b,0,none⟩),.int .i64 n] w λe w'=>∃k:Nat,e=.returned (.int .i64 k)/\Hid (a2n x n k)/\Hid (SOq C B w' b (itU k x))/\Ext a w':=by
 have HS:=uU h;have S:=uU s;have NW:=uU (b1b x.phase b w h.box.1 s.r1.phase);have XS:=uU hx;clear h s;go_enter Tryz.func144,Tryz.ntmps144;go_wp2_with fail;refine NW.mono ?_;rintro e w1 ⟨rfl,hw1⟩;subst hw1;go_wp2_with fail
 go_loopg [5,6] (14000000) (λgk u now wr=>∃k:Nat,u=.int .i64 k/\now=zV (itU k x).phase b/\Hid (k<=n)/\Hid (yL x k)/\Hid (mu (itU k x)<=gk)/\Hid (SOq C B wr b (itU k x))/\Hid (Ext a wr))
 case atStart=>exact⟨0,rfl,rfl,Nat.zero_le _,yL.zero _,S.mu_le,HS,XS⟩
 case round=>
  clear HS XS NW;obtain⟨k,rfl,rfl,hkn,hr,hm,hG,hxr⟩:=hrel;have kl:=hr.le S;have SK:=uU (S.itU k);by_cases p0:(itU k x).phase=0
  ·have EP:=uU p0;have e0:zV (itU k x).phase b=.nilIface:=by rw[p0];rfl
   have q0:∀W,(binOp .neq 182 .nilIface .nilIface).run Tryz.prog W=.ok (.bool false) W:=λ_=>by kernel_rfl
   rw[e0];clear p0 e0;go_wp2_with fail;go_ret;exact⟨k,rfl,⟨hr,hkn,.inr EP⟩,hG,hxr⟩
  ·by_cases hlt:k<n
   ·have h1:(k:Int)<(n:Int):=by omega
    have R3:=uU (hr.succ p0);have M3:=uU (show mu (itU (k+1) x)<mu (itU k x) from SK.less p0);have wk:wrap64 ((k:Int)+1)=(k:Int)+1:=by unfold wrap64;omega
    have HP:=uU SK.r1.phase;have P0:=uU p0;have HK:=uU (show k+1<=n by omega);clear p0;by_cases p1:(itU k x).phase=1
    ·have e1:zV (itU k x).phase b=.iface 233 (.agg #[.pointer (some ⟨b,0,none⟩)]):=by rw[p1];rfl
     have q1:∀W,(binOp .neq 182 (.iface 233 (.agg #[.pointer (some ⟨b,0,none⟩)])) .nilIface).run Tryz.prog W=.ok (.bool true) W:=b4o b;have EU:=uU (show qC (itU k x)=itU (k+1) x by show qC (itU k x)=dK (itU k x);unfold dK;simp [p1]);have P1:=uU p1;rw[e1];clear p1 e1;go_wp2_with fail;rw[c4r b _ (show _=a5o by kernel_rfl)];go_wp2_with fail;refine(c4f hG SK P1 a ha hxr).mono ?_;rintro e w3 ⟨rfl,h3,x3⟩;rw[uH EU] at h3 ⊢;have X3:=uU x3;clear x3;go_wp2_with fail
     go_roundg (mu (itU (k+1) x))
     case measure=>have:=uH M3;have:=uH hm;omega
     case rel=>exact⟨k+1,by go_num,rfl,HK,R3,Nat.le_refl _,h3,X3⟩
    ·skip
     by_cases p2:(itU k x).phase=2
     ·have e1:zV (itU k x).phase b=.iface 234 (.agg #[.pointer (some ⟨b,0,none⟩)]):=by rw[p2];rfl
      have q1:∀W,(binOp .neq 182 (.iface 234 (.agg #[.pointer (some ⟨b,0,none⟩)])) .nilIface).run Tryz.prog W=.ok (.bool true) W:=b8h b;have EU:=uU (show eC (itU k x)=itU (k+1) x by show eC (itU k x)=dK (itU k x);unfold dK;simp [p2]);have P1:=uU p2;rw[e1];clear p2 e1;go_wp2_with fail;rw[c8c b _ (show _=a5o by kernel_rfl)];go_wp2_with fail;refine(c4g hG SK P1 a ha hxr).mono ?_;rintro e w3 ⟨rfl,h3,x3⟩;rw[uH EU] at h3 ⊢;have X3:=uU x3;clear x3;go_wp2_with fail
      go_roundg (mu (itU (k+1) x))
      case measure=>have:=uH M3;have:=uH hm;omega
      case rel=>exact⟨k+1,by go_num,rfl,HK,R3,Nat.le_refl _,h3,X3⟩
     ·skip
      by_cases p3:(itU k x).phase=3
      ·have e1:zV (itU k x).phase b=.iface 235 (.agg #[.pointer (some ⟨b,0,none⟩)]):=by rw[p3];rfl
       have q1:∀W,(binOp .neq 182 (.iface 235 (.agg #[.pointer (some ⟨b,0,none⟩)])) .nilIface).run Tryz.prog W=.ok (.bool true) W:=b4p b;have EU:=uU (show dE (itU k x)=itU (k+1) x by show dE (itU k x)=dK (itU k x);unfold dK;simp [p3]);have P1:=uU p3;rw[e1];clear p3 e1;go_wp2_with fail;rw[c4s b _ (show _=a5o by kernel_rfl)];go_wp2_with fail;refine(c4h hG hC SK P1 a ha hxr).mono ?_;rintro e w3 ⟨rfl,h3,x3⟩;rw[uH EU] at h3 ⊢;have X3:=uU x3;clear x3;go_wp2_with fail
       go_roundg (mu (itU (k+1) x))
       case measure=>have:=uH M3;have:=uH hm;omega
       case rel=>exact⟨k+1,by go_num,rfl,HK,R3,Nat.le_refl _,h3,X3⟩
      ·skip
       by_cases p4:(itU k x).phase=4
       ·have e1:zV (itU k x).phase b=.iface 236 (.agg #[.pointer (some ⟨b,0,none⟩)]):=by rw[p4];rfl
        have q1:∀W,(binOp .neq 182 (.iface 236 (.agg #[.pointer (some ⟨b,0,none⟩)])) .nilIface).run Tryz.prog W=.ok (.bool true) W:=b8i b;have EU:=uU (show unit4 (itU k x)=itU (k+1) x by show unit4 (itU k x)=dK (itU k x);unfold dK;simp [p4]);have P1:=uU p4;rw[e1];clear p4 e1;go_wp2_with fail;rw[c8d b _ (show _=a5o by kernel_rfl)];go_wp2_with fail;refine(c4i hG hC SK P1 a ha hxr).mono ?_;rintro e w3 ⟨rfl,h3,x3⟩;rw[uH EU] at h3 ⊢;have X3:=uU x3;clear x3;go_wp2_with fail
        go_roundg (mu (itU (k+1) x))
        case measure=>have:=uH M3;have:=uH hm;omega
        case rel=>exact⟨k+1,by go_num,rfl,HK,R3,Nat.le_refl _,h3,X3⟩
       ·skip
        by_cases p5:(itU k x).phase=5
        ·have e1:zV (itU k x).phase b=.iface 237 (.agg #[.pointer (some ⟨b,0,none⟩)]):=by rw[p5];rfl
         have q1:∀W,(binOp .neq 182 (.iface 237 (.agg #[.pointer (some ⟨b,0,none⟩)])) .nilIface).run Tryz.prog W=.ok (.bool true) W:=b8j b;have EU:=uU (show eK (itU k x)=itU (k+1) x by show eK (itU k x)=dK (itU k x);unfold dK;simp [p5]);have P1:=uU p5;rw[e1];clear p5 e1;go_wp2_with fail;rw[c8e b _ (show _=a5o by kernel_rfl)];go_wp2_with fail;refine(c4j hG SK P1 a ha hxr).mono ?_;rintro e w3 ⟨rfl,h3,x3⟩;rw[uH EU] at h3 ⊢;have X3:=uU x3;clear x3;go_wp2_with fail
         go_roundg (mu (itU (k+1) x))
         case measure=>have:=uH M3;have:=uH hm;omega
         case rel=>exact⟨k+1,by go_num,rfl,HK,R3,Nat.le_refl _,h3,X3⟩
        ·skip
         have p6:(itU k x).phase=6:=by have:=uH HP;have:=uH P0;omega
         have e1:zV (itU k x).phase b=.iface 238 (.agg #[.pointer (some ⟨b,0,none⟩)]):=by rw[p6];rfl
         have q1:∀W,(binOp .neq 182 (.iface 238 (.agg #[.pointer (some ⟨b,0,none⟩)])) .nilIface).run Tryz.prog W=.ok (.bool true) W:=b8k b;have EU:=uU (show dZ (itU k x)=itU (k+1) x by show dZ (itU k x)=dK (itU k x);unfold dK;simp [p6]);have P1:=uU p6;rw[e1];clear p6 e1;go_wp2_with fail;rw[c8f b _ (show _=a5o by kernel_rfl)];go_wp2_with fail;refine(c4k hG hC SK P1 a ha hxr).mono ?_;rintro e w3 ⟨rfl,h3,x3⟩;rw[uH EU] at h3 ⊢;have X3:=uU x3;clear x3;go_wp2_with fail
         go_roundg (mu (itU (k+1) x))
         case measure=>have:=uH M3;have:=uH hm;omega
         case rel=>exact⟨k+1,by go_num,rfl,HK,R3,Nat.le_refl _,h3,X3⟩
   ·have h1:¬(k:Int)<(n:Int):=by omega
    have hkn2:=uU (show k=n by have:=uH hkn;omega)
    have Q:=uU (show ∃T,zV (itU k x).phase b=.iface T (.agg #[.pointer (some ⟨b,0,none⟩)])/\∀W,(binOp .neq 182 (.iface T (.agg #[.pointer (some ⟨b,0,none⟩)])) .nilIface).run Tryz.prog W=.ok (.bool true) W by
     have hp:=SK.r1.phase;have h:(itU k x).phase=1\/(itU k x).phase=2\/(itU k x).phase=3\/(itU k x).phase=4\/(itU k x).phase=5\/(itU k x).phase=6:=by omega
     rcases h with e | e | e | e | e | e
     ·exact⟨_,by rw[e];rfl,b4o b⟩
     ·exact⟨_,by rw[e];rfl,b8h b⟩
     ·exact⟨_,by rw[e];rfl,b4p b⟩
     ·exact⟨_,by rw[e];rfl,b8i b⟩
     ·exact⟨_,by rw[e];rfl,b8j b⟩
     ·exact⟨_,by rw[e];rfl,b8k b⟩)
    obtain⟨T,e1,q1⟩:=Q;rw[e1];clear p0 e1;go_wp2_with fail;go_ret;exact⟨k,rfl,⟨hr,hkn,.inl hkn2⟩,hG,hxr⟩
theorem c8g{w:World}{p:Addr}{v:Value}(h:w.cell? p=some v):w.setCell p v=w:=by
 have key:(w.setCell p v).heap=w.heap:=by
  unfold World.cell? at h;unfold World.setCell;apply Array.ext_getElem?;intro i;rw[Array.getElem?_modify];by_cases e:p.block=i
  ·subst e;rw[if_pos rfl];cases hh:w.heap[p.block]? with
   | none=>rfl
   | some o=>
    rw[hh] at h;cases o with
    | cells c t f=>
     simp only at h;by_cases hs:p.spot.isSome=true
     ·simp [hs] at h
     ·simp only [hs] at h;simp only [Option.map_some,hs]
      congr 1
      have hc:c.setIfInBounds p.off v=c:=by
       apply Array.ext_getElem?;intro k;rw[Array.getElem?_setIfInBounds];by_cases e2:p.off=k
       ·subst e2;rw[if_pos rfl];have:=(Array.getElem?_eq_some_iff.1 h).1;rw[if_pos this];exact h.symm
       ·rw[if_neg e2]
      simp [hc]
    | _=>simp at h
  ·rw[if_neg e]
 unfold World.setCell at key ⊢;simp only at key;rw[key]
theorem c4t:(Tryz.prog.info? 124).map (λi=>(i.zero,i.size,i.bytes))=some (some (.agg #[.int .i64 0,.pointer none]),2,16):=by kernel_rfl
theorem c4u(base:Option Addr)(l n:Nat)(w:World)(hn:n=0):
  Calls Tryz.prog 140 #[.slice base l l,.int .i64 n] w λe w'=>e=.returned (.slice base l l)/\w'=w:=by
 subst hn;have h2:wrap64 ((l:Int)-(l:Int))=0:=by unfold wrap64;omega
 go_enter Tryz.func140,Tryz.ntmps140
 go_wp2
 go_ret;exact⟨rfl,rfl⟩
def c8h(w:World)(l n:Nat)(cs:List Value)(e:Ending)(w':World):Prop:=∃k m,e=.returned (.slice (some ⟨w.heap.size,0,none⟩) l k)/\l+n<=k/\m.size=(k-l)*2/\w'=w.drew.alloc (.cells (cs.toArray++m) 124)
theorem c8i(bn l n:Nat)(cs:List Value)(w:World)(hl:l+n<=8000)(hn:0<n)(hcl:cs.length=l*2)(hcs:∀j v,cs[j]?=some v->w.cell? ⟨bn,j,none⟩=some v):
  Calls Tryz.prog 140 #[.slice (some ⟨bn,0,none⟩) l l,.int .i64 n] w λe w'=>c8h w l n cs e w':=by
 obtain⟨i0,hi0,hz0,hz1,hz2⟩:∃i,Tryz.prog.info? 124=some i/\i.zero=some (.agg #[.int .i64 0,.pointer none])/\i.size=2/\i.bytes=16:=by
  have:=c4t;cases h:Tryz.prog.info? 124 with
  | none=>rw[h] at this;simp at this
  | some i=>rw[h] at this;simp at this;exact⟨i,rfl,this.1,this.2.1,this.2.2⟩
 have h2:wrap64 ((l:Int)-(l:Int))=0:=by unfold wrap64;omega
 have hold:(Builtin.firstCells i0.size l (.slice (some ⟨bn,0,none⟩) l l)).run Tryz.prog w.drew=.ok cs.toArray w.drew:=run_firstCells_some w.drew i0.size l ⟨bn,0,none⟩ l l cs (by rw[hcl,hz1]) (λj v hj=>by
  have:(⟨bn,0,none⟩:Addr).add j=⟨bn,j,none⟩:=by unfold Addr.add;split <;> simp_all
  rw[this];exact hcs j v hj)
 have hrz:∀ty,(Builtin.append_ #[117,3] ty #[.slice (some ⟨bn,0,none⟩) l l,.int .i64 (n:Int)]).run Tryz.prog w=.ok (.slice (some ⟨w.heap.size,0,none⟩) (l+n) (grownCap w (l+n) l 124)) (w.drew.alloc (.cells (cs.toArray++Builtin.zeroCells (Value.agg #[.int .i64 0,.pointer none]).cells n++Builtin.zeroCells (Value.agg #[.int .i64 0,.pointer none]).cells (grownCap w (l+n) l 124-(l+n))) 124)):=λty=>
  Go.Lib.run_append_grow_zeros w 117 3 ty 124 i0 _ .i64 .i64 Tryz.underlying117 Tryz.underlying3 hi0 hz0 (some ⟨bn,0,none⟩) l l cs hold n hn (by omega) (by omega) (by omega) (by rw[hz2];omega) (growslice_fits (by omega) (by rw[hz2];omega))
 have hGn:l+n<=grownCap w (l+n) l 124:=grownCap_ge w _ _ _;obtain⟨G,hG⟩:∃G,G=grownCap w (l+n) l 124:=⟨_,rfl⟩;rw[<-hG] at hrz hGn
 have hG63:G<=9223372036854775807:=by
  have:=grownCap_le_maxLen w (l+n) l 124 (by unfold maxLen;omega);rw[<-hG] at this;unfold maxLen at this;omega
 have n0:¬((n:Int)<0):=by omega
 have n1:wrap64 ((n:Int)-0)=n:=by unfold wrap64;omega
 have n2:(n:Int) > 0:=by omega
 have HGN:=uU hGn;clear hold hG hcs hcl;go_enter Tryz.func140,Tryz.ntmps140;go_wp2_with (at_builtin;refine Go.Lib.wpList_append_run _ rfl _ _ _ _ rfl _ _ rfl rfl _ _ (hrz _) ?_);go_ret;exact⟨G,Builtin.zeroCells (Value.agg #[.int .i64 0,.pointer none]).cells n++Builtin.zeroCells (Value.agg #[.int .i64 0,.pointer none]).cells (G-(l+n)),rfl,HGN,by have:=uH HGN;simp only [Array.size_append,Go.size_zeroCells];show n*2+(G-(l+n))*2=_;omega,rfl⟩
def tX(cB cO:Nat->Nat)(n:Nat):List Value:=(List.range (n*2)).map (λj=>if j % 2=0 then iv (j / 2:Nat) else .pointer (some ⟨cB (j / 2),cO (j / 2),none⟩))
theorem b8m(cB cO:Nat->Nat)(n j:Nat)(h:j<n*2):(tX cB cO n)[j]?=some (if j % 2=0 then iv (j / 2:Nat) else .pointer (some ⟨cB (j / 2),cO (j / 2),none⟩)):=by
 unfold tX;rw[List.getElem?_map,List.getElem?_range h];rfl
theorem SAt.regrow[Inhabited uN]{kn:Nat}(h:SAt B w b x ar kr v4 v8 br cB cO bn pb pa pk kn hd vf F vk [] role)(hg:x.gray=[])(hB:B<=w.heap.size)(k:Nat)(m:Array Value)(T:TypeId)(hmk:x.cells.length<=k/\m.size=(k-x.cells.length)*2):
  SAt B ((w.drew.alloc (.cells ((tX cB cO x.cells.length).toArray++m) T)).setCell ⟨b,13,none⟩ (.slice (some ⟨w.heap.size,0,none⟩) x.cells.length k)) b x ar kr v4 v8 br cB cO w.heap.size pb pa pk k hd vf F vk [] (λq=>if q=w.heap.size then 1 else role q):=by
 have hb:=h.sb.nb.1;have nb:b≠w.heap.size:=by omega
 have far1:∀q,q<w.heap.size->(w.drew.alloc (.cells ((tX cB cO x.cells.length).toArray++m) T)).heap[q]?=w.heap[q]?:=λq hq=>Below.heap_alloc w.drew _ q hq
 have far:∀q,q<w.heap.size->q≠b->((w.drew.alloc (.cells ((tX cB cO x.cells.length).toArray++m) T)).setCell ⟨b,13,none⟩ (.slice (some ⟨w.heap.size,0,none⟩) x.cells.length k)).heap[q]?=w.heap[q]?:=λq hq hn=>(Below.heap_setCell _ _ _ _ hn).trans (far1 q hq)
 have cb:∀o,o≠13->((w.drew.alloc (.cells ((tX cB cO x.cells.length).toArray++m) T)).setCell ⟨b,13,none⟩ (.slice (some ⟨w.heap.size,0,none⟩) x.cells.length k)).cell? ⟨b,o,none⟩=w.cell? ⟨b,o,none⟩:=λo ho=>(uC _ (.inr (λe=>ho e.symm))).trans (World.cell?_of_block (a:=⟨b,o,none⟩) (far1 b hb))
 have hsz:w.heap.size+1=((w.drew.alloc (.cells ((tX cB cO x.cells.length).toArray++m) T)).setCell ⟨b,13,none⟩ (.slice (some ⟨w.heap.size,0,none⟩) x.cells.length k)).heap.size:=by simp [World.setCell]
 have hnew:((w.drew.alloc (.cells ((tX cB cO x.cells.length).toArray++m) T)).setCell ⟨b,13,none⟩ (.slice (some ⟨w.heap.size,0,none⟩) x.cells.length k)).heap[w.heap.size]?=some (.cells ((tX cB cO x.cells.length).toArray++m) T):=(Below.heap_setCell _ _ _ _ (λe=>nb e.symm)).trans (heap_alloc_new w.drew _)
 have cn:∀j,j<x.cells.length*2->((w.drew.alloc (.cells ((tX cB cO x.cells.length).toArray++m) T)).setCell ⟨b,13,none⟩ (.slice (some ⟨w.heap.size,0,none⟩) x.cells.length k)).cell? ⟨w.heap.size,j,none⟩=some (if j % 2=0 then iv (j / 2:Nat) else .pointer (some ⟨cB (j / 2),cO (j / 2),none⟩)):=λj hj=>by
  rw[cell_of_row _ w.heap.size j _ _ (0,0) hnew,<-b8m cB cO x.cells.length j hj];have hl:j<(tX cB cO x.cells.length).toArray.size:=by simp [tX];exact hj
  rw[Array.getElem?_append_left hl];simp
 have rb:∀q,role q≠0->q≠b:=λq hq e=>hq (by rw[e];exact h.sp.b)
 have nfb:Nf1 b ((w.drew.alloc (.cells ((tX cB cO x.cells.length).toArray++m) T)).setCell ⟨b,13,none⟩ (.slice (some ⟨w.heap.size,0,none⟩) x.cells.length k)):=(hY h.sb.nb (far1 b hb) (by simp)).set _ _;have c13:(w.drew.alloc (.cells ((tX cB cO x.cells.length).toArray++m) T)).cell? ⟨b,13,none⟩=some (.slice (some ⟨bn,0,none⟩) x.cells.length kn):=(World.cell?_of_block (a:=⟨b,13,none⟩) (far1 b hb)).trans h.sb.n13;refine⟨⟨h.sb.bx.of λo ho=>cb o (by omega),h.sb.ha,World.cell?_setCell_same _ _ _ c13,λi hi=>⟨?_,?_⟩,⟨(cb 14 (by omega)).trans h.sb.fr.hd,nfb.2 14,uQ h.sb.fr.own (λq hq=>far q (h.sb.fr.own.lt q hq).2 (rb q (by rw[h.sp.f q hq];omega))),h.sb.fr.apart⟩,?_,(cb 4017 (by omega)).trans h.sb.k0,?_,nfb,⟨h.sb.lo.1,hB,by omega,?_⟩⟩,h.rw.same (by omega) (λhl=>far br (h.rw.nr hl).1.1 (rb br (by rw[h.sp.r hl];omega))) (λq hq=>far (cB q) (h.rw.nc q hq).1.1 (rb (cB q) (by rw[h.sp.c q hq];omega))) (λq hq hl=>far (pb q) (h.rw.pl q hq hl).2.1.1 (rb (pb q) (by rw[h.sp.p q hq hl];omega))),?_,h.pr.of (λq hq h1=>far q hq (rb q (by rw[h1];omega))) (λq hq h1=>by(try dsimp only);rw[if_neg (by omega)];exact h1)⟩
 ·have:=cn (i*2) (by omega);rw[if_pos (by omega),show i*2 / 2=i by omega] at this;exact this
 ·have:=cn (i*2+1) (by omega);rw[if_neg (by omega),show(i*2+1) / 2=i by omega] at this;exact this
 ·have r:=h.sb.rg;rw[hg] at r;rw[hg];exact⟨r.h0,r.hl,(cb 4015 (by omega)).trans r.r0,(cb 4016 (by omega)).trans r.r1,λi hi=>by simp at hi,λj hj=>let ⟨v,q⟩:=r.ro j hj;⟨v,(cb _ (by omega)).trans q⟩⟩
 ·have:=h.sb.kp;exact uQ (by simpa using this) (λq hq=>far q (h.sb.kp.lt q hq).2 (rb q (by rw[h.sp.k q hq];omega)))
 ·intro j hj;have hl:j<((tX cB cO x.cells.length).toArray++m).size:=by simp [tX];omega
  refine⟨⟨((tX cB cO x.cells.length).toArray++m)[j],?_⟩,?_⟩
  ·rw[cell_of_row _ w.heap.size j _ _ (0,0) hnew];exact Array.getElem?_eq_getElem hl
  ·rw[World.frozen?_setCell];simp [go_sem]
 ·have ne:∀q,q<w.heap.size->¬q=w.heap.size:=λq hq=>by omega
  refine⟨?_,if_pos rfl,λhl=>?_,λq hq=>?_,λq hq=>?_,λq hq=>?_,λq hq hl=>?_⟩
  ·rw[if_neg nb];exact h.sp.b
  ·rw[if_neg (ne br (h.rw.nr hl).1.1)];exact h.sp.r hl
  ·rw[if_neg (ne (cB q) (h.rw.nc q hq).1.1)];exact h.sp.c q hq
  ·rw[if_neg (ne q (h.sb.fr.own.lt q hq).2)];exact h.sp.f q hq
  ·rw[if_neg (ne q (h.sb.kp.lt q hq).2)];exact h.sp.k q hq
  ·rw[if_neg (ne (pb q) (h.rw.pl q hq hl).2.1.1)];exact h.sp.p q hq hl
theorem c8j[Inhabited uN](h:SAt B w b x ar kr v4 v8 br cB cO bn pb pa pk x.cells.length hd vf F vk [] role)(hg:x.gray=[])(hB:B<=w.heap.size)(m:Nat)(hm:x.cells.length+m<=8000):
  Calls Tryz.prog 140 #[.slice (some ⟨bn,0,none⟩) x.cells.length x.cells.length,.int .i64 m] w λe w'=>∃bn' kn',e=.returned (.slice (some ⟨bn',0,none⟩) x.cells.length kn')/\Hid (∃role',SAt B (w'.setCell ⟨b,13,none⟩ (.slice (some ⟨bn',0,none⟩) x.cells.length kn')) b x ar kr v4 v8 br cB cO bn' pb pa pk kn' hd vf F vk [] role')/\Hid (w'.cell? ⟨b,13,none⟩=some (.slice (some ⟨bn,0,none⟩) x.cells.length x.cells.length)/\w'.frozen? ⟨b,13,none⟩=false/\Ext w w'/\x.cells.length+m<=kn'):=by
 rcases Nat.eq_zero_or_pos m with e | e
 ·refine(c4u (some ⟨bn,0,none⟩) x.cells.length m w e).mono ?_;rintro e w' ⟨rfl,rfl⟩;refine⟨bn,x.cells.length,rfl,⟨role,?_⟩,h.sb.n13,h.sb.nb.2 13,Ext.refl _,by omega⟩;rw[c8g h.sb.n13];exact h
 ·refine(c8i bn x.cells.length m (tX cB cO x.cells.length) w hm e (by simp [tX]) (λj v hj=>?_)).mono ?_
  ·have hj2:j<x.cells.length*2:=by have:=(List.getElem?_eq_some_iff.1 hj).1;simpa [tX] using this
   rw[b8m cB cO x.cells.length j hj2] at hj;rw[<-hj];obtain⟨p0,p1⟩:=h.sb.nd (j / 2) (by omega);by_cases ev:j % 2=0
   ·rw[if_pos ev];rw[show j / 2*2=j by omega] at p0;exact p0
   ·rw[if_neg ev];rw[show j / 2*2+1=j by omega] at p1;exact p1
  ·rintro e w' ⟨k,mm,rfl,hk,hmm,rfl⟩;have xw:Ext w (w.drew.alloc (.cells ((tX cB cO x.cells.length).toArray++mm) 124)):=(Ext.refl w).drew.alloc _;exact⟨w.heap.size,k,rfl,⟨_,h.regrow hg hB k mm _ ⟨by omega,hmm⟩⟩,xw.keep h.sb.n13,((cZ xw).2 b 13 h.sb.nb.1).trans (h.sb.nb.2 13),xw,hk⟩
end Go.Proofs.YtddkhnclmeikfaaGreat
