import Derived.Test.YtddkhnclmeikfaaGreatWd
set_option maxRecDepth 100000
set_option maxHeartbeats 2000000
namespace Go.Proofs.YtddkhnclmeikfaaGreat
open Go.RowKit
attribute [local go_sem ↓] Go.wp_at_zero Go.wp_at_succ
def goH(x:Hp)(H:Nat->Bool)(i:Nat)(z:Hp):Hp:={ z with cells:=z.cells.set i (yL x H (x.c i)),used:=z.used-eZ x H (x.c i) (x.c i).prs,sub:=qH x H i z.sub }
structure ZIs(x z:Hp)(i:Nat):Prop where
 len:z.cells.length=x.cells.length
 st:∀q,(z.c q).st=(x.c q).st/\(z.c q).to=(x.c q).to
 ci:z.c i=x.c i
 hi:i<x.cells.length
 sc:uV z=uV x
 hh:0<=z.hand/\z.hand<=z.cells.length
 hg:∀g,g∈z.gray->0<=g/\g<z.cells.length
 sb:uV x=(i:Int)->0<=z.sub/\z.sub<=(x.c i).prs.length
 us:-2000000<=z.used/\z.used<=2000000
 p2:(x.c i).prs.length<=200
theorem c6t[Inhabited uZ]{B:Nat}{w:World}{b:Nat}{x z:Hp}{ar:Option Addr}{kr:Nat}{v4 v8:Value}{br bn:Nat}{cB cO:Nat->Nat}{pb:Nat->Nat}{pa:Nat->Option Addr}{pk:Nat->Nat}{kn hd:Nat}{vf:Value}{F:List Int}{vk:Value}{K:List Nat}{role:Nat->Nat}(h:SAt B w b z ar kr v4 v8 br cB cO bn pb pa pk kn hd vf F vk K role)(r:Nat)(Mt:List Nat)(i:Nat)(hm:zQ w r bn (Mt.map (λi=>i*2)))(hrl:r<w.heap.size)(hr:r≠b/\(∀j,j<x.cells.length->r≠cB j)/\r≠bn/\(0<(x.c i).prs.length->r≠pb i))(Z:ZIs x z i)(r2:R2 x)(hk:∀k,k<(x.c i).prs.length->a0p x ((x.c i).p k).key/\a0p x ((x.c i).p k).val)(hcap:(x.c i).prs.length<=pk i)(a:World)(ha:a.heap.size<=B)(hx:Ext a w):
  Calls Tryz.prog 147 #[.pointer (some ⟨b,0,none⟩),ndp bn i,.map (some r)] w λe w'=>Hid (e=.returned (.int .i64 (eZ x (λi=>decide (i∈Mt)) (x.c i) (x.c i).prs)))/\Hid (SAt B w' b (goH x (λi=>decide (i∈Mt)) i z) ar kr v4 v8 br cB cO bn pb pa pk kn hd vf F vk K role)/\Hid (zQ w' r bn (Mt.map (λi=>i*2))/\r<w'.heap.size)/\Ext a w':=by
 obtain⟨H,hH⟩:∃H:Nat->Bool,H=λi=>decide (i∈Mt):=⟨_,rfl⟩
 rw[<-hH];have HH:=uU hH;clear hH;have hbw:b<w.heap.size:=h.sb.nb.1;have hcw:cB i<w.heap.size:=(h.rw.nc i (by rw[Z.len];exact Z.hi)).1.1;have hnw:bn<w.heap.size:=h.sb.lo.2.2.1;have hpw:0<(x.c i).prs.length->pb i<w.heap.size:=λq=>(h.rw.pl i (by rw[Z.len];exact Z.hi) (h.rw.pw (by rw[Z.len];exact Z.hi) (by rw[Z.ci];exact q))).2.1.1
 have X4:Ext w ((((w.alloc (.cells #[.pointer (some ⟨b,0,none⟩)] 86)).alloc (.cells #[ndp bn i] 126)).alloc (.cells #[.map (some r)] 110)).alloc (.cells #[.func (.func 214) #[] #[.pointer (some ⟨w.heap.size,0,none⟩),.pointer (some ⟨w.heap.size+1+1,0,none⟩)]] 218)):=(((((Ext.refl w).alloc _).alloc _).alloc _).alloc _)
 have BX4:=uU (show Bxs ((((w.alloc (.cells #[.pointer (some ⟨b,0,none⟩)] 86)).alloc (.cells #[ndp bn i] 126)).alloc (.cells #[.map (some r)] 110)).alloc (.cells #[.func (.func 214) #[] #[.pointer (some ⟨w.heap.size,0,none⟩),.pointer (some ⟨w.heap.size+1+1,0,none⟩)]] 218)) b r w.heap.size (w.heap.size+1+1) (w.heap.size+1) (w.heap.size+1+1+1) bn i Mt from
  ⟨by simp [go_sem],by simp [go_sem],by simp [go_sem],by simp [go_sem],hm.block (X4.block r hrl),Nat.lt_of_lt_of_le hrl X4.size⟩)
 have S4:=uU (h.ext X4);have XA4:=uU (hx.trans X4);have HZ:=uU Z;have R2X:=uU r2;have HK:=uU hk;have EN:=uU (λW=>und_eq (bn:=bn) i (c2v Z.hh Z.hg) W);go_enter Tryz.func147,Tryz.ntmps147;go_wp2_with fail;obtain⟨W4,hW4⟩:∃W,W=((((w.alloc (.cells #[.pointer (some ⟨b,0,none⟩)] 86)).alloc (.cells #[ndp bn i] 126)).alloc (.cells #[.map (some r)] 110)).alloc (.cells #[.func (.func 214) #[] #[.pointer (some ⟨w.heap.size,0,none⟩),.pointer (some ⟨w.heap.size+1+1,0,none⟩)]] 218)):=⟨_,rfl⟩;rw[<-hW4] at BX4 S4 XA4 X4 ⊢;clear hW4 h hm hx Z r2 hk;have cs:=BX4.s;have cn:=BX4.n;have hs1:w.heap.size<W4.heap.size:=uL cs;have hs2:w.heap.size+1<W4.heap.size:=uL cn;go_cut [18] (λs18 wx=>s18=.bool (decide (uV x=(i:Int)))/\Hid (SAt B wx b z ar kr v4 v8 br cB cO bn pb pa pk kn hd vf F vk K role)/\Hid (Bxs wx b r w.heap.size (w.heap.size+1+1) (w.heap.size+1) (w.heap.size+1+1+1) bn i Mt)/\Hid (Ext a wx))
 case first=>
  have en:=uH EN;go_region_with (go_at_call 216;refine(b7o (S4.ext (Ext.refl W4).drew) HZ.hh HZ.hg).mono ?_;rintro e w5 ⟨rfl,q5⟩;have x5:=Ext.trans (Ext.refl W4).drew q5;have dn:=x5.keep cn;have hd5:w.heap.size+1<w5.heap.size:=uL dn;clear q5)
  all_goals
   go_wp2_with fail;go_meet;exact⟨by rw[HZ.sc],S4.ext x5,BX4.ext x5,XA4.trans x5⟩
 case rest=>
  clear cs cn hs1 hs2 S4 BX4 XA4 EN;obtain⟨rfl,S5,B5,X5⟩:=hcut;obtain⟨W5,hW5⟩:∃W,W=wc:=⟨_,rfl⟩;subst hW5
  go_upto_if 18 with(fail)
  go_cut [] (λwx=>Hid (SAt B wx b { z with sub:=qH x H i z.sub } ar kr v4 v8 br cB cO bn pb pa pk kn hd vf F vk K role)/\Hid (Bxs wx b r w.heap.size (w.heap.size+1+1) (w.heap.size+1) (w.heap.size+1+1+1) bn i Mt)/\Hid (Ext a wx))
  case first=>
   by_cases hsc:uV x=(i:Int)
   ·rw[decide_eq_true hsc];have cs:=B5.s;have cn:=B5.n;have hs1:w.heap.size<W5.heap.size:=uL cs;have hs2:w.heap.size+1<W5.heap.size:=uL cn;have zi:i<z.cells.length:=by rw[HZ.len];exact HZ.hi
    have m1:=(S5.sb.nd i zi).2;have p7:=S5.rw.p7 i zi;rw[HZ.ci] at p7;have c7:=S5.sb.bx.2.2.2.2.2.2.2.1;have hsb:=HZ.sb hsc;have hp2:=HZ.p2;obtain⟨n,hn⟩:∃n:Nat,z.sub=(n:Int):=⟨z.sub.toNat,by omega⟩;have HNN:=uU hn;have SUB:=uU (show qH x H i z.sub=z.sub-eZ x H (x.c i) ((x.c i).prs.take n) by unfold qH;rw[if_pos hsc,hn];simp);rw[hn] at c7;have hnl:n<=(x.c i).prs.length:=by omega
    have n0:(0:Int)<=(n:Int):=by omega
    have n1:(n:Int)<=(pk i:Int):=by omega
    have hbn5:bn<W5.heap.size:=uL m1;have hbc5:cB i<W5.heap.size:=uL p7;have hb5:b<W5.heap.size:=uL c7;clear hn hsc hsb;go_wp2_with fail;go_quiet (fail);go_wp2_with fail;go_loopw [34] (λk wr=>∃j:Nat,j<=n/\k=.int .i64 j/\Hid (SAt B wr b { z with sub:=z.sub-eZ x H (x.c i) ((x.c i).prs.take j) } ar kr v4 v8 br cB cO bn pb pa pk kn hd vf F vk K role)/\Hid (Bxs wr b r w.heap.size (w.heap.size+1+1) (w.heap.size+1) (w.heap.size+1+1+1) bn i Mt)/\Hid (Ext a wr)) (λk _=>n-(intOf k).toNat)
    case atStart=>exact⟨0,Nat.zero_le _,rfl,by
     have e:({ z with sub:=z.sub-eZ x H (x.c i) ((x.c i).prs.take 0) }:Hp)=z:=by simp [eZ]
     rw[e];exact S5.ext ((Ext.refl _).drewN _),B5.ext ((Ext.refl _).drewN _),X5.trans ((Ext.refl _).drewN _)⟩
    case round=>
     clear cs cn hs1 hs2 m1 p7 c7 hbn5 hbc5 hb5 S5 B5 X5;obtain⟨j,hj,rfl,hS,hB,hX⟩:=hrel;by_cases hlt:j<n
     ·have hjl:j<(x.c i).prs.length:=by omega
      have hpa:=(hS.rw.pl i zi (hS.rw.pw zi (by show 0<(z.c i).prs.length;rw[HZ.ci];omega))).1;have pp:=hS.rw.p i zi j (by show j<(z.c i).prs.length;rw[HZ.ci];exact hjl);have ec:({ z with sub:=z.sub-eZ x H (x.c i) ((x.c i).prs.take j) }:Hp).c i=x.c i:=HZ.ci;rw[ec] at pp;obtain⟨y,hy⟩:∃y,y=(x.c i).p j:=⟨_,rfl⟩;rw[<-hy] at pp;obtain⟨e0,e1,e2,e3,e4,e5⟩:=pp;have hgw:pb i<wr.heap.size:=uL e0;have hj0:(0:Int)<=(j:Int):=by omega
      have hj1:(j:Int)<(n:Int):=by omega
      have xa:=(Ext.refl wr).alloc (.cells #[iv y.key.k,iv y.key.n,iv y.key.a,iv y.val.k,iv y.val.n,iv y.val.a] 154);have GA:=uU ((hS.ext xa).goat (hB.ext xa) HZ.len HZ.st zi (by show(z.c i).weak=_;rw[HZ.ci]));have C:=uU (c0r x y b r _ _ _ _ bn kn i (acB cB cO) Mt _ GA R2X (by rw[hy];exact(HK j hjl).1) (by rw[hy];exact(HK j hjl).2));rw[<-uH HH] at C
      have GT:=uU (show eZ x H (x.c i) ((x.c i).prs.take (j+1))=eZ x H (x.c i) ((x.c i).prs.take j)+if goB x H (x.c i) y=true then 1 else 0 by
       rw[hy,<-Cl.p_eq _ _ hjl,List.take_succ_eq_append_getElem hjl,b8f,a2t]
       split <;> simp [eZ])
      have GL:=a5t x H (x.c i) ((x.c i).prs.take j);have hlt2:((x.c i).prs.take j).length<=200:=by rw[List.length_take];omega
      clear hy ec GA;rw[hpa];go_wp2_with fail;refine C.mono ?_;rintro e w6 ⟨rfl,q6⟩;have x6:=xa.trans q6;have S6:=uU (hS.ext x6);have B6:=uU (hB.ext x6);have X6:=uU (hX.trans x6);cases t:goB x H (x.c i) y
      ·have G:=uU (show eZ x H (x.c i) ((x.c i).prs.take (j+1))=eZ x H (x.c i) ((x.c i).prs.take j) by rw[uH GT,t];simp);clear GT e0 e1 e2 e3 e4 e5;go_wp2_with fail;go_roundw
       case rel=>exact⟨j+1,by omega,by go_num,by rw[uH G];exact uH S6,B6,X6⟩
       case measure=>simp [intOf];omega
      ·have G:=uU (show(eZ x H (x.c i) ((x.c i).prs.take (j+1)):Int)=(eZ x H (x.c i) ((x.c i).prs.take j):Int)+1 by rw[uH GT,t];simp);have d7:=S6.sb.bx.2.2.2.2.2.2.2.1;have f7:=S6.sb.nb.2 7;have ds:=B6.s;have hb6:b<w6.heap.size:=uL d7;have hs6:w.heap.size<w6.heap.size:=uL ds;have wd:=a4y (z.sub-eZ x H (x.c i) ((x.c i).prs.take j)-1) (by have:=uH HNN;omega) (by have:=uH HNN;omega)
       have R:=uU (show SAt B (w6.setCell ⟨b,7,none⟩ (iv (z.sub-eZ x H (x.c i) ((x.c i).prs.take j)-1))) b { z with sub:=z.sub-eZ x H (x.c i) ((x.c i).prs.take (j+1)) } ar kr v4 v8 br cB cO bn pb pa pk kn hd vf F vk K role/\Bxs (w6.setCell ⟨b,7,none⟩ (iv (z.sub-eZ x H (x.c i) ((x.c i).prs.take j)-1))) b r w.heap.size (w.heap.size+1+1) (w.heap.size+1) (w.heap.size+1+1+1) bn i Mt/\Ext a (w6.setCell ⟨b,7,none⟩ (iv (z.sub-eZ x H (x.c i) ((x.c i).prs.take j)-1))) from by
        refine⟨?_,B6.blocks (by simp [World.setCell]) (λq hq hqq=>Below.heap_setCell _ _ _ _ (by show q≠b;have:=hr.1;omega)),X6.setCell (p:=⟨b,7,none⟩) (Nat.le_trans ha S6.sb.lo.1) _⟩;have:=S6.subs (z.sub-eZ x H (x.c i) ((x.c i).prs.take j)-1);have e:({ z with sub:=z.sub-eZ x H (x.c i) ((x.c i).prs.take (j+1)) }:Hp)={ z with sub:=z.sub-eZ x H (x.c i) ((x.c i).prs.take j)-1 }:=by rw[uH G];congr 1;omega
        rw[e];exact this)
       clear GT e0 e1 e2 e3 e4 e5;go_wp2_with fail;go_roundw
       case rel=>exact⟨j+1,by omega,by go_num,R.1,R.2.1,R.2.2⟩
       case measure=>simp [intOf];omega
     ·have je:j=n:=by omega
      subst je;go_wp2_with fail;go_meet;exact⟨by rw[uH SUB];exact uH hS,hB,hX⟩
   ·rw[decide_eq_false hsc];have E:=uU (show qH x H i z.sub=z.sub by unfold qH;rw[if_neg hsc]);go_wp2_with fail;go_meet;exact⟨by rw[uH E];exact uH S5,B5,X5⟩
  case rest=>
   clear S5 B5 X5;obtain⟨S6,B6,X6⟩:=hcut;obtain⟨W6,hW6⟩:∃W,W=wc:=⟨_,rfl⟩;subst hW6;have cn:=B6.n;have zi:i<z.cells.length:=by rw[HZ.len];exact HZ.hi
   have m1:=(S6.sb.nd i zi).2;have p7:=S6.rw.p7 i zi;have ec:({ z with sub:=qH x H i z.sub }:Hp).c i=x.c i:=HZ.ci;rw[ec] at p7;have hp2:=HZ.p2;have hs2:w.heap.size+1<W6.heap.size:=uL cn;have hbn6:bn<W6.heap.size:=uL m1;have hbc6:cB i<W6.heap.size:=uL p7
   have hcb:0<(x.c i).prs.length->pb i≠b/\pb i≠bn/\∀j,j<x.cells.length->pb i≠cB j:=λq=>by
    have q0:0<(({ z with sub:=qH x H i z.sub }:Hp).c i).prs.length:=by rw[ec];exact q
    have h1:=S6.sp.p i zi (S6.rw.pw zi q0);have h2:=S6.sp.b;have h3:=S6.sp.n;refine⟨λe=>?_,λe=>?_,λj hj=>(S6.rw.pl i zi (S6.rw.pw zi q0)).2.2.1.2 j (by rw[<-HZ.len] at hj;exact hj)⟩ <;> rw[e] at h1 <;> omega
   have hix:i<x.cells.length:=HZ.hi;have hni:0<(x.c i).prs.length->pb i≠cB i:=λq=>(hcb q).2.2 i hix
   have AN:=uU (show Ans2 (goB x H (x.c i)) (x.c i).prs (w.heap.size+1) (w.heap.size+1+1+1) (pb i) (λW=>b5b W b r w.heap.size (w.heap.size+1+1) (w.heap.size+1) (w.heap.size+1+1+1) x (acB cB cO) bn kn Mt i) from
    ⟨λW hW k hk=>by
     have:=c0r x (x.c i).prs[k] b r _ _ _ _ bn kn i (acB cB cO) Mt W hW R2X (by rw[Cl.p_eq _ _ hk];exact(HK k hk).1) (by rw[Cl.p_eq _ _ hk];exact(HK k hk).2);rw[<-uH HH] at this;exact this,λW W' hW e=>hW.ext e,λh0 W W' hW o=>hW.only hix o (λq hq e=>by
     have h1:=hpw h0;have h2:=hcb h0;have h3:=hr.2.2.2 h0;rcases hq with h | h | h | h | h | h | h <;> omega) (λj hj e=>(hcb h0).2.2 j hj e.symm)⟩)
   have GD:=uU (show b5b W6.drew b r w.heap.size (w.heap.size+1+1) (w.heap.size+1) (w.heap.size+1+1+1) x (acB cB cO) bn kn Mt i from(S6.ext (Ext.refl W6).drew).goat (B6.ext (Ext.refl W6).drew) HZ.len HZ.st zi (by show(z.c i).weak=_;rw[HZ.ci]))
   have PR:=uU (show a6g W6.drew (pb i) (x.c i).prs from λk hk=>by
    have:=(S6.ext (Ext.refl W6).drew).rw.p i zi k (by rw[ec];exact hk);rw[ec,<-Cl.p_eq _ _ hk] at this;exact this)
   have PN:=uU (show 0<(x.c i).prs.length->pa i=some ⟨pb i,0,none⟩/\Nfp (pb i) (pk i) W6.drew/\(x.c i).prs.length<=pk i from λq=>by
    have:=(S6.ext (Ext.refl W6).drew).rw.pl i zi (S6.rw.pw zi (by rw[ec];exact q));exact⟨this.1,this.2.1,hcap⟩)
   have QD:=uU (c0t (goB x H (x.c i)) (x.c i).prs (w.heap.size+1) (w.heap.size+1+1+1) (pb i) _ AN (pa i) (pk i) W6.drew GD PR PN hp2);have SD:=uU (S6.ext (Ext.refl W6).drew);have BD:=uU (B6.ext (Ext.refl W6).drew);have XD:=uU (X6.trans (Ext.refl W6).drew);clear AN GD PR PN S6 B6 X6
   go_upto_region 11 with(fail)
   go_cut [] (λwx=>Hid (SAt B wx b { z with cells:=z.cells.set i (yL x H (x.c i)),sub:=qH x H i z.sub } ar kr v4 v8 br cB cO bn pb pa pk kn hd vf F vk K role)/\Hid (Bxs wx b r w.heap.size (w.heap.size+1+1) (w.heap.size+1) (w.heap.size+1+1+1) bn i Mt)/\Hid (Ext a wx))
   case first=>
    go_region_with (go_at_call 217;refine QD.mono ?_;rintro e w7 ⟨rfl,pr7,on7,nf7⟩;have n7:=on7.keep (b:=w.heap.size+1) (o:=0) (λe=>by have h1:=hpw e.2;have h2:=e.1;omega) BD.n;have m7:=on7.keep (b:=bn) (o:=i*2+1) (λe=>(hcb e.2).2.1 e.1.symm) (SD.sb.nd i zi).2;have q7:=on7.keep (b:=cB i) (o:=cO i+7) (λe=>hni e.2 e.1.symm) (SD.rw.p7 i zi);have f7:=(on7.frozen (b:=cB i) (o:=cO i+7) (SD.rw.nc i zi).1.1 (λe=>hni e.2 e.1.symm)).trans ((SD.rw.nc i zi).1.2 _);have hn7:w.heap.size+1<w7.heap.size:=uL n7;have hm7:bn<w7.heap.size:=uL m7;have hq7:cB i<w7.heap.size:=uL q7)
    all_goals
     have R:=uU (show SAt B (w7.setCell ⟨cB i,cO i+7,none⟩ (.slice (pa i) (tL (goB x H (x.c i)) (x.c i).prs).length (pk i))) b { z with cells:=z.cells.set i (yL x H (x.c i)),sub:=qH x H i z.sub } ar kr v4 v8 br cB cO bn pb pa pk kn hd vf F vk K role/\Bxs (w7.setCell ⟨cB i,cO i+7,none⟩ (.slice (pa i) (tL (goB x H (x.c i)) (x.c i).prs).length (pk i))) b r w.heap.size (w.heap.size+1+1) (w.heap.size+1) (w.heap.size+1+1+1) bn i Mt/\Ext a (w7.setCell ⟨cB i,cO i+7,none⟩ (.slice (pa i) (tL (goB x H (x.c i)) (x.c i).prs).length (pk i))) from by
      have nfc:Nf1 (cB i) w7:=⟨hq7,λj=>(on7.frozen (b:=cB i) (o:=j) (SD.rw.nc i zi).1.1 (λe=>hni e.2 e.1.symm)).trans ((SD.rw.nc i zi).1.2 j)⟩;have kl:=keep_le (goB x H (x.c i)) (x.c i).prs;have oo:uX (λq=>q=cB i\/(q=pb i/\0<(({ z with sub:=qH x H i z.sub }:Hp).c i).prs.length)) W6.drew (w7.setCell ⟨cB i,cO i+7,none⟩ (.slice (pa i) (tL (goB x H (x.c i)) (x.c i).prs).length (pk i))):=uX.setCell (on7.mono (λq e=>.inr (by rw[ec];exact e))) (p:=⟨cB i,cO i+7,none⟩) (.inl rfl) _;refine⟨?_,?_,?_⟩
      ·have:=SD.stayed i zi (tL (goB x H (x.c i)) (x.c i).prs) (by rw[ec];exact kl) oo (nfc.set _ _) (λq=>(nf7 (by rw[ec] at q;exact q)).set _ _) (World.cell?_setCell_same _ _ _ q7) (λj hj=>(uC _ (.inr (λe=>hj e.symm))).trans (by
        by_cases h0:0<(x.c i).prs.length
        ·exact on7.cells (cB i) (SD.rw.nc i zi).1.1 (λe=>hni e.2 e.1.symm) j
        ·exact on7.cells (cB i) (SD.rw.nc i zi).1.1 (λe=>h0 e.2) j)) (λk hk=>by
        have hk0:0<(x.c i).prs.length:=by omega
        exact(pr7 k hk).same λj _=>uC _ (.inl (λe=>hni hk0 e.symm)))
       rw[ec] at this;exact this
      ·refine BD.blocks (oo.size) (λq hq hqq=>oo.block q hq (λe=>?_));have h1:=hr.2.1 i hix;rcases e with e | ⟨e,e2⟩
       ·omega
       ·rw[ec] at e2;have h2:=hpw e2;have h3:=hr.2.2.2 e2;omega
      ·refine oo.ext XD (λq hq e=>?_);have hB:=(SD.rw.nc i zi).2;rcases e with e | ⟨e,e2⟩
       ·omega
       ·have:=(SD.rw.pl i zi (SD.rw.pw zi e2)).2.2.2;omega)
     clear pr7 on7 nf7;go_wp2_with fail;go_meet;exact⟨R.1,R.2.1,R.2.2⟩
   case rest=>
    clear QD SD BD XD cn m1 p7;obtain⟨S8,B8,X8⟩:=hcut;obtain⟨W8,hW8⟩:∃W,W=wc:=⟨_,rfl⟩;subst hW8
    have ec2:({ z with cells:=z.cells.set i (yL x H (x.c i)),sub:=qH x H i z.sub }:Hp).c i=yL x H (x.c i):=by
     have:=Hp.c_set z i (yL x H (x.c i)) zi i;rw[if_pos rfl] at this;exact this
    have zi2:i<({ z with cells:=z.cells.set i (yL x H (x.c i)),sub:=qH x H i z.sub }:Hp).cells.length:=by simpa using zi
    have n8:=B8.n;have s8:=B8.s;have m8:=(S8.sb.nd i zi2).2;have q8:=S8.rw.p7 i zi2;rw[ec2] at q8;have c8:=S8.sb.bx.2.1;have f8:=S8.sb.nb.2 1;have hn8:w.heap.size+1<W8.heap.size:=uL n8;have hs8:w.heap.size<W8.heap.size:=uL s8;have hm8:bn<W8.heap.size:=uL m8;have hq8:cB i<W8.heap.size:=uL q8;have hb8:b<W8.heap.size:=uL c8;have sg:=a1z x H (x.c i) (x.c i).prs;have us:=HZ.us;obtain⟨L,hL⟩:∃L,L=(yL x H (x.c i)).prs.length:=⟨_,rfl⟩;have hL2:L+eZ x H (x.c i) (x.c i).prs=(x.c i).prs.length:=by rw[hL];exact sg
    rw[<-hL] at q8;have EQ:((x.c i).prs.length:Int)-(L:Int)=(eZ x H (x.c i) (x.c i).prs:Int):=by omega
    have HEQ:=uU EQ;have hEL:L<=(x.c i).prs.length:=by omega
    clear EQ
    have R:=uU (show SAt B (W8.setCell ⟨b,1,none⟩ (iv (z.used-eZ x H (x.c i) (x.c i).prs))) b (goH x H i z) ar kr v4 v8 br cB cO bn pb pa pk kn hd vf F vk K role/\(zQ (W8.setCell ⟨b,1,none⟩ (iv (z.used-eZ x H (x.c i) (x.c i).prs))) r bn (Mt.map (λi=>i*2))/\r<(W8.setCell ⟨b,1,none⟩ (iv (z.used-eZ x H (x.c i) (x.c i).prs))).heap.size)/\Ext a (W8.setCell ⟨b,1,none⟩ (iv (z.used-eZ x H (x.c i) (x.c i).prs))) from
     ⟨S8.usedTo _,⟨B8.m.block (Below.heap_setCell _ _ _ _ (by show r≠b;exact hr.1)),by have:=B8.rl;simpa [World.setCell] using this⟩,X8.setCell (p:=⟨b,1,none⟩) (Nat.le_trans ha S8.sb.lo.1) _⟩)
    clear S8 B8 X8 hL sg ec ec2;go_wp2_with fail;go_ret;rw[uH HEQ];exact⟨rfl,R.1,R.2.1,R.2.2⟩
end Go.Proofs.YtddkhnclmeikfaaGreat
