import Derived.Test.YtddkhnclmeikfaaGreatDn3
set_option maxRecDepth 100000
set_option maxHeartbeats 2000000
namespace Go.Proofs.YtddkhnclmeikfaaGreat
open Go.RowKit
attribute [local go_sem ↓] Go.wp_at_zero Go.wp_at_succ
def goH(x:Hp)(H:Nat→Bool)(i:Nat)(z:Hp):Hp:={ z with cells:=z.cells.set i (letC x H (x.c i)),used:=z.used-goes x H (x.c i) (x.c i).prs,sub:=letSub x H i z.sub }
structure ZIs(x z:Hp)(i:Nat):Prop where
 len:z.cells.length=x.cells.length
 st:∀q,(z.c q).st=(x.c q).st∧(z.c q).to=(x.c q).to
 ci:z.c i=x.c i
 hi:i<x.cells.length
 sc:scanI z=scanI x
 hh:0≤z.hand∧z.hand≤z.cells.length
 hg:∀g,g∈z.gray→0≤g∧g<z.cells.length
 sb:scanI x=(i:Int)→0≤z.sub∧z.sub≤(x.c i).prs.length
 us:-2000000≤z.used∧z.used≤2000000
 p2:(x.c i).prs.length≤200
theorem letGo_any[Inhabited ProtD]{B:Nat}{w:World}{b:Nat}{x z:Hp}{ar:Option Addr}{kr:Nat}{v4 v8:Value}{br bn:Nat}{cB cO:Nat→Nat}{pb:Nat→Nat}{pa:Nat→Option Addr}{pk:Nat→Nat}{kn hd:Nat}{vf:Value}{F:List Int}{vk:Value}{K:List Nat}{role:Nat→Nat}(h:SAt B w b z ar kr v4 v8 br cB cO bn pb pa pk kn hd vf F vk K role)(r:Nat)(Mt:List Nat)(i:Nat)(hm:MapAt w r bn (Mt.map (fun i=>i*2)))(hrl:r<w.heap.size)(hr:r≠b∧(∀j,j<x.cells.length→r≠cB j)∧r≠bn∧(0<(x.c i).prs.length→r≠pb i))(Z:ZIs x z i)(r2:R2 x)(hk:∀k,k<(x.c i).prs.length→MayMark x ((x.c i).p k).key∧MayMark x ((x.c i).p k).val)(hcap:(x.c i).prs.length≤pk i)(a:World)(ha:a.heap.size≤B)(hx:Ext a w):
  Calls Tryz.prog 147 #[.pointer (some ⟨b,0,none⟩),ndp bn i,.map (some r)] w fun e w'=>Hid (e=.returned (.int .i64 (goes x (fun i=>decide (i∈Mt)) (x.c i) (x.c i).prs)))∧Hid (SAt B w' b (goH x (fun i=>decide (i∈Mt)) i z) ar kr v4 v8 br cB cO bn pb pa pk kn hd vf F vk K role)∧Hid (MapAt w' r bn (Mt.map (fun i=>i*2))∧r<w'.heap.size)∧Ext a w':=by
 obtain⟨H,hH⟩:∃H:Nat→Bool,H=fun i=>decide (i∈Mt):=⟨_,rfl⟩
 rw[←hH];have HH:=hide hH;clear hH;have hbw:b<w.heap.size:=h.sb.nb.1;have hcw:cB i<w.heap.size:=(h.rw.nc i (by rw[Z.len];exact Z.hi)).1.1;have hnw:bn<w.heap.size:=h.sb.lo.2.2.1;have hpw:0<(x.c i).prs.length→pb i<w.heap.size:=fun q=>(h.rw.pl i (by rw[Z.len];exact Z.hi) (h.rw.pw (by rw[Z.len];exact Z.hi) (by rw[Z.ci];exact q))).2.1.1
 have X4:Ext w ((((w.alloc (.cells #[.pointer (some ⟨b,0,none⟩)] 86)).alloc (.cells #[ndp bn i] 126)).alloc (.cells #[.map (some r)] 110)).alloc (.cells #[.func (.func 214) #[] #[.pointer (some ⟨w.heap.size,0,none⟩),.pointer (some ⟨w.heap.size+1+1,0,none⟩)]] 218)):=(((((Ext.refl w).alloc _).alloc _).alloc _).alloc _)
 have BX4:=hide (show Bxs ((((w.alloc (.cells #[.pointer (some ⟨b,0,none⟩)] 86)).alloc (.cells #[ndp bn i] 126)).alloc (.cells #[.map (some r)] 110)).alloc (.cells #[.func (.func 214) #[] #[.pointer (some ⟨w.heap.size,0,none⟩),.pointer (some ⟨w.heap.size+1+1,0,none⟩)]] 218)) b r w.heap.size (w.heap.size+1+1) (w.heap.size+1) (w.heap.size+1+1+1) bn i Mt from
  ⟨by simp [go_sem],by simp [go_sem],by simp [go_sem],by simp [go_sem],hm.block (X4.block r hrl),Nat.lt_of_lt_of_le hrl X4.size⟩)
 have S4:=hide (h.ext X4);have XA4:=hide (hx.trans X4);have HZ:=hide Z;have R2X:=hide r2;have HK:=hide hk;have EN:=hide (fun W=>und_eq (bn:=bn) i (scan_range Z.hh Z.hg) W);go_enter Tryz.func147,Tryz.ntmps147;go_wp2_with fail;obtain⟨W4,hW4⟩:∃W,W=((((w.alloc (.cells #[.pointer (some ⟨b,0,none⟩)] 86)).alloc (.cells #[ndp bn i] 126)).alloc (.cells #[.map (some r)] 110)).alloc (.cells #[.func (.func 214) #[] #[.pointer (some ⟨w.heap.size,0,none⟩),.pointer (some ⟨w.heap.size+1+1,0,none⟩)]] 218)):=⟨_,rfl⟩;rw[←hW4] at BX4 S4 XA4 X4 ⊢;clear hW4 h hm hx Z r2 hk;have cs:=(unhide BX4).s;have cn:=(unhide BX4).n;have hs1:w.heap.size<W4.heap.size:=cell_lt cs;have hs2:w.heap.size+1<W4.heap.size:=cell_lt cn;go_cut [18] (fun s18 wx=>s18=.bool (decide (scanI x=(i:Int)))∧Hid (SAt B wx b z ar kr v4 v8 br cB cO bn pb pa pk kn hd vf F vk K role)∧Hid (Bxs wx b r w.heap.size (w.heap.size+1+1) (w.heap.size+1) (w.heap.size+1+1+1) bn i Mt)∧Hid (Ext a wx))
 case first=>
  have en:=unhide EN;go_region_with (go_at_call 216;refine(underway_any ((unhide S4).ext (Ext.refl W4).drew) (unhide HZ).hh (unhide HZ).hg).mono ?_;rintro e w5 ⟨rfl,q5⟩;have x5:=Ext.trans (Ext.refl W4).drew q5;have dn:=x5.keep cn;have hd5:w.heap.size+1<w5.heap.size:=cell_lt dn;clear q5)
  all_goals
   go_wp2_with fail;go_meet;exact⟨by rw[(unhide HZ).sc],(unhide S4).ext x5,(unhide BX4).ext x5,(unhide XA4).trans x5⟩
 case rest=>
  clear cs cn hs1 hs2 S4 BX4 XA4 EN;obtain⟨rfl,S5,B5,X5⟩:=hcut;obtain⟨W5,hW5⟩:∃W,W=wc:=⟨_,rfl⟩;subst hW5
  go_upto_if 18 with(fail)
  go_cut [] (fun wx=>Hid (SAt B wx b { z with sub:=letSub x H i z.sub } ar kr v4 v8 br cB cO bn pb pa pk kn hd vf F vk K role)∧Hid (Bxs wx b r w.heap.size (w.heap.size+1+1) (w.heap.size+1) (w.heap.size+1+1+1) bn i Mt)∧Hid (Ext a wx))
  case first=>
   by_cases hsc:scanI x=(i:Int)
   ·rw[decide_eq_true hsc];have cs:=(unhide B5).s;have cn:=(unhide B5).n;have hs1:w.heap.size<W5.heap.size:=cell_lt cs;have hs2:w.heap.size+1<W5.heap.size:=cell_lt cn;have zi:i<z.cells.length:=by rw[(unhide HZ).len];exact(unhide HZ).hi
    have m1:=((unhide S5).sb.nd i zi).2;have p7:=(unhide S5).rw.p7 i zi;rw[(unhide HZ).ci] at p7;have c7:=(unhide S5).sb.bx.2.2.2.2.2.2.2.1;have hsb:=(unhide HZ).sb hsc;have hp2:=(unhide HZ).p2;obtain⟨n,hn⟩:∃n:Nat,z.sub=(n:Int):=⟨z.sub.toNat,by omega⟩;have HNN:=hide hn;have SUB:=hide (show letSub x H i z.sub=z.sub-goes x H (x.c i) ((x.c i).prs.take n) by unfold letSub;rw[if_pos hsc,hn];simp);rw[hn] at c7;have hnl:n≤(x.c i).prs.length:=by omega
    have n0:(0:Int)≤(n:Int):=by omega
    have n1:(n:Int)≤(pk i:Int):=by omega
    have hbn5:bn<W5.heap.size:=cell_lt m1;have hbc5:cB i<W5.heap.size:=cell_lt p7;have hb5:b<W5.heap.size:=cell_lt c7;clear hn hsc hsb;go_wp2_with fail;go_quiet (fail);go_wp2_with fail;go_loopw [34] (fun k wr=>∃j:Nat,j≤n∧k=.int .i64 j∧Hid (SAt B wr b { z with sub:=z.sub-goes x H (x.c i) ((x.c i).prs.take j) } ar kr v4 v8 br cB cO bn pb pa pk kn hd vf F vk K role)∧Hid (Bxs wr b r w.heap.size (w.heap.size+1+1) (w.heap.size+1) (w.heap.size+1+1+1) bn i Mt)∧Hid (Ext a wr)) (fun k _=>n-(intOf k).toNat)
    case atStart=>exact⟨0,Nat.zero_le _,rfl,by
     have e:({ z with sub:=z.sub-goes x H (x.c i) ((x.c i).prs.take 0) }:Hp)=z:=by simp [goes]
     rw[e];exact(unhide S5).ext ((Ext.refl _).drewN _),(unhide B5).ext ((Ext.refl _).drewN _),(unhide X5).trans ((Ext.refl _).drewN _)⟩
    case round=>
     clear cs cn hs1 hs2 m1 p7 c7 hbn5 hbc5 hb5 S5 B5 X5;obtain⟨j,hj,rfl,hS,hB,hX⟩:=hrel;by_cases hlt:j<n
     ·have hjl:j<(x.c i).prs.length:=by omega
      have hpa:=((unhide hS).rw.pl i zi ((unhide hS).rw.pw zi (by show 0<(z.c i).prs.length;rw[(unhide HZ).ci];omega))).1;have pp:=(unhide hS).rw.p i zi j (by show j<(z.c i).prs.length;rw[(unhide HZ).ci];exact hjl);have ec:({ z with sub:=z.sub-goes x H (x.c i) ((x.c i).prs.take j) }:Hp).c i=x.c i:=(unhide HZ).ci;rw[ec] at pp;obtain⟨y,hy⟩:∃y,y=(x.c i).p j:=⟨_,rfl⟩;rw[←hy] at pp;obtain⟨e0,e1,e2,e3,e4,e5⟩:=pp;have hgw:pb i<wr.heap.size:=cell_lt e0;have hj0:(0:Int)≤(j:Int):=by omega
      have hj1:(j:Int)<(n:Int):=by omega
      have xa:=(Ext.refl wr).alloc (.cells #[iv y.key.k,iv y.key.n,iv y.key.a,iv y.val.k,iv y.val.n,iv y.val.a] 154);have GA:=hide (((unhide hS).ext xa).goat ((unhide hB).ext xa) (unhide HZ).len (unhide HZ).st zi (by show(z.c i).weak=_;rw[(unhide HZ).ci]));have C:=hide (goes_any x y b r _ _ _ _ bn kn i (acB cB cO) Mt _ (unhide GA) (unhide R2X) (by rw[hy];exact(unhide HK j hjl).1) (by rw[hy];exact(unhide HK j hjl).2));rw[←unhide HH] at C
      have GT:=hide (show goes x H (x.c i) ((x.c i).prs.take (j+1))=goes x H (x.c i) ((x.c i).prs.take j)+if goB x H (x.c i) y=true then 1 else 0 by
       rw[hy,←Cl.p_eq _ _ hjl,List.take_succ_eq_append_getElem hjl,goes_append,goes_cons]
       split <;> simp [goes])
      have GL:=goes_le x H (x.c i) ((x.c i).prs.take j);have hlt2:((x.c i).prs.take j).length≤200:=by rw[List.length_take];omega
      clear hy ec GA;rw[hpa];go_wp2_with fail;refine(unhide C).mono ?_;rintro e w6 ⟨rfl,q6⟩;have x6:=xa.trans q6;have S6:=hide ((unhide hS).ext x6);have B6:=hide ((unhide hB).ext x6);have X6:=hide ((unhide hX).trans x6);cases t:goB x H (x.c i) y
      ·have G:=hide (show goes x H (x.c i) ((x.c i).prs.take (j+1))=goes x H (x.c i) ((x.c i).prs.take j) by rw[unhide GT,t];simp);clear GT e0 e1 e2 e3 e4 e5;go_wp2_with fail;go_roundw
       case rel=>exact⟨j+1,by omega,by go_num,by rw[unhide G];exact unhide S6,unhide B6,unhide X6⟩
       case measure=>simp [intOf];omega
      ·have G:=hide (show(goes x H (x.c i) ((x.c i).prs.take (j+1)):Int)=(goes x H (x.c i) ((x.c i).prs.take j):Int)+1 by rw[unhide GT,t];simp);have d7:=(unhide S6).sb.bx.2.2.2.2.2.2.2.1;have f7:=(unhide S6).sb.nb.2 7;have ds:=(unhide B6).s;have hb6:b<w6.heap.size:=cell_lt d7;have hs6:w.heap.size<w6.heap.size:=cell_lt ds;have wd:=wrap_wide (z.sub-goes x H (x.c i) ((x.c i).prs.take j)-1) (by have:=unhide HNN;omega) (by have:=unhide HNN;omega)
       have R:=hide (show SAt B (w6.setCell ⟨b,7,none⟩ (iv (z.sub-goes x H (x.c i) ((x.c i).prs.take j)-1))) b { z with sub:=z.sub-goes x H (x.c i) ((x.c i).prs.take (j+1)) } ar kr v4 v8 br cB cO bn pb pa pk kn hd vf F vk K role∧Bxs (w6.setCell ⟨b,7,none⟩ (iv (z.sub-goes x H (x.c i) ((x.c i).prs.take j)-1))) b r w.heap.size (w.heap.size+1+1) (w.heap.size+1) (w.heap.size+1+1+1) bn i Mt∧Ext a (w6.setCell ⟨b,7,none⟩ (iv (z.sub-goes x H (x.c i) ((x.c i).prs.take j)-1))) from by
        refine⟨?_,(unhide B6).blocks (by simp [World.setCell]) (fun q hq hqq=>Below.heap_setCell _ _ _ _ (by show q≠b;have:=hr.1;omega)),(unhide X6).setCell (p:=⟨b,7,none⟩) (Nat.le_trans ha (unhide S6).sb.lo.1) _⟩;have:=(unhide S6).subs (z.sub-goes x H (x.c i) ((x.c i).prs.take j)-1);have e:({ z with sub:=z.sub-goes x H (x.c i) ((x.c i).prs.take (j+1)) }:Hp)={ z with sub:=z.sub-goes x H (x.c i) ((x.c i).prs.take j)-1 }:=by rw[unhide G];congr 1;omega
        rw[e];exact this)
       clear GT e0 e1 e2 e3 e4 e5;go_wp2_with fail;go_roundw
       case rel=>exact⟨j+1,by omega,by go_num,(unhide R).1,(unhide R).2.1,(unhide R).2.2⟩
       case measure=>simp [intOf];omega
     ·have je:j=n:=by omega
      subst je;go_wp2_with fail;go_meet;exact⟨by rw[unhide SUB];exact unhide hS,unhide hB,unhide hX⟩
   ·rw[decide_eq_false hsc];have E:=hide (show letSub x H i z.sub=z.sub by unfold letSub;rw[if_neg hsc]);go_wp2_with fail;go_meet;exact⟨by rw[unhide E];exact unhide S5,unhide B5,unhide X5⟩
  case rest=>
   clear S5 B5 X5;obtain⟨S6,B6,X6⟩:=hcut;obtain⟨W6,hW6⟩:∃W,W=wc:=⟨_,rfl⟩;subst hW6;have cn:=(unhide B6).n;have zi:i<z.cells.length:=by rw[(unhide HZ).len];exact(unhide HZ).hi
   have m1:=((unhide S6).sb.nd i zi).2;have p7:=(unhide S6).rw.p7 i zi;have ec:({ z with sub:=letSub x H i z.sub }:Hp).c i=x.c i:=(unhide HZ).ci;rw[ec] at p7;have hp2:=(unhide HZ).p2;have hs2:w.heap.size+1<W6.heap.size:=cell_lt cn;have hbn6:bn<W6.heap.size:=cell_lt m1;have hbc6:cB i<W6.heap.size:=cell_lt p7
   have hcb:0<(x.c i).prs.length→pb i≠b∧pb i≠bn∧∀j,j<x.cells.length→pb i≠cB j:=fun q=>by
    have q0:0<(({ z with sub:=letSub x H i z.sub }:Hp).c i).prs.length:=by rw[ec];exact q
    have h1:=(unhide S6).sp.p i zi ((unhide S6).rw.pw zi q0);have h2:=(unhide S6).sp.b;have h3:=(unhide S6).sp.n;refine⟨fun e=>?_,fun e=>?_,fun j hj=>((unhide S6).rw.pl i zi ((unhide S6).rw.pw zi q0)).2.2.1.2 j (by rw[←(unhide HZ).len] at hj;exact hj)⟩ <;> rw[e] at h1 <;> omega
   have hix:i<x.cells.length:=(unhide HZ).hi;have hni:0<(x.c i).prs.length→pb i≠cB i:=fun q=>(hcb q).2.2 i hix
   have AN:=hide (show Ans2 (goB x H (x.c i)) (x.c i).prs (w.heap.size+1) (w.heap.size+1+1+1) (pb i) (fun W=>GoAt W b r w.heap.size (w.heap.size+1+1) (w.heap.size+1) (w.heap.size+1+1+1) x (acB cB cO) bn kn Mt i) from
    ⟨fun W hW k hk=>by
     have:=goes_any x (x.c i).prs[k] b r _ _ _ _ bn kn i (acB cB cO) Mt W hW (unhide R2X) (by rw[Cl.p_eq _ _ hk];exact(unhide HK k hk).1) (by rw[Cl.p_eq _ _ hk];exact(unhide HK k hk).2);rw[←unhide HH] at this;exact this,fun W W' hW e=>hW.ext e,fun h0 W W' hW o=>hW.only hix o (fun q hq e=>by
     have h1:=hpw h0;have h2:=hcb h0;have h3:=hr.2.2.2 h0;rcases hq with h | h | h | h | h | h | h <;> omega) (fun j hj e=>(hcb h0).2.2 j hj e.symm)⟩)
   have GD:=hide (show GoAt W6.drew b r w.heap.size (w.heap.size+1+1) (w.heap.size+1) (w.heap.size+1+1+1) x (acB cB cO) bn kn Mt i from((unhide S6).ext (Ext.refl W6).drew).goat ((unhide B6).ext (Ext.refl W6).drew) (unhide HZ).len (unhide HZ).st zi (by show(z.c i).weak=_;rw[(unhide HZ).ci]))
   have PR:=hide (show PRow W6.drew (pb i) (x.c i).prs from fun k hk=>by
    have:=((unhide S6).ext (Ext.refl W6).drew).rw.p i zi k (by rw[ec];exact hk);rw[ec,←Cl.p_eq _ _ hk] at this;exact this)
   have PN:=hide (show 0<(x.c i).prs.length→pa i=some ⟨pb i,0,none⟩∧Nfp (pb i) (pk i) W6.drew∧(x.c i).prs.length≤pk i from fun q=>by
    have:=((unhide S6).ext (Ext.refl W6).drew).rw.pl i zi ((unhide S6).rw.pw zi (by rw[ec];exact q));exact⟨this.1,this.2.1,hcap⟩)
   have QD:=hide (deleteP_any (goB x H (x.c i)) (x.c i).prs (w.heap.size+1) (w.heap.size+1+1+1) (pb i) _ (unhide AN) (pa i) (pk i) W6.drew (unhide GD) (unhide PR) (unhide PN) hp2);have SD:=hide ((unhide S6).ext (Ext.refl W6).drew);have BD:=hide ((unhide B6).ext (Ext.refl W6).drew);have XD:=hide ((unhide X6).trans (Ext.refl W6).drew);clear AN GD PR PN S6 B6 X6
   go_upto_region 11 with(fail)
   go_cut [] (fun wx=>Hid (SAt B wx b { z with cells:=z.cells.set i (letC x H (x.c i)),sub:=letSub x H i z.sub } ar kr v4 v8 br cB cO bn pb pa pk kn hd vf F vk K role)∧Hid (Bxs wx b r w.heap.size (w.heap.size+1+1) (w.heap.size+1) (w.heap.size+1+1+1) bn i Mt)∧Hid (Ext a wx))
   case first=>
    go_region_with (go_at_call 217;refine(unhide QD).mono ?_;rintro e w7 ⟨rfl,pr7,on7,nf7⟩;have n7:=(unhide on7).keep (b:=w.heap.size+1) (o:=0) (fun e=>by have h1:=hpw e.2;have h2:=e.1;omega) (unhide BD).n;have m7:=(unhide on7).keep (b:=bn) (o:=i*2+1) (fun e=>(hcb e.2).2.1 e.1.symm) ((unhide SD).sb.nd i zi).2;have q7:=(unhide on7).keep (b:=cB i) (o:=cO i+7) (fun e=>hni e.2 e.1.symm) ((unhide SD).rw.p7 i zi);have f7:=((unhide on7).frozen (b:=cB i) (o:=cO i+7) ((unhide SD).rw.nc i zi).1.1 (fun e=>hni e.2 e.1.symm)).trans (((unhide SD).rw.nc i zi).1.2 _);have hn7:w.heap.size+1<w7.heap.size:=cell_lt n7;have hm7:bn<w7.heap.size:=cell_lt m7;have hq7:cB i<w7.heap.size:=cell_lt q7)
    all_goals
     have R:=hide (show SAt B (w7.setCell ⟨cB i,cO i+7,none⟩ (.slice (pa i) (keepL (goB x H (x.c i)) (x.c i).prs).length (pk i))) b { z with cells:=z.cells.set i (letC x H (x.c i)),sub:=letSub x H i z.sub } ar kr v4 v8 br cB cO bn pb pa pk kn hd vf F vk K role∧Bxs (w7.setCell ⟨cB i,cO i+7,none⟩ (.slice (pa i) (keepL (goB x H (x.c i)) (x.c i).prs).length (pk i))) b r w.heap.size (w.heap.size+1+1) (w.heap.size+1) (w.heap.size+1+1+1) bn i Mt∧Ext a (w7.setCell ⟨cB i,cO i+7,none⟩ (.slice (pa i) (keepL (goB x H (x.c i)) (x.c i).prs).length (pk i))) from by
      have nfc:Nf1 (cB i) w7:=⟨hq7,fun j=>((unhide on7).frozen (b:=cB i) (o:=j) ((unhide SD).rw.nc i zi).1.1 (fun e=>hni e.2 e.1.symm)).trans (((unhide SD).rw.nc i zi).1.2 j)⟩;have kl:=keep_le (goB x H (x.c i)) (x.c i).prs;have oo:Only (fun q=>q=cB i∨(q=pb i∧0<(({ z with sub:=letSub x H i z.sub }:Hp).c i).prs.length)) W6.drew (w7.setCell ⟨cB i,cO i+7,none⟩ (.slice (pa i) (keepL (goB x H (x.c i)) (x.c i).prs).length (pk i))):=Only.setCell ((unhide on7).mono (fun q e=>.inr (by rw[ec];exact e))) (p:=⟨cB i,cO i+7,none⟩) (.inl rfl) _;refine⟨?_,?_,?_⟩
      ·have:=(unhide SD).stayed i zi (keepL (goB x H (x.c i)) (x.c i).prs) (by rw[ec];exact kl) oo (nfc.set _ _) (fun q=>(unhide nf7 (by rw[ec] at q;exact q)).set _ _) (World.cell?_setCell_same _ _ _ q7) (fun j hj=>(cell_other _ (.inr (fun e=>hj e.symm))).trans (by
        by_cases h0:0<(x.c i).prs.length
        ·exact(unhide on7).cells (cB i) ((unhide SD).rw.nc i zi).1.1 (fun e=>hni e.2 e.1.symm) j
        ·exact(unhide on7).cells (cB i) ((unhide SD).rw.nc i zi).1.1 (fun e=>h0 e.2) j)) (fun k hk=>by
        have hk0:0<(x.c i).prs.length:=by omega
        exact(unhide pr7 k hk).same fun j _=>cell_other _ (.inl (fun e=>hni hk0 e.symm)))
       rw[ec] at this;exact this
      ·refine(unhide BD).blocks (oo.size) (fun q hq hqq=>oo.block q hq (fun e=>?_));have h1:=hr.2.1 i hix;rcases e with e | ⟨e,e2⟩
       ·omega
       ·rw[ec] at e2;have h2:=hpw e2;have h3:=hr.2.2.2 e2;omega
      ·refine oo.ext (unhide XD) (fun q hq e=>?_);have hB:=((unhide SD).rw.nc i zi).2;rcases e with e | ⟨e,e2⟩
       ·omega
       ·have:=((unhide SD).rw.pl i zi ((unhide SD).rw.pw zi e2)).2.2.2;omega)
     clear pr7 on7 nf7;go_wp2_with fail;go_meet;exact⟨(unhide R).1,(unhide R).2.1,(unhide R).2.2⟩
   case rest=>
    clear QD SD BD XD cn m1 p7;obtain⟨S8,B8,X8⟩:=hcut;obtain⟨W8,hW8⟩:∃W,W=wc:=⟨_,rfl⟩;subst hW8
    have ec2:({ z with cells:=z.cells.set i (letC x H (x.c i)),sub:=letSub x H i z.sub }:Hp).c i=letC x H (x.c i):=by
     have:=Hp.c_set z i (letC x H (x.c i)) zi i;rw[if_pos rfl] at this;exact this
    have zi2:i<({ z with cells:=z.cells.set i (letC x H (x.c i)),sub:=letSub x H i z.sub }:Hp).cells.length:=by simpa using zi
    have n8:=(unhide B8).n;have s8:=(unhide B8).s;have m8:=((unhide S8).sb.nd i zi2).2;have q8:=(unhide S8).rw.p7 i zi2;rw[ec2] at q8;have c8:=(unhide S8).sb.bx.2.1;have f8:=(unhide S8).sb.nb.2 1;have hn8:w.heap.size+1<W8.heap.size:=cell_lt n8;have hs8:w.heap.size<W8.heap.size:=cell_lt s8;have hm8:bn<W8.heap.size:=cell_lt m8;have hq8:cB i<W8.heap.size:=cell_lt q8;have hb8:b<W8.heap.size:=cell_lt c8;have sg:=stay_goes x H (x.c i) (x.c i).prs;have us:=(unhide HZ).us;obtain⟨L,hL⟩:∃L,L=(letC x H (x.c i)).prs.length:=⟨_,rfl⟩;have hL2:L+goes x H (x.c i) (x.c i).prs=(x.c i).prs.length:=by rw[hL];exact sg
    rw[←hL] at q8;have EQ:((x.c i).prs.length:Int)-(L:Int)=(goes x H (x.c i) (x.c i).prs:Int):=by omega
    have HEQ:=hide EQ;have hEL:L≤(x.c i).prs.length:=by omega
    clear EQ
    have R:=hide (show SAt B (W8.setCell ⟨b,1,none⟩ (iv (z.used-goes x H (x.c i) (x.c i).prs))) b (goH x H i z) ar kr v4 v8 br cB cO bn pb pa pk kn hd vf F vk K role∧(MapAt (W8.setCell ⟨b,1,none⟩ (iv (z.used-goes x H (x.c i) (x.c i).prs))) r bn (Mt.map (fun i=>i*2))∧r<(W8.setCell ⟨b,1,none⟩ (iv (z.used-goes x H (x.c i) (x.c i).prs))).heap.size)∧Ext a (W8.setCell ⟨b,1,none⟩ (iv (z.used-goes x H (x.c i) (x.c i).prs))) from
     ⟨(unhide S8).usedTo _,⟨(unhide B8).m.block (Below.heap_setCell _ _ _ _ (by show r≠b;exact hr.1)),by have:=(unhide B8).rl;simpa [World.setCell] using this⟩,(unhide X8).setCell (p:=⟨b,1,none⟩) (Nat.le_trans ha (unhide S8).sb.lo.1) _⟩)
    clear S8 B8 X8 hL sg ec ec2;go_wp2_with fail;go_ret;rw[unhide HEQ];exact⟨rfl,(unhide R).1,(unhide R).2.1,(unhide R).2.2⟩
end Go.Proofs.YtddkhnclmeikfaaGreat
