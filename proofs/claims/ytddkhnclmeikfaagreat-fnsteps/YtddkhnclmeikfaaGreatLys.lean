import Derived.Test.YtddkhnclmeikfaaGreatLv
import Derived.Test.YtddkhnclmeikfaaGreatLt
set_option maxRecDepth 100000
set_option maxHeartbeats 1000000
namespace Go.Proofs.YtddkhnclmeikfaaGreat
open Go.RowKit
attribute [local go_sem ↓] Go.wp_at_zero Go.wp_at_succ
theorem b5a[Inhabited uN](B g:Nat)(x:Hp)(w:World)(h:GOk B w g x)(s:Snd x)(a:World)(ha:a.heap.size<=B)(hx:Ext a w)(i:Nat)(G:List Int)(hg:x.gray=(i:Int)::G)(hin:i<x.cells.length)(hks:¬x.sub<((x.c i).prs.length:Int)):
  Calls Tryz.prog 188 #[.pointer (some ⟨g,0,none⟩)] w λe w'=>e=.returned (.tuple #[])/\GOk B w' g { x with cells:=x.cells.set i (a1d (x.c i)),gray:=G,sub:=0 }/\Ext a w':=by
 obtain⟨ar,kr,ac,kc,vg,br,bc,pb,pa,pk,role,h⟩:=h;obtain⟨ag,kg,rfl⟩:=h.gr.form;have lg:x.gray.length=G.length+1:=by rw[hg];rfl
 have hn:0<x.cells.length:=by omega
 have c4:=h.bx.2.2.2.2.1;have c7:=h.bx.2.2.2.2.2.2.2.1;have c8:=h.bx.2.2.2.2.2.2.2.2.1;obtain⟨gb,go,hag,hg0,_⟩:=h.gr.at 0 (by rw[hg];simp);have eg:x.gray[0]'(by rw[hg];simp)=(i:Int):=by simp [hg]
 rw[eg] at hg0;simp only [Nat.add_zero] at hg0;rw[h.hc hn] at c4;rw[hag,lg] at c8 h;have H:=uU h;have p5:=(h.rw.s i hin).2.2.2.2.2.1;have p7:=h.rw.p7 i hin;have hgw:g<w.heap.size:=uL c4;have lo:=h.lo;have n8:=s.ok.n8;have gl8:G.length<=8000:=by have:=s.r1.gray;omega
 have f7:=h.nf.2 7;have f8:=h.nf.2 8;have f5:=(h.rw.nc hn).1.2 (i*8+5);have i0:(0:Int)<=(i:Int):=by omega
 have i1:(i:Int)<(x.cells.length:Int):=by omega
 have g1:(0:Int)<(G.length:Int)+1:=by omega
 have g2:(1:Int)<=(G.length:Int)+1:=by omega
 have hbc:bc<w.heap.size:=uL p7;have NGC:=uU (show ¬g=bc from λe=>by have h1:=h.sp.g;have h2:=h.sp.c hn;rw[e] at h1;omega);have ngc:¬g=bc:=uH NGC;have ncg:¬bc=g:=λe=>uH NGC e.symm
 have HG:=uU hg;have hbB:=(h.rw.nc hn).2
 have FIN:=uU (show ∀n v',(∀W,Ext w W->Grw W B v' G)->v'.ownBlock=some gb->GOk B ((((w.drewN n).setCell ⟨bc,i*8+5,none⟩ (iv 2)).setCell ⟨g,8,none⟩ v').setCell ⟨g,7,none⟩ (iv 0)) g { x with cells:=x.cells.set i (a1d (x.c i)),gray:=G,sub:=0 }/\Ext a ((((w.drewN n).setCell ⟨bc,i*8+5,none⟩ (iv 2)).setCell ⟨g,8,none⟩ v').setCell ⟨g,7,none⟩ (iv 0)) from λn v' hv ho=>by
  have H2:=h.ext ((Ext.refl w).drewN n)
  have G3:GAt B ((w.drewN n).setCell ⟨bc,i*8+5,none⟩ (iv 2)) g { x with cells:=x.cells.set i (a1d (x.c i)) } ar kr (some ⟨bc,0,none⟩) kc (.slice (some ⟨gb,go,none⟩) (G.length+1) kg) br bc pb pa pk role:=by
   rw[<-h.hc hn];refine H2.setc hin rfl (uX.setCell (S:=λq=>q=bc) (uX.refl _ (w.drewN n)) (p:=⟨bc,i*8+5,none⟩) rfl _) ?_ (λk hk=>uC _ (.inr (by omega))) ((H2.rw.nc hn).1.set _ _);obtain⟨a0,a1,a2,a3,a4,a5,a6⟩:=H2.rw.s i hin;refine⟨?_,?_,?_,?_,?_,World.cell?_setCell_same _ _ _ a5,?_⟩
   ·rw[uC _ (.inr (by omega))];exact a0
   ·rw[uC _ (.inr (by omega))];exact a1
   ·rw[uC _ (.inr (by omega))];exact a2
   ·rw[uC _ (.inr (by omega))];exact a3
   ·rw[uC _ (.inr (by omega))];exact a4
   ·rw[uC _ (.inr (by omega))];exact a6
  have r4:role gb=4:=h.sp.y gb rfl;have hgb:gb≠bc:=λe=>by have:=h.sp.c hn;rw[<-e] at this;omega
  have hv2:Grw ((w.drewN n).setCell ⟨bc,i*8+5,none⟩ (iv 2)) B v' G:=(hv _ ((Ext.refl w).drewN n)).block (λq hq=>Below.heap_setCell _ _ _ _ (λe=>by rw[ho] at hq;injection hq with hq;exact hgb (hq.trans e)));refine⟨(G3.gtail hv2 ho).set7 0,?_⟩;exact(((hx.drewN n).setCell (p:=⟨bc,i*8+5,none⟩) (show a.heap.size<=bc by omega) _).setCell (p:=⟨g,8,none⟩) (show a.heap.size<=g by omega) _).setCell (p:=⟨g,7,none⟩) (show a.heap.size<=g by omega) _)
 have V0:=uU (show kg≠1->∀W,Ext w W->Grw W B (.slice (some ⟨gb,go+1,none⟩) G.length (kg-1)) G from λ_ W e=>by
  have hgr:=(h.ext e).gr;rw[hg] at hgr;exact hgr.tail)
 have V1:=uU (show kg=1->∀W,Ext w W->Grw W B (.slice (some ⟨gb,go,none⟩) G.length 0) G from λek W e=>by
  have hgr:=(h.ext e).gr;rw[hg,ek] at hgr;exact hgr.tail1)
 clear h eg hg lg hag s;go_enter Tryz.func188,Tryz.ntmps188;go_wp2_with fail;go_quiet (fail);go_wp2_with fail
 ·obtain⟨k1,k2⟩:=FIN nq _ (V1 (by assumption)) rfl;refine bodyPost_ret (results_none rfl _ _ _) rfl ?_;exact⟨rfl,k1,k2⟩
 ·obtain⟨k1,k2⟩:=FIN nq _ (V0 (by assumption)) rfl;refine bodyPost_ret (results_none rfl _ _ _) rfl ?_;exact⟨rfl,k1,k2⟩
def lkH(x:Hp)(j:Nat):Hp:=(x.regs.take j).foldl uY x
def grB(x:Hp):Bool:=!x.gray.isEmpty
theorem b6v(x:Hp)(j:Nat)(h:j<x.regs.length):lkH x (j+1)=uY (lkH x j) x.regs[j]:=by
 unfold lkH;rw[List.take_succ_eq_append_getElem h,List.foldl_append];rfl
theorem b5b(x:Hp):lkH x x.regs.length=qK x:=by unfold lkH qK;rw[List.take_length]
theorem c0y{x:Hp}(s:Snd x)(hp:x.phase=2)(j:Nat):Shd x (lkH x j):=by
 refine(Shd.fold (.inr hp) (x.regs.take j) x (λy hy=>?_) (Shd.refl s)).1;obtain⟨i,hi,e⟩:=List.mem_iff_getElem.1 (List.mem_of_mem_take hy);rw[<-e];exact s.good_reg i hi
theorem ssh_gr{z:Hp}{y:Wd}(b:Bool)(hb:grB z=b):(yZ z y=true->grB (a4y z y)=true)/\(yZ z y=false->grB (a4y z y)=b):=by
 refine⟨λh=>?_,λh=>?_⟩
 ·unfold a4y;rw[if_pos h];simp [grB]
 ·unfold a4y;rw[h];simpa using hb
theorem b6w[Inhabited uN](B g:Nat)(x:Hp)(w:World)(h:GOk B w g x)(s:Snd x)(hp:x.phase=2)(a:World)(ha:a.heap.size<=B)(hx:Ext a w)(hg:x.gray=[]):
  Calls Tryz.prog 188 #[.pointer (some ⟨g,0,none⟩)] w λe w'=>e=.returned (.tuple #[])/\GOk B w' g (eC x)/\Ext a w':=by
 obtain⟨ar,kr,ac,kc,vg,br,bc,pb,pa,pk,role,h⟩:=h;obtain⟨ag,kg,rfl⟩:=h.gr.form;have lg:x.gray.length=0:=by rw[hg];rfl
 have c3:=h.bx.2.2.2.1;have c8:=h.bx.2.2.2.2.2.2.2.2.1;have H:=uU h;rw[lg] at c8;have hgw:g<w.heap.size:=uL c3;have lo:=h.lo;have n8:=s.ok.n8;have S:=uU s;have r16:x.regs.length<=16:=by have:=s.r1.regs;omega
 have r0:0<x.regs.length:=by have:=s.r1.regs;omega
 rw[h.ha r0] at c3;have G0:=uU (show grB (lkH x 0)=false by simp [lkH,grB,hg]);have EU:=uU (show eC x=if (qK x).gray=[] then dD (qK x) 3 0 else qK x by unfold eC;rw[hg]);have SH:=uU (c0y s hp);clear h lg hg hp;go_enter Tryz.func188,Tryz.ntmps188;go_wp2_with fail;go_loopw [4,85] (λsm i wr=>∃j,j<=x.regs.length/\i=.int .i64 (j:Nat)/\sm=.bool (grB (lkH x j))/\Hid (∃ag' kg' role',GAt B wr g (lkH x j) ar kr ac kc (.slice ag' (lkH x j).gray.length kg') br bc pb pa pk role')/\Ext a wr) (λ_ i _=>x.regs.length-(intOf i).toNat)
 case atStart=>exact⟨0,Nat.zero_le _,rfl,by rw[uH G0],⟨_,_,_,uH H⟩,hx⟩
 case round=>
  clear c3 c8;obtain⟨j,hj,rfl,rfl,hr,hxr⟩:=hrel;by_cases hlt:j<x.regs.length
  ·obtain⟨ag',kg',role',hG⟩:=uH hr;have er:(lkH x j).regs=x.regs:=(uH SH j).regs;obtain⟨w0,w1,w2⟩:=hG.rw.r j (by rw[er];exact hlt);have eq:(lkH x j).regs[j]'(by rw[er];exact hlt)=x.regs[j]:=by simp [er]
   rw[eq] at w0 w1 w2;have hbr:br<wr.heap.size:=uL w0;have Hj:=uU hG
   have N1:=uU (show(lkH x j).cells.length<=8000/\(lkH x j).gray.length<=8000/\qN (lkH x j) x.regs[j]/\(x.regs[j].k=2->0<=x.regs[j].a/\x.regs[j].a<(lkH x j).cells.length) by
    have hs:=(uH SH j).s;have h8:=hs.ok.n8;have hgr:=hs.r1.gray;refine⟨h8,by omega,?_,λhk=>?_⟩
    ·have:=hs.good_reg j (by rw[er];exact hlt);rw[eq] at this;exact this
    ·have:=(hs.r4.1 j (by rw[er];exact hlt)).1;rw[eq] at this;unfold uK at this;omega)
   have NX:=uU (show lkH x (j+1)=a4y (lkH x j) x.regs[j] by rw[b6v x j hlt,b4y (uH N1).2.2.1 (λhk=>((uH N1).2.2.2 hk).1)]);have hj0:(0:Int)<=(j:Int):=by omega
   have hj1:(j:Int)<(x.regs.length:Int):=by omega
   clear hG er eq hr;obtain⟨b0,hb0⟩:∃b,grB (lkH x j)=b:=⟨_,rfl⟩;have SG:=uU (ssh_gr (y:=x.regs[j]) b0 hb0);rw[hb0];clear hb0;go_wp2_with fail;refine(a5s x.regs[j] _ ((uH Hj).ext ((Ext.refl wr).alloc _)) (uH N1).2.2.2 (uH N1).1 (uH N1).2.1 a ha (hxr.alloc _) ?_).mono ?_
   ·have:=(uH Hj).nf.1;simp;omega
   rintro e w3 ⟨rfl,h3,x3⟩;rw[<-uH NX] at h3;obtain⟨r,hr⟩:∃r,yZ (lkH x j) x.regs[j]=r:=⟨_,rfl⟩;rw[<-uH NX,hr] at SG;rw[hr];clear hr NX N1 w0 w1 w2;cases r
   ·have E1:=uU ((uH SG).2 rfl);go_wp2_with fail;go_roundw
    case rel=>exact⟨j+1,by omega,by go_num,by rw[uH E1],h3,x3⟩
    case measure=>simp [intOf];omega
   ·have E1:=uU ((uH SG).1 rfl);go_wp2_with fail;go_roundw
    case rel=>exact⟨j+1,by omega,by go_num,by rw[uH E1],h3,x3⟩
    case measure=>simp [intOf];omega
  ·have je:j=x.regs.length:=by omega
   subst je;rw[b5b] at hr ⊢
   have HL:=uU (show GOk B wr g (qK x) by
    obtain⟨ag',kg',role',hG⟩:=uH hr;exact⟨_,_,_,_,_,_,_,_,_,_,_,hG⟩)
   clear hr;cases q:grB (qK x)
   ·have EF:=uU (show eC x=dD (qK x) 3 0 by
     have:(qK x).gray=[]:=by simpa [grB] using q
     rw[uH EU,if_pos this])
    go_wp2_with fail;refine(a0y B g (qK x) 3 0 _ (uH HL) a ha hxr).mono ?_;rintro e w2 ⟨rfl,h2,x2⟩;have H2:=uU h2;clear h2;go_wp2_with fail
    go_end0
    exact⟨rfl,by rw[uH EF];exact uH H2,x2⟩
   ·have EF:=uU (show eC x=qK x by
     have:¬(qK x).gray=[]:=λe=>by simp [grB,e] at q
     rw[uH EU,if_neg this])
    go_wp2_with fail
    go_end0
    exact⟨rfl,by rw[uH EF];exact uH HL,hxr⟩
theorem b9k[Inhabited uN](B g:Nat)(x:Hp)(w:World)(h:GOk B w g x)(s:Snd x)(hp:x.phase=2)(a:World)(ha:a.heap.size<=B)(hx:Ext a w):
  Calls Tryz.prog 188 #[.pointer (some ⟨g,0,none⟩)] w λe w'=>e=.returned (.tuple #[])/\GOk B w' g (eC x)/\Ext a w':=by
 cases hg:x.gray with
 | nil=>exact b6w B g x w h s hp a ha hx hg
 | cons i0 G=>
  have hb:=s.r5.2.2 i0 (by rw[hg];exact List.mem_cons_self ..);obtain⟨i,rfl⟩:∃i:Nat,i0=(i:Int):=⟨i0.toNat,by omega⟩;have ei:((i:Int)).toNat=i:=by omega
  have hin:i<x.cells.length:=by omega
  by_cases hs:x.sub<((x.c i).prs.length:Int)
  ·obtain⟨k,hk⟩:∃k:Nat,x.sub=(k:Int):=⟨x.sub.toNat,by have:=s.r1.sub;omega⟩
   have e:eC x={ uY (uY x ((x.c i).p k).key) ((x.c i).p k).val with sub:=(k:Int)+1 }:=by
    have ek:x.sub.toNat=k:=by omega
    unfold eC;rw[hg];simp only [ei,if_pos hs,ek];rw[hk]
   rw[e];exact b6r B g x w h s hp a ha hx i G hg hin k hk (by omega)
  ·have e:eC x={ x with cells:=x.cells.set i (a1d (x.c i)),gray:=G,sub:=0 }:=by
    unfold eC;rw[hg];simp only [ei,if_neg hs]
   rw[e];exact b5a B g x w h s a ha hx i G hg hin hs
theorem b6x[Inhabited uN](B g:Nat)(x:Hp)(w:World)(h:GOk B w g x)(s:Snd x)(a:World)(ha:a.heap.size<=B)(hx:Ext a w):
  Calls Tryz.prog 189 #[.pointer (some ⟨g,0,none⟩)] w λe w'=>e=.returned (.tuple #[])/\GOk B w' g (dE x)/\Ext a w':=by
 obtain⟨ar,kr,ac,kc,vg,br,bc,pb,pa,pk,role,h⟩:=h;have HO:=uU (show GOk B w g x from⟨_,_,_,_,_,_,_,_,_,_,_,h⟩);have H:=uU h;have c4:=h.bx.2.2.2.2.1;have c6:=h.bx.2.2.2.2.2.2.1;have c1:=h.bx.2.1;have hgw:g<w.heap.size:=uL c4;have lo:=h.lo;have n8:=s.ok.n8;have S:=uU s;have hh:=s.r1.hand;clear h;by_cases he:x.hand=x.cells.length
 ·have E:=uU (show dE x=dD x 4 0 by unfold dE;rw[if_pos he]);have heb:(x.hand == (x.cells.length:Int))=true:=by simpa using he
  clear he;go_enter Tryz.func189,Tryz.ntmps189;go_wp2_with fail;go_quiet (fail);go_wp2_with fail;refine(a0y B g x 4 0 _ (HO.ext ((Ext.refl w).drewN _)) a ha (hx.drewN _)).mono ?_;rintro e w2 ⟨rfl,h2,x2⟩;have H2:=uU h2;clear h2;go_wp2_with fail
  try simp only [Exit.inBlock,Exit.then]
  refine bodyPost_ret (results_none rfl _ _ _) rfl ?_;exact⟨rfl,by rw[uH E];exact uH H2,x2⟩
 ·obtain⟨i,hi⟩:∃i:Nat,x.hand=(i:Int):=⟨x.hand.toNat,by omega⟩;have hin:i<x.cells.length:=by omega
  have V:=uU (show wrap64 (1+((x.c i).prs.length:Int))=1+((x.c i).prs.length:Int)/\wrap64 (x.used-(1+((x.c i).prs.length:Int)))=x.used-(1+((x.c i).prs.length:Int)) by
   have hlp:=s.ok.p200 i hin;have hu1:x.used<=4000:=by have:=s.r3.2;have:=s.r1.room;omega
   have hu0:0<=x.used:=by have:=s.r3.1;omega
   exact⟨a2b _ (by omega) (by omega),a2b _ (by omega) (by omega)⟩)
  have heb:(x.hand == (x.cells.length:Int))=false:=by simpa using he
  rw[hi] at heb c6;have hn:0<x.cells.length:=by omega
  rw[H.hc hn] at c4;obtain⟨p0,p1,p2,p3,p4,p5,p6⟩:=H.rw.s i hin;have p7:=H.rw.p7 i hin;have hbc:bc<w.heap.size:=uL p0;have NGC:=uU (show ¬g=bc from λe=>by have h1:=H.sp.g;have h2:=H.sp.c hn;rw[e] at h1;omega);have i0:(0:Int)<=(i:Int):=by omega
  have i1:(i:Int)<(x.cells.length:Int):=by omega
  have ei:x.hand.toNat=i:=by omega
  have EU:=uU (show dE x=if whB (x.c i)=true then { x with used:=x.used-(1+(x.c i).prs.length),cells:=x.cells.set i Cl0,hand:=x.hand+1 } else { x with cells:=x.cells.set i (a1u (x.c i)),hand:=x.hand+1 } by unfold dE;rw[if_neg he,ei]);have HI:=uU hi;have zn:=λn j=>a0q w n #[.int .i64 0,.int .i64 0,.int .i64 0,.int .i64 0,.int .i64 0,.int .i64 0,.int .i64 0,.slice none 0 0] 62 j
  have zf:=λn j=>a3h w n #[.int .i64 0,.int .i64 0,.int .i64 0,.int .i64 0,.int .i64 0,.int .i64 0,.int .i64 0,.slice none 0 0] 62 j
  have zo:=λn o b j (h:b<w.heap.size)=>a3q w n o b j h
  clear he hi ei hh;go_enter Tryz.func189,Tryz.ntmps189;go_wp2_with fail;go_quiet (fail);go_wp2_with fail
  go_region
  all_goals
   obtain⟨W2,hW2⟩:∃W,W=(((((((((w.drewN (nq+1)).alloc (.cells #[.int .i64 0,.int .i64 0,.int .i64 0,.int .i64 0,.int .i64 0,.int .i64 0,.int .i64 0,.slice none 0 0] 62)).setCell ⟨w.heap.size,0,none⟩ (.int .i64 (x.c i).st)).setCell ⟨w.heap.size,1,none⟩ (.int .i64 (x.c i).kind)).setCell ⟨w.heap.size,2,none⟩ (.int .i64 (x.c i).weak)).setCell ⟨w.heap.size,3,none⟩ (.int .i64 (x.c i).last)).setCell ⟨w.heap.size,4,none⟩ (.int .i64 (x.c i).born)).setCell ⟨w.heap.size,5,none⟩ (.int .i64 (x.c i).color)).setCell ⟨w.heap.size,6,none⟩ (.int .i64 (x.c i).to)).setCell ⟨w.heap.size,7,none⟩ (.slice (pa i) (x.c i).prs.length (pk i)):=⟨_,rfl⟩
   have X2:Ext w W2:=by
    rw[hW2];exact(((((((((Ext.refl w).drewN (nq+1)).alloc _).setCell (Nat.le_refl _) _).setCell (Nat.le_refl _) _).setCell (Nat.le_refl _) _).setCell (Nat.le_refl _) _).setCell (Nat.le_refl _) _).setCell (Nat.le_refl _) _).setCell (Nat.le_refl _) _ |>.setCell (Nat.le_refl _) _
   have l0:W2.cell? ⟨w.heap.size,0,none⟩=some (iv (x.c i).st):=by
    rw[hW2,uC _ (.inr (by omega)),uC _ (.inr (by omega)),uC _ (.inr (by omega)),uC _ (.inr (by omega)),uC _ (.inr (by omega)),uC _ (.inr (by omega)),uC _ (.inr (by omega))];exact World.cell?_setCell_same _ _ _ (by rw[zn];rfl)
   have l5:W2.cell? ⟨w.heap.size,5,none⟩=some (iv (x.c i).color):=by
    rw[hW2,uC _ (.inr (by omega)),uC _ (.inr (by omega))];exact World.cell?_setCell_same _ _ _ (by rw[uC _ (.inr (by omega)),uC _ (.inr (by omega)),uC _ (.inr (by omega)),uC _ (.inr (by omega)),uC _ (.inr (by omega)),zn];rfl)
   have l7:W2.cell? ⟨w.heap.size,7,none⟩=some (.slice (pa i) (x.c i).prs.length (pk i)):=by
    rw[hW2];exact World.cell?_setCell_same _ _ _ (by rw[uC _ (.inr (by omega)),uC _ (.inr (by omega)),uC _ (.inr (by omega)),uC _ (.inr (by omega)),uC _ (.inr (by omega)),uC _ (.inr (by omega)),uC _ (.inr (by omega)),zn];rfl)
   rw[<-hW2];clear hW2 zn zf zo p0 p1 p2 p3 p4 p6 p7;have H2:=uU (H.ext X2);have d6:=X2.keep c6;have d4:=X2.keep c4;have d1:=X2.keep c1;have d5:=X2.keep p5;have hgW:g<W2.heap.size:=uL d6;have f6:W2.frozen? ⟨g,6,none⟩=false:=H2.nf.2 6;have f1:W2.frozen? ⟨g,1,none⟩=false:=H2.nf.2 1;have fc:=(H2.rw.nc hn).1.2;have ngc:¬g=bc:=uH NGC;have ncg:¬bc=g:=λe=>uH NGC e.symm
   clear c1 c4 c6 p5
   have G3:=uU (show GOk B (W2.setCell ⟨bc,i*8+5,none⟩ (iv 0)) g { x with cells:=x.cells.set i (a1u (x.c i)) } by
    refine⟨_,_,_,_,_,_,_,_,_,_,_,H2.setc hin rfl (uX.setCell (S:=λq=>q=bc) (uX.refl _ W2) (p:=⟨bc,i*8+5,none⟩) rfl _) ?_ (λk hk=>uC _ (.inr (by omega))) ((H2.rw.nc hn).1.set _ _)⟩;obtain⟨a0,a1,a2,a3,a4,a5,a6⟩:=H2.rw.s i hin;refine⟨?_,?_,?_,?_,?_,World.cell?_setCell_same _ _ _ a5,?_⟩
    ·rw[uC _ (.inr (by omega))];exact a0
    ·rw[uC _ (.inr (by omega))];exact a1
    ·rw[uC _ (.inr (by omega))];exact a2
    ·rw[uC _ (.inr (by omega))];exact a3
    ·rw[uC _ (.inr (by omega))];exact a4
    ·rw[uC _ (.inr (by omega))];exact a6)
   have G4:=uU ((G3.set6 ((i:Int)+1)).ext (Ext.refl _).drew);clear G3;have hbB:=(H2.rw.nc hn).2;have X3:=uU (((hx.trans X2).setCell (p:=⟨bc,i*8+5,none⟩) (show a.heap.size<=bc from Nat.le_trans ha hbB) (iv 0)).setCell (p:=⟨g,6,none⟩) (show a.heap.size<=g by omega) (iv ((i:Int)+1)) |>.drew);cases q1:((x.c i).st == 1)
   ·have EF:=uU (show dE x={ x with cells:=x.cells.set i (a1u (x.c i)),hand:=x.hand+1 } by rw[uH EU,if_neg (by simp [whB,q1])]);rw[uH HI] at EF;go_wp2_with fail
    go_region
    all_goals
     go_wp2_with fail
     go_end0
     exact⟨rfl,by rw[uH EF];exact uH G4,X3⟩
   ·cases q2:((x.c i).color == 0)
    ·have EF:=uU (show dE x={ x with cells:=x.cells.set i (a1u (x.c i)),hand:=x.hand+1 } by rw[uH EU,if_neg (by simp [whB,q2])]);rw[uH HI] at EF;go_wp2_with fail
     go_region
     all_goals
      go_wp2_with fail
      go_end0
      exact⟨rfl,by rw[uH EF];exact uH G4,X3⟩
    ·have EF:=uU (show dE x={ x with used:=x.used-(1+(x.c i).prs.length),cells:=x.cells.set i Cl0,hand:=x.hand+1 } by rw[uH EU,if_pos (by simp [whB,q1,q2])]);rw[uH HI] at EF;clear G4 X3;go_wp2_with fail
     go_region
     all_goals
      rw[V.1,V.2];obtain⟨W3,hW3⟩:∃W,W=(W2.setCell ⟨g,1,none⟩ (iv (x.used-(1+(x.c i).prs.length)))).drew:=⟨_,rfl⟩
      have H3:=uU (show GAt B W3 g { x with used:=x.used-(1+(x.c i).prs.length) } ar kr ac kc vg br bc pb pa pk role by
       rw[hW3];exact(H2.boxed (x':={ x with used:=x.used-(1+(x.c i).prs.length) }) (uX.setCell (S:=λq=>q=g) (uX.refl _ W2) (p:=⟨g,1,none⟩) rfl _) (H2.nf.set _ _) rfl rfl rfl (H2.bx.set1 _)).ext (Ext.refl _).drew)
      have X3:Ext a W3:=by rw[hW3];exact((hx.trans X2).setCell (p:=⟨g,1,none⟩) (show a.heap.size<=g by omega) _).drew
      rw[<-hW3];clear hW3 V l0 l5 l7 d1 d4 d5 d6 f6 f1 fc X2;have e4:=H3.bx.2.2.2.2.1;rw[H2.hc hn] at e4;have e6:W3.cell? ⟨g,6,none⟩=some (iv i):=by rw[<-uH HI];exact H3.bx.2.2.2.2.2.2.1
      obtain⟨e0,e1,e2,e3,ee4,e5,ee6⟩:=H3.rw.s i hin;have e7:=H3.rw.p7 i hin;have f6:W3.frozen? ⟨g,6,none⟩=false:=H3.nf.2 6;have fc:=(H3.rw.nc hn).1.2;have G4:=uU (((H3.wipe i hin 0 0).set6 ((i:Int)+1)).ext (Ext.refl _).drew);have X4:=uU (show Ext a (((zY W3 bc (i*8) 0 0).setCell ⟨g,6,none⟩ (iv ((i:Int)+1))).drew) from(((a0g W3 bc (i*8) 0 0).ext X3 (λq hq e=>by have:=(H3.rw.nc hn).2;omega)).setCell (p:=⟨g,6,none⟩) (show a.heap.size<=g by omega) _).drew);unfold zY at G4 X4;go_wp2_with fail
      go_region
      all_goals
       go_wp2_with fail
       go_end0
       exact⟨rfl,by rw[uH EF];exact uH G4,X4⟩
theorem a5c[Inhabited uN](B g:Nat)(x:Hp)(w:World)(h:GOk B w g x)(s:Snd x)(h0:x.phase≠0)(a:World)(ha:a.heap.size<=B)(hx:Ext a w):
  Calls Tryz.prog 116 #[.pointer (some ⟨g,0,none⟩)] w λe w'=>e=.returned (.tuple #[])/\GOk B w' g (dK x)/\Ext a w':=by
 have HO:=uU h;obtain⟨_,_,c5,_,lo,hgw⟩:=h.box;have hB:B<=w.heap.size:=by omega
 have S:=uU s;have hc:x.phase=1\/x.phase=2\/x.phase=3\/x.phase=4\/x.phase=5\/x.phase=6:=by have:=s.r1.phase;omega
 have Q1:=uU (show x.phase=1->Calls Tryz.prog 187 #[.pointer (some ⟨g,0,none⟩)] w λe w'=>e=.returned (.tuple #[])/\GOk B w' g (dK x)/\Ext a w' from λe=>by
  have:dK x=qC x:=by unfold dK;rw[if_pos e]
  rw[this];exact b6q B g x w h s a ha hx hB)
 have Q2:=uU (show x.phase=2->Calls Tryz.prog 188 #[.pointer (some ⟨g,0,none⟩)] w λe w'=>e=.returned (.tuple #[])/\GOk B w' g (dK x)/\Ext a w' from λe=>by
  have:dK x=eC x:=by unfold dK;rw[if_neg (by omega),if_pos e]
  rw[this];exact b9k B g x w h s e a ha hx)
 have Q3:=uU (show x.phase=3->Calls Tryz.prog 189 #[.pointer (some ⟨g,0,none⟩)] w λe w'=>e=.returned (.tuple #[])/\GOk B w' g (dK x)/\Ext a w' from λe=>by
  have:dK x=dE x:=by unfold dK;rw[if_neg (by omega),if_neg (by omega),if_pos e]
  rw[this];exact b6x B g x w h s a ha hx)
 have Q4:=uU (show x.phase=4->Calls Tryz.prog 190 #[.pointer (some ⟨g,0,none⟩)] w λe w'=>e=.returned (.tuple #[])/\GOk B w' g (dK x)/\Ext a w' from λe=>by
  have:dK x=unit4 x:=by unfold dK;rw[if_neg (by omega),if_neg (by omega),if_neg (by omega),if_pos e]
  rw[this];exact b9i B g x w h s a ha hx)
 have Q5:=uU (show x.phase=5->Calls Tryz.prog 191 #[.pointer (some ⟨g,0,none⟩)] w λe w'=>e=.returned (.tuple #[])/\GOk B w' g (dK x)/\Ext a w' from λe=>by
  have:dK x=eK x:=by unfold dK;rw[if_neg (by omega),if_neg (by omega),if_neg (by omega),if_neg (by omega),if_pos e]
  rw[this];exact b9j B g x w h s e a ha hx)
 have Q6:=uU (show x.phase=6->Calls Tryz.prog 192 #[.pointer (some ⟨g,0,none⟩)] w λe w'=>e=.returned (.tuple #[])/\GOk B w' g (dK x)/\Ext a w' from λe=>by
  have:dK x=dZ x:=by unfold dK;rw[if_neg (by omega),if_neg (by omega),if_neg (by omega),if_neg (by omega),if_neg (by omega),if_pos e]
  rw[this];exact b6t B g x w h s a ha hx)
 obtain⟨y,hy⟩:∃y,y=dK x:=⟨_,rfl⟩;rw[<-hy] at Q1 Q2 Q3 Q4 Q5 Q6 ⊢;clear hy h s h0;rcases hc with e | e | e | e | e | e
 ·rw[e] at c5;have Q:=uU (Q1 e);clear Q1 Q2 Q3 Q4 Q5 Q6 e;go_enter Tryz.func116,Tryz.ntmps116;go_wp2_with fail;refine Q.mono ?_;rintro e w2 ⟨rfl,h2,x2⟩;have H2:=uU h2;clear h2;go_wp2_with fail
  go_end0
  exact⟨rfl,H2,x2⟩
 ·rw[e] at c5;have Q:=uU (Q2 e);clear Q1 Q2 Q3 Q4 Q5 Q6 e;go_enter Tryz.func116,Tryz.ntmps116;go_wp2_with fail;refine Q.mono ?_;rintro e w2 ⟨rfl,h2,x2⟩;have H2:=uU h2;clear h2;go_wp2_with fail
  go_end0
  exact⟨rfl,H2,x2⟩
 ·rw[e] at c5;have Q:=uU (Q3 e);clear Q1 Q2 Q3 Q4 Q5 Q6 e;go_enter Tryz.func116,Tryz.ntmps116;go_wp2_with fail;refine Q.mono ?_;rintro e w2 ⟨rfl,h2,x2⟩;have H2:=uU h2;clear h2;go_wp2_with fail
  go_end0
  exact⟨rfl,H2,x2⟩
 ·rw[e] at c5;have Q:=uU (Q4 e);clear Q1 Q2 Q3 Q4 Q5 Q6 e;go_enter Tryz.func116,Tryz.ntmps116;go_wp2_with fail;refine Q.mono ?_;rintro e w2 ⟨rfl,h2,x2⟩;have H2:=uU h2;clear h2;go_wp2_with fail
  go_end0
  exact⟨rfl,H2,x2⟩
 ·rw[e] at c5;have Q:=uU (Q5 e);clear Q1 Q2 Q3 Q4 Q5 Q6 e;go_enter Tryz.func116,Tryz.ntmps116;go_wp2_with fail;refine Q.mono ?_;rintro e w2 ⟨rfl,h2,x2⟩;have H2:=uU h2;clear h2;go_wp2_with fail
  go_end0
  exact⟨rfl,H2,x2⟩
 ·rw[e] at c5;have Q:=uU (Q6 e);clear Q1 Q2 Q3 Q4 Q5 Q6 e;go_enter Tryz.func116,Tryz.ntmps116;go_wp2_with fail;refine Q.mono ?_;rintro e w2 ⟨rfl,h2,x2⟩;have H2:=uU h2;clear h2;go_wp2_with fail
  go_end0
  exact⟨rfl,H2,x2⟩
theorem a3y[Inhabited uN](B g:Nat)(x:Hp)(w:World)(h:GOk B w g x)(a:World)(ha:a.heap.size<=B)(hx:Ext a w):
  Calls Tryz.prog 115 #[.pointer (some ⟨g,0,none⟩)] w λe w'=>e=.returned (.tuple #[])/\GOk B w' g (dD x 1 0)/\Ext a w':=by
 have HO:=uU h;clear h;go_enter Tryz.func115,Tryz.ntmps115;go_wp2_with fail;refine(a0y B g x 1 0 _ HO a ha hx).mono ?_;rintro e w2 ⟨rfl,h2,x2⟩;have H2:=uU h2;clear h2;go_wp2_with fail
 go_end0
 exact⟨rfl,H2,x2⟩
theorem b6y[Inhabited uN](B g:Nat)(x:Hp)(n:Nat)(w:World)(h:GOk B w g x)(s:Snd x)(n0:n≠0)(n1:n<=100000)(hp:x.phase≠0)(a:World)(ha:a.heap.size<=B)(hx:Ext a w):
  Calls Tryz.prog 84 #[.pointer (some ⟨g,0,none⟩),.int .i64 n] w λe w'=>∃k:Nat,e=.returned (.int .i64 k)/\Hid (a2n x n k)/\GOk B w' g (itU k x)/\Ext a w':=by
 have HS:=uU h;obtain⟨_,_,c5,_,lo,hgw⟩:=h.box;have S:=uU s;have nb:((n:Int) == 0)=false:=by simpa using n0
 have pb:(x.phase == 0)=false:=by simpa using hp
 have XS:=hx;clear h s hp n0;go_enter Tryz.func84,Tryz.ntmps84;go_wp2_with fail;go_loopw [5] (λd wr=>∃k:Nat,k<=n/\d=.int .i64 k/\Hid (yL x k)/\Hid (GOk B wr g (itU k x))/\Ext a wr) (λd _=>n-(intOf d).toNat)
 case atStart=>exact⟨0,Nat.zero_le _,rfl,yL.zero _,HS,XS⟩
 case round=>
  clear HS XS c5 hgw;obtain⟨k,hk,rfl,hr,hG,hxr⟩:=hrel;obtain⟨_,_,c5,_,_,hgw⟩:=hG.box;cases q:((itU k x).phase == 0)
  ·have qb:((itU k x).phase != 0)=true:=by simpa using q
   have QP:=uU (show(itU k x).phase≠0 by simpa using q);by_cases hlt:k<n
   ·have h1:(k:Int)<(n:Int):=by omega
    go_wp2_with fail;refine(a5c B g _ _ hG (S.itU k) QP a ha hxr).mono ?_;rintro e w3 ⟨rfl,h3,x3⟩;have H3:=uU h3;have R3:=uU (hr.succ QP);clear h3 c5 hgw;go_wp2_with fail;go_roundw
    case rel=>exact⟨k+1,by omega,by go_num,R3,H3,x3⟩
    case measure=>simp [intOf];omega
   ·have h1:¬(k:Int)<(n:Int):=by omega
    have hkn:=uU (show k=n by omega);go_wp2_with fail;go_ret;exact⟨k,rfl,⟨hr,hk,.inl hkn⟩,hG,hxr⟩
  ·have qb:((itU k x).phase != 0)=false:=by simpa using q
   have QP:=uU (show(itU k x).phase=0 by simpa using q);by_cases hlt:k<n
   ·have h1:(k:Int)<(n:Int):=by omega
    go_wp2_with fail;go_ret;exact⟨k,rfl,⟨hr,hk,.inr QP⟩,hG,hxr⟩
   ·have h1:¬(k:Int)<(n:Int):=by omega
    have hkn:=uU (show k=n by omega);go_wp2_with fail;go_ret;exact⟨k,rfl,⟨hr,hk,.inl hkn⟩,hG,hxr⟩
theorem b5c[Inhabited uN](B g:Nat)(x:Hp)(n:Nat)(w:World)(h:GOk B w g x)(s:Snd x)(n0:n≠0)(n1:n<=100000)(hp:x.phase=0)(a:World)(ha:a.heap.size<=B)(hx:Ext a w):
  Calls Tryz.prog 84 #[.pointer (some ⟨g,0,none⟩),.int .i64 n] w λe w'=>∃k:Nat,e=.returned (.int .i64 k)/\Hid (a2n (dD x 1 0) n k)/\GOk B w' g (itU k (dD x 1 0))/\Ext a w':=by
 have HO:=uU h;obtain⟨_,_,c5,_,lo,hgw⟩:=h.box;have S:=uU (s.begin hp);have nb:((n:Int) == 0)=false:=by simpa using n0
 rw[hp] at c5;obtain⟨y,hy⟩:∃y,y=dD x 1 0:=⟨_,rfl⟩;have QB:=uU (a3y B g x w h a ha hx);rw[<-hy] at S QB ⊢;clear h s hp n0 hy;go_enter Tryz.func84,Tryz.ntmps84;go_wp2_with fail;refine QB.mono ?_;rintro e w1 ⟨rfl,h1,XS⟩;have HS:=uU h1;obtain⟨_,_,c5,_,_,hgw⟩:=h1.box;clear h1;go_wp2_with fail;go_loopw [5] (λd wr=>∃k:Nat,k<=n/\d=.int .i64 k/\Hid (yL y k)/\Hid (GOk B wr g (itU k y))/\Ext a wr) (λd _=>n-(intOf d).toNat)
 case atStart=>exact⟨0,Nat.zero_le _,rfl,yL.zero _,HS,XS⟩
 case round=>
  clear HS XS c5 hgw;obtain⟨k,hk,rfl,hr,hG,hxr⟩:=hrel;obtain⟨_,_,c5,_,_,hgw⟩:=hG.box;cases q:((itU k y).phase == 0)
  ·have qb:((itU k y).phase != 0)=true:=by simpa using q
   have QP:=uU (show(itU k y).phase≠0 by simpa using q);by_cases hlt:k<n
   ·have h1:(k:Int)<(n:Int):=by omega
    go_wp2_with fail;refine(a5c B g _ _ hG (S.itU k) QP a ha hxr).mono ?_;rintro e w3 ⟨rfl,h3,x3⟩;have H3:=uU h3;have R3:=uU (hr.succ QP);clear h3 c5 hgw;go_wp2_with fail;go_roundw
    case rel=>exact⟨k+1,by omega,by go_num,R3,H3,x3⟩
    case measure=>simp [intOf];omega
   ·have h1:¬(k:Int)<(n:Int):=by omega
    have hkn:=uU (show k=n by omega);go_wp2_with fail;go_ret;exact⟨k,rfl,⟨hr,hk,.inl hkn⟩,hG,hxr⟩
  ·have qb:((itU k y).phase != 0)=false:=by simpa using q
   have QP:=uU (show(itU k y).phase=0 by simpa using q);by_cases hlt:k<n
   ·have h1:(k:Int)<(n:Int):=by omega
    go_wp2_with fail;go_ret;exact⟨k,rfl,⟨hr,hk,.inr QP⟩,hG,hxr⟩
   ·have h1:¬(k:Int)<(n:Int):=by omega
    have hkn:=uU (show k=n by omega);go_wp2_with fail;go_ret;exact⟨k,rfl,⟨hr,hk,.inl hkn⟩,hG,hxr⟩
theorem b6z(g:Nat)(w:World):Calls Tryz.prog 84 #[.pointer (some ⟨g,0,none⟩),.int .i64 0] w λe w'=>e=.returned (.int .i64 0)/\w'=w:=by
 go_enter Tryz.func84,Tryz.ntmps84;go_wp2_with fail;go_ret;exact⟨rfl,rfl⟩
theorem a5d[Inhabited uN](B g:Nat)(x:Hp)(n:Nat)(w:World)(h:GOk B w g x)(s:Snd x)(n1:n<=100000)(a:World)(ha:a.heap.size<=B)(hx:Ext a w):
  Calls Tryz.prog 84 #[.pointer (some ⟨g,0,none⟩),.int .i64 n] w λe w'=>∃k:Nat,e=.returned (.int .i64 k)/\Hid (a2n (stepH x n) n k)/\GOk B w' g (itU k (stepH x n))/\Ext a w':=by
 by_cases n0:n=0
 ·subst n0;have e:stepH x 0=x:=by unfold stepH;rw[if_neg (λh=>h.2 rfl)]
  rw[e];refine(b6z g w).mono ?_;rintro e w' ⟨rfl,rfl⟩;exact⟨0,rfl,⟨yL.zero _,Nat.le_refl _,.inl rfl⟩,h,hx⟩
 ·by_cases hp:x.phase=0
  ·have e:stepH x n=dD x 1 0:=by unfold stepH;rw[if_pos ⟨hp,n0⟩]
   rw[e];exact b5c B g x n w h s n0 n1 hp a ha hx
  ·have e:stepH x n=x:=by unfold stepH;rw[if_neg (λh=>hp h.1)]
   rw[e];exact b6y B g x n w h s n0 n1 hp a ha hx
end Go.Proofs.YtddkhnclmeikfaaGreat
