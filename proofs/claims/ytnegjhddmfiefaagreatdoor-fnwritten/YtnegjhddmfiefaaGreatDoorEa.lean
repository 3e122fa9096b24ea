import Derived.Test.YtnegjhddmfiefaaGreatDoorLv
import Derived.Test.YtnegjhddmfiefaaGreatDoorLp
import Derived.Deep.LoopGhost
set_option maxRecDepth 100000
set_option maxHeartbeats 1000000
namespace Go.Proofs.YtnegjhddmfiefaaGreatDoor
open Go.RowKit
attribute [local go_sem ↓] Go.wp_at_zero Go.wp_at_succ
theorem l3mend_any[Inhabited ProtD](B g:Nat)(x:Hp)(w:World)(h:GOk B w g x)(s:Snd x)(hp:x.phase=5)(a:World)(ha:a.heap.size≤B)(hx:Ext a w):
  Calls Tryz.prog 243 #[.pointer (some ⟨g,0,none⟩)] w fun e w'=>e=.returned (.tuple #[])∧GOk B w' g (unit5 x)∧Ext a w':=by
 have hO:=h;obtain⟨ar,kr,ac,kc,vg,br,bc,pb,pa,pk,role,h⟩:=h;have HO:=hide hO;have c4:=h.bx.2.2.2.2.1;have c6:=h.bx.2.2.2.2.2.2.1;have c7:=h.bx.2.2.2.2.2.2.2.1;have hgw:g<w.heap.size:=cell_lt c4;have lo:=h.lo;have n8:=s.ok.n8;have hh:=s.r1.hand;have hs:=s.r1.sub;by_cases he:x.hand=x.cells.length
 ·have E:=hide (show unit5 x=toPh x 6 x.cells.length by unfold unit5;rw[if_pos he]);have heb:(x.hand == (x.cells.length:Int))=true:=by simpa using he
  clear he h hO s;go_enter Tryz.func243,Tryz.ntmps243;go_wp2_with fail;go_quiet (fail);go_wp2_with fail;refine(l3phase_any B g x 6 x.cells.length _ ((unhide HO).ext ((Ext.refl w).drewN _)) a ha (hx.drewN _)).mono ?_;rintro e w2 ⟨rfl,h2,x2⟩;have H2:=hide h2;clear h2;go_wp2_with fail
  try simp only [Exit.inBlock,Exit.then]
  refine bodyPost_ret (results_none rfl _ _ _) rfl ?_;exact⟨rfl,by rw[unhide E];exact unhide H2,x2⟩
 ·obtain⟨i,hi⟩:∃i:Nat,x.hand=(i:Int):=⟨x.hand.toNat,by omega⟩;have hin:i<x.cells.length:=by omega
  have ei:x.hand.toNat=i:=by omega
  obtain⟨k,hk⟩:∃k:Nat,x.sub=(k:Int):=⟨x.sub.toNat,by omega⟩;have ek:x.sub.toNat=k:=by omega
  have hp2:=s.ok.p200 i hin;by_cases hl:k<(x.c i).prs.length
  ·have E:unit5 x={ x with cells:=x.cells.set i (mendC x (x.c i) k),sub:=(k:Int)+1 }:=by
    unfold unit5;rw[if_neg he,ei,if_pos (by omega),ek,hk]
   have nd:¬Doomed x i:=fun d=>by have:=d.1;omega
   have P:=((s.r4.2 i hin).2 k hl).2 nd;rw[E];exact l3mend_pair B g x w hO n8 a ha hx i hi hin k hk hl hp2 P.1.1 P.2.1
  ·have E:=hide (show unit5 x={ x with hand:=x.hand+1,sub:=0 } by
    unfold unit5;rw[if_neg he,ei,if_neg (by omega)])
   have heb:(x.hand == (x.cells.length:Int))=false:=by simpa using he
   have hn:0<x.cells.length:=by omega
   rw[h.hc hn] at c4;have p7:=h.rw.p7 i hin;have hbc:bc<w.heap.size:=cell_lt p7;have f6:=h.nf.2 6;have f7:=h.nf.2 7;rw[hi] at heb c6;rw[hk] at c7;have i0:(0:Int)≤(i:Int):=by omega
   have i1:(i:Int)<(x.cells.length:Int):=by omega
   have k1:¬(k:Int)<((x.c i).prs.length:Int):=by omega
   have FN:=hide (show ∀n,GOk B (((w.drewN n).setCell ⟨g,6,none⟩ (iv ((i:Int)+1))).setCell ⟨g,7,none⟩ (iv 0)) g { x with hand:=(i:Int)+1,sub:=0 }∧Ext a (((w.drewN n).setCell ⟨g,6,none⟩ (iv ((i:Int)+1))).setCell ⟨g,7,none⟩ (iv 0)) from fun n=>⟨((hO.ext ((Ext.refl w).drewN n)).set6 _).set7 0,((hx.drewN n).setCell (p:=⟨g,6,none⟩) (show a.heap.size≤g by omega) _).setCell (p:=⟨g,7,none⟩) (show a.heap.size≤g by omega) _⟩);rw[hi] at E;clear he h hO s hi hk ei ek hl hh hs;go_enter Tryz.func243,Tryz.ntmps243;go_wp2_with fail;go_quiet (fail);obtain⟨m1,rfl⟩:∃m,m=nq:=⟨_,rfl⟩;go_wp2_with fail;go_quiet (fail);go_wp2_with fail
   go_end0
   exact⟨rfl,by rw[unhide E];exact(unhide FN _).1,(unhide FN _).2⟩
theorem l3mark_black[Inhabited ProtD](B g:Nat)(x:Hp)(w:World)(h:GOk B w g x)(s:Snd x)(a:World)(ha:a.heap.size≤B)(hx:Ext a w)(i:Nat)(G:List Int)(hg:x.gray=(i:Int)::G)(hin:i<x.cells.length)(hks:¬x.sub<((x.c i).prs.length:Int)):
  Calls Tryz.prog 240 #[.pointer (some ⟨g,0,none⟩)] w fun e w'=>e=.returned (.tuple #[])∧GOk B w' g { x with cells:=x.cells.set i (blackC (x.c i)),gray:=G,sub:=0 }∧Ext a w':=by
 obtain⟨ar,kr,ac,kc,vg,br,bc,pb,pa,pk,role,h⟩:=h;obtain⟨ag,kg,rfl⟩:=h.gr.form;have lg:x.gray.length=G.length+1:=by rw[hg];rfl
 have hn:0<x.cells.length:=by omega
 have c4:=h.bx.2.2.2.2.1;have c7:=h.bx.2.2.2.2.2.2.2.1;have c8:=h.bx.2.2.2.2.2.2.2.2.1;obtain⟨gb,go,hag,hg0,_⟩:=h.gr.at 0 (by rw[hg];simp);have eg:x.gray[0]'(by rw[hg];simp)=(i:Int):=by simp [hg]
 rw[eg] at hg0;simp only [Nat.add_zero] at hg0;rw[h.hc hn] at c4;rw[hag,lg] at c8 h;have H:=hide h;have p5:=(h.rw.s i hin).2.2.2.2.2.1;have p7:=h.rw.p7 i hin;have hgw:g<w.heap.size:=cell_lt c4;have lo:=h.lo;have n8:=s.ok.n8;have gl8:G.length≤8000:=by have:=s.r1.gray;omega
 have f7:=h.nf.2 7;have f8:=h.nf.2 8;have f5:=(h.rw.nc hn).1.2 (i*8+5);have i0:(0:Int)≤(i:Int):=by omega
 have i1:(i:Int)<(x.cells.length:Int):=by omega
 have g1:(0:Int)<(G.length:Int)+1:=by omega
 have g2:(1:Int)≤(G.length:Int)+1:=by omega
 have hbc:bc<w.heap.size:=cell_lt p7;have NGC:=hide (show ¬g=bc from fun e=>by have h1:=h.sp.g;have h2:=h.sp.c hn;rw[e] at h1;omega);have ngc:¬g=bc:=unhide NGC;have ncg:¬bc=g:=fun e=>unhide NGC e.symm
 have HG:=hide hg;have hbB:=(h.rw.nc hn).2
 have FIN:=hide (show ∀n v',(∀W,Ext w W→Grw W B v' G)→v'.ownBlock=some gb→GOk B ((((w.drewN n).setCell ⟨bc,i*8+5,none⟩ (iv 2)).setCell ⟨g,8,none⟩ v').setCell ⟨g,7,none⟩ (iv 0)) g { x with cells:=x.cells.set i (blackC (x.c i)),gray:=G,sub:=0 }∧Ext a ((((w.drewN n).setCell ⟨bc,i*8+5,none⟩ (iv 2)).setCell ⟨g,8,none⟩ v').setCell ⟨g,7,none⟩ (iv 0)) from fun n v' hv ho=>by
  have H2:=h.ext ((Ext.refl w).drewN n)
  have G3:GAt B ((w.drewN n).setCell ⟨bc,i*8+5,none⟩ (iv 2)) g { x with cells:=x.cells.set i (blackC (x.c i)) } ar kr (some ⟨bc,0,none⟩) kc (.slice (some ⟨gb,go,none⟩) (G.length+1) kg) br bc pb pa pk role:=by
   rw[←h.hc hn];refine H2.setc hin rfl (Only.setCell (S:=fun q=>q=bc) (Only.refl _ (w.drewN n)) (p:=⟨bc,i*8+5,none⟩) rfl _) ?_ (fun k hk=>cell_other _ (.inr (by omega))) ((H2.rw.nc hn).1.set _ _);obtain⟨a0,a1,a2,a3,a4,a5,a6⟩:=H2.rw.s i hin;refine⟨?_,?_,?_,?_,?_,World.cell?_setCell_same _ _ _ a5,?_⟩
   ·rw[cell_other _ (.inr (by omega))];exact a0
   ·rw[cell_other _ (.inr (by omega))];exact a1
   ·rw[cell_other _ (.inr (by omega))];exact a2
   ·rw[cell_other _ (.inr (by omega))];exact a3
   ·rw[cell_other _ (.inr (by omega))];exact a4
   ·rw[cell_other _ (.inr (by omega))];exact a6
  have r4:role gb=4:=h.sp.y gb rfl;have hgb:gb≠bc:=fun e=>by have:=h.sp.c hn;rw[←e] at this;omega
  have hv2:Grw ((w.drewN n).setCell ⟨bc,i*8+5,none⟩ (iv 2)) B v' G:=(hv _ ((Ext.refl w).drewN n)).block (fun q hq=>Below.heap_setCell _ _ _ _ (fun e=>by rw[ho] at hq;injection hq with hq;exact hgb (hq.trans e)));refine⟨(G3.gtail hv2 ho).set7 0,?_⟩;exact(((hx.drewN n).setCell (p:=⟨bc,i*8+5,none⟩) (show a.heap.size≤bc by omega) _).setCell (p:=⟨g,8,none⟩) (show a.heap.size≤g by omega) _).setCell (p:=⟨g,7,none⟩) (show a.heap.size≤g by omega) _)
 have V0:=hide (show kg≠1→∀W,Ext w W→Grw W B (.slice (some ⟨gb,go+1,none⟩) G.length (kg-1)) G from fun _ W e=>by
  have hgr:=(h.ext e).gr;rw[hg] at hgr;exact hgr.tail)
 have V1:=hide (show kg=1→∀W,Ext w W→Grw W B (.slice (some ⟨gb,go,none⟩) G.length 0) G from fun ek W e=>by
  have hgr:=(h.ext e).gr;rw[hg,ek] at hgr;exact hgr.tail1)
 clear h eg hg lg hag s;go_enter Tryz.func240,Tryz.ntmps240;go_wp2_with fail;go_quiet (fail);go_wp2_with fail
 ·obtain⟨k1,k2⟩:=unhide FIN nq _ (unhide V1 (by assumption)) rfl;refine bodyPost_ret (results_none rfl _ _ _) rfl ?_;exact⟨rfl,k1,k2⟩
 ·obtain⟨k1,k2⟩:=unhide FIN nq _ (unhide V0 (by assumption)) rfl;refine bodyPost_ret (results_none rfl _ _ _) rfl ?_;exact⟨rfl,k1,k2⟩
def lkH(x:Hp)(j:Nat):Hp:=(x.regs.take j).foldl shadeW x
def grB(x:Hp):Bool:=!x.gray.isEmpty
theorem lkH_succ(x:Hp)(j:Nat)(h:j<x.regs.length):lkH x (j+1)=shadeW (lkH x j) x.regs[j]:=by
 unfold lkH;rw[List.take_succ_eq_append_getElem h,List.foldl_append];rfl
theorem lkH_all(x:Hp):lkH x x.regs.length=lookH x:=by unfold lkH lookH;rw[List.take_length]
theorem lkH_shd{x:Hp}(s:Snd x)(hp:x.phase=2)(j:Nat):Shd x (lkH x j):=by
 refine(Shd.fold (.inr hp) (x.regs.take j) x (fun y hy=>?_) (Shd.refl s)).1;obtain⟨i,hi,e⟩:=List.mem_iff_getElem.1 (List.mem_of_mem_take hy);rw[←e];exact s.good_reg i hi
theorem ssh_gr{z:Hp}{y:Wd}(b:Bool)(hb:grB z=b):(sshB z y=true→grB (sshH z y)=true)∧(sshB z y=false→grB (sshH z y)=b):=by
 refine⟨fun h=>?_,fun h=>?_⟩
 ·unfold sshH;rw[if_pos h];simp [grB]
 ·unfold sshH;rw[h];simpa using hb
theorem l3mark_look[Inhabited ProtD](B g:Nat)(x:Hp)(w:World)(h:GOk B w g x)(s:Snd x)(hp:x.phase=2)(a:World)(ha:a.heap.size≤B)(hx:Ext a w)(hg:x.gray=[]):
  Calls Tryz.prog 240 #[.pointer (some ⟨g,0,none⟩)] w fun e w'=>e=.returned (.tuple #[])∧GOk B w' g (unit2 x)∧Ext a w':=by
 obtain⟨ar,kr,ac,kc,vg,br,bc,pb,pa,pk,role,h⟩:=h;obtain⟨ag,kg,rfl⟩:=h.gr.form;have lg:x.gray.length=0:=by rw[hg];rfl
 have c3:=h.bx.2.2.2.1;have c8:=h.bx.2.2.2.2.2.2.2.2.1;have H:=hide h;rw[lg] at c8;have hgw:g<w.heap.size:=cell_lt c3;have lo:=h.lo;have n8:=s.ok.n8;have S:=hide s;have r16:x.regs.length≤16:=by have:=s.r1.regs;omega
 have r0:0<x.regs.length:=by have:=s.r1.regs;omega
 rw[h.ha r0] at c3;have G0:=hide (show grB (lkH x 0)=false by simp [lkH,grB,hg]);have EU:=hide (show unit2 x=if (lookH x).gray=[] then toPh (lookH x) 3 0 else lookH x by unfold unit2;rw[hg]);have SH:=hide (lkH_shd s hp);clear h lg hg hp;go_enter Tryz.func240,Tryz.ntmps240;go_wp2_with fail;go_loopw [4,85] (fun sm i wr=>∃j,j≤x.regs.length∧i=.int .i64 (j:Nat)∧sm=.bool (grB (lkH x j))∧Hid (∃ag' kg' role',GAt B wr g (lkH x j) ar kr ac kc (.slice ag' (lkH x j).gray.length kg') br bc pb pa pk role')∧Ext a wr) (fun _ i _=>x.regs.length-(intOf i).toNat)
 case atStart=>exact⟨0,Nat.zero_le _,rfl,by rw[unhide G0],⟨_,_,_,unhide H⟩,hx⟩
 case round=>
  clear c3 c8;obtain⟨j,hj,rfl,rfl,hr,hxr⟩:=hrel;by_cases hlt:j<x.regs.length
  ·obtain⟨ag',kg',role',hG⟩:=unhide hr;have er:(lkH x j).regs=x.regs:=(unhide SH j).regs;obtain⟨w0,w1,w2⟩:=hG.rw.r j (by rw[er];exact hlt);have eq:(lkH x j).regs[j]'(by rw[er];exact hlt)=x.regs[j]:=by simp [er]
   rw[eq] at w0 w1 w2;have hbr:br<wr.heap.size:=cell_lt w0;have Hj:=hide hG
   have N1:=hide (show(lkH x j).cells.length≤8000∧(lkH x j).gray.length≤8000∧Good1 (lkH x j) x.regs[j]∧(x.regs[j].k=2→0≤x.regs[j].a∧x.regs[j].a<(lkH x j).cells.length) by
    have hs:=(unhide SH j).s;have h8:=hs.ok.n8;have hgr:=hs.r1.gray;refine⟨h8,by omega,?_,fun hk=>?_⟩
    ·have:=hs.good_reg j (by rw[er];exact hlt);rw[eq] at this;exact this
    ·have:=(hs.r4.1 j (by rw[er];exact hlt)).1;rw[eq] at this;unfold Formed at this;omega)
   have NX:=hide (show lkH x (j+1)=sshH (lkH x j) x.regs[j] by rw[lkH_succ x j hlt,ssh_eq (unhide N1).2.2.1 (fun hk=>((unhide N1).2.2.2 hk).1)]);have hj0:(0:Int)≤(j:Int):=by omega
   have hj1:(j:Int)<(x.regs.length:Int):=by omega
   clear hG er eq hr;obtain⟨b0,hb0⟩:∃b,grB (lkH x j)=b:=⟨_,rfl⟩;have SG:=hide (ssh_gr (y:=x.regs[j]) b0 hb0);rw[hb0];clear hb0;go_wp2_with fail;refine(l3shade_any x.regs[j] _ ((unhide Hj).ext ((Ext.refl wr).alloc _)) (unhide N1).2.2.2 (unhide N1).1 (unhide N1).2.1 a ha (hxr.alloc _) ?_).mono ?_
   ·have:=(unhide Hj).nf.1;simp;omega
   rintro e w3 ⟨rfl,h3,x3⟩;rw[←unhide NX] at h3;obtain⟨r,hr⟩:∃r,sshB (lkH x j) x.regs[j]=r:=⟨_,rfl⟩;rw[←unhide NX,hr] at SG;rw[hr];clear hr NX N1 w0 w1 w2;cases r
   ·have E1:=hide ((unhide SG).2 rfl);go_wp2_with fail;go_roundw
    case rel=>exact⟨j+1,by omega,by go_num,by rw[unhide E1],h3,x3⟩
    case measure=>simp [intOf];omega
   ·have E1:=hide ((unhide SG).1 rfl);go_wp2_with fail;go_roundw
    case rel=>exact⟨j+1,by omega,by go_num,by rw[unhide E1],h3,x3⟩
    case measure=>simp [intOf];omega
  ·have je:j=x.regs.length:=by omega
   subst je;rw[lkH_all] at hr ⊢
   have HL:=hide (show GOk B wr g (lookH x) by
    obtain⟨ag',kg',role',hG⟩:=unhide hr;exact⟨_,_,_,_,_,_,_,_,_,_,_,hG⟩)
   clear hr;cases q:grB (lookH x)
   ·have EF:=hide (show unit2 x=toPh (lookH x) 3 0 by
     have:(lookH x).gray=[]:=by simpa [grB] using q
     rw[unhide EU,if_pos this])
    go_wp2_with fail;refine(l3phase_any B g (lookH x) 3 0 _ (unhide HL) a ha hxr).mono ?_;rintro e w2 ⟨rfl,h2,x2⟩;have H2:=hide h2;clear h2;go_wp2_with fail
    go_end0
    exact⟨rfl,by rw[unhide EF];exact unhide H2,x2⟩
   ·have EF:=hide (show unit2 x=lookH x by
     have:¬(lookH x).gray=[]:=fun e=>by simp [grB,e] at q
     rw[unhide EU,if_neg this])
    go_wp2_with fail
    go_end0
    exact⟨rfl,by rw[unhide EF];exact unhide HL,hxr⟩
theorem l3mark_any[Inhabited ProtD](B g:Nat)(x:Hp)(w:World)(h:GOk B w g x)(s:Snd x)(hp:x.phase=2)(a:World)(ha:a.heap.size≤B)(hx:Ext a w):
  Calls Tryz.prog 240 #[.pointer (some ⟨g,0,none⟩)] w fun e w'=>e=.returned (.tuple #[])∧GOk B w' g (unit2 x)∧Ext a w':=by
 cases hg:x.gray with
 | nil=>exact l3mark_look B g x w h s hp a ha hx hg
 | cons i0 G=>
  have hb:=s.r5.2.2 i0 (by rw[hg];exact List.mem_cons_self ..);obtain⟨i,rfl⟩:∃i:Nat,i0=(i:Int):=⟨i0.toNat,by omega⟩;have ei:((i:Int)).toNat=i:=by omega
  have hin:i<x.cells.length:=by omega
  by_cases hs:x.sub<((x.c i).prs.length:Int)
  ·obtain⟨k,hk⟩:∃k:Nat,x.sub=(k:Int):=⟨x.sub.toNat,by have:=s.r1.sub;omega⟩
   have e:unit2 x={ shadeW (shadeW x ((x.c i).p k).key) ((x.c i).p k).val with sub:=(k:Int)+1 }:=by
    have ek:x.sub.toNat=k:=by omega
    unfold unit2;rw[hg];simp only [ei,if_pos hs,ek];rw[hk]
   rw[e];exact l3mark_pair B g x w h s hp a ha hx i G hg hin k hk (by omega)
  ·have e:unit2 x={ x with cells:=x.cells.set i (blackC (x.c i)),gray:=G,sub:=0 }:=by
    unfold unit2;rw[hg];simp only [ei,if_neg hs]
   rw[e];exact l3mark_black B g x w h s a ha hx i G hg hin hs
theorem l3sweep_any[Inhabited ProtD](B g:Nat)(x:Hp)(w:World)(h:GOk B w g x)(s:Snd x)(a:World)(ha:a.heap.size≤B)(hx:Ext a w):
  Calls Tryz.prog 241 #[.pointer (some ⟨g,0,none⟩)] w fun e w'=>e=.returned (.tuple #[])∧GOk B w' g (unit3 x)∧Ext a w':=by
 obtain⟨ar,kr,ac,kc,vg,br,bc,pb,pa,pk,role,h⟩:=h;have HO:=hide (show GOk B w g x from⟨_,_,_,_,_,_,_,_,_,_,_,h⟩);have H:=hide h;have c4:=h.bx.2.2.2.2.1;have c6:=h.bx.2.2.2.2.2.2.1;have c1:=h.bx.2.1;have hgw:g<w.heap.size:=cell_lt c4;have lo:=h.lo;have n8:=s.ok.n8;have S:=hide s;have hh:=s.r1.hand;clear h;by_cases he:x.hand=x.cells.length
 ·have E:=hide (show unit3 x=toPh x 4 0 by unfold unit3;rw[if_pos he]);have heb:(x.hand == (x.cells.length:Int))=true:=by simpa using he
  clear he;go_enter Tryz.func241,Tryz.ntmps241;go_wp2_with fail;go_quiet (fail);go_wp2_with fail;refine(l3phase_any B g x 4 0 _ ((unhide HO).ext ((Ext.refl w).drewN _)) a ha (hx.drewN _)).mono ?_;rintro e w2 ⟨rfl,h2,x2⟩;have H2:=hide h2;clear h2;go_wp2_with fail
  try simp only [Exit.inBlock,Exit.then]
  refine bodyPost_ret (results_none rfl _ _ _) rfl ?_;exact⟨rfl,by rw[unhide E];exact unhide H2,x2⟩
 ·obtain⟨i,hi⟩:∃i:Nat,x.hand=(i:Int):=⟨x.hand.toNat,by omega⟩;have hin:i<x.cells.length:=by omega
  have V:=hide (show wrap64 (1+((x.c i).prs.length:Int))=1+((x.c i).prs.length:Int)∧wrap64 (x.used-(1+((x.c i).prs.length:Int)))=x.used-(1+((x.c i).prs.length:Int)) by
   have hlp:=s.ok.p200 i hin;have hu1:x.used≤4000:=by have:=s.r3.2;have:=s.r1.room;omega
   have hu0:0≤x.used:=by have:=s.r3.1;omega
   exact⟨wrap_fit _ (by omega) (by omega),wrap_fit _ (by omega) (by omega)⟩)
  have heb:(x.hand == (x.cells.length:Int))=false:=by simpa using he
  rw[hi] at heb c6;have hn:0<x.cells.length:=by omega
  rw[(unhide H).hc hn] at c4;obtain⟨p0,p1,p2,p3,p4,p5,p6⟩:=(unhide H).rw.s i hin;have p7:=(unhide H).rw.p7 i hin;have hbc:bc<w.heap.size:=cell_lt p0;have NGC:=hide (show ¬g=bc from fun e=>by have h1:=(unhide H).sp.g;have h2:=(unhide H).sp.c hn;rw[e] at h1;omega);have i0:(0:Int)≤(i:Int):=by omega
  have i1:(i:Int)<(x.cells.length:Int):=by omega
  have ei:x.hand.toNat=i:=by omega
  have EU:=hide (show unit3 x=if whB (x.c i)=true then { x with used:=x.used-(1+(x.c i).prs.length),cells:=x.cells.set i Cl0,hand:=x.hand+1 } else { x with cells:=x.cells.set i (whiteC (x.c i)),hand:=x.hand+1 } by unfold unit3;rw[if_neg he,ei]);have HI:=hide hi;have zn:=fun n j=>dalloc_new w n #[.int .i64 0,.int .i64 0,.int .i64 0,.int .i64 0,.int .i64 0,.int .i64 0,.int .i64 0,.slice none 0 0] 134 j
  have zf:=fun n j=>dalloc_fr w n #[.int .i64 0,.int .i64 0,.int .i64 0,.int .i64 0,.int .i64 0,.int .i64 0,.int .i64 0,.slice none 0 0] 134 j
  have zo:=fun n o b j (h:b<w.heap.size)=>dalloc_old w n o b j h
  clear he hi ei hh;go_enter Tryz.func241,Tryz.ntmps241;go_wp2_with fail;go_quiet (fail);go_wp2_with fail
  go_region
  all_goals
   obtain⟨W2,hW2⟩:∃W,W=(((((((((w.drewN (nq+1)).alloc (.cells #[.int .i64 0,.int .i64 0,.int .i64 0,.int .i64 0,.int .i64 0,.int .i64 0,.int .i64 0,.slice none 0 0] 134)).setCell ⟨w.heap.size,0,none⟩ (.int .i64 (x.c i).st)).setCell ⟨w.heap.size,1,none⟩ (.int .i64 (x.c i).kind)).setCell ⟨w.heap.size,2,none⟩ (.int .i64 (x.c i).weak)).setCell ⟨w.heap.size,3,none⟩ (.int .i64 (x.c i).last)).setCell ⟨w.heap.size,4,none⟩ (.int .i64 (x.c i).born)).setCell ⟨w.heap.size,5,none⟩ (.int .i64 (x.c i).color)).setCell ⟨w.heap.size,6,none⟩ (.int .i64 (x.c i).to)).setCell ⟨w.heap.size,7,none⟩ (.slice (pa i) (x.c i).prs.length (pk i)):=⟨_,rfl⟩
   have X2:Ext w W2:=by
    rw[hW2];exact(((((((((Ext.refl w).drewN (nq+1)).alloc _).setCell (Nat.le_refl _) _).setCell (Nat.le_refl _) _).setCell (Nat.le_refl _) _).setCell (Nat.le_refl _) _).setCell (Nat.le_refl _) _).setCell (Nat.le_refl _) _).setCell (Nat.le_refl _) _ |>.setCell (Nat.le_refl _) _
   have l0:W2.cell? ⟨w.heap.size,0,none⟩=some (iv (x.c i).st):=by
    rw[hW2,cell_other _ (.inr (by omega)),cell_other _ (.inr (by omega)),cell_other _ (.inr (by omega)),cell_other _ (.inr (by omega)),cell_other _ (.inr (by omega)),cell_other _ (.inr (by omega)),cell_other _ (.inr (by omega))];exact World.cell?_setCell_same _ _ _ (by rw[zn];rfl)
   have l5:W2.cell? ⟨w.heap.size,5,none⟩=some (iv (x.c i).color):=by
    rw[hW2,cell_other _ (.inr (by omega)),cell_other _ (.inr (by omega))];exact World.cell?_setCell_same _ _ _ (by rw[cell_other _ (.inr (by omega)),cell_other _ (.inr (by omega)),cell_other _ (.inr (by omega)),cell_other _ (.inr (by omega)),cell_other _ (.inr (by omega)),zn];rfl)
   have l7:W2.cell? ⟨w.heap.size,7,none⟩=some (.slice (pa i) (x.c i).prs.length (pk i)):=by
    rw[hW2];exact World.cell?_setCell_same _ _ _ (by rw[cell_other _ (.inr (by omega)),cell_other _ (.inr (by omega)),cell_other _ (.inr (by omega)),cell_other _ (.inr (by omega)),cell_other _ (.inr (by omega)),cell_other _ (.inr (by omega)),cell_other _ (.inr (by omega)),zn];rfl)
   rw[←hW2];clear hW2 zn zf zo p0 p1 p2 p3 p4 p6 p7;have H2:=hide ((unhide H).ext X2);have d6:=X2.keep c6;have d4:=X2.keep c4;have d1:=X2.keep c1;have d5:=X2.keep p5;have hgW:g<W2.heap.size:=cell_lt d6;have f6:W2.frozen? ⟨g,6,none⟩=false:=(unhide H2).nf.2 6;have f1:W2.frozen? ⟨g,1,none⟩=false:=(unhide H2).nf.2 1;have fc:=((unhide H2).rw.nc hn).1.2;have ngc:¬g=bc:=unhide NGC;have ncg:¬bc=g:=fun e=>unhide NGC e.symm
   clear c1 c4 c6 p5
   have G3:=hide (show GOk B (W2.setCell ⟨bc,i*8+5,none⟩ (iv 0)) g { x with cells:=x.cells.set i (whiteC (x.c i)) } by
    refine⟨_,_,_,_,_,_,_,_,_,_,_,(unhide H2).setc hin rfl (Only.setCell (S:=fun q=>q=bc) (Only.refl _ W2) (p:=⟨bc,i*8+5,none⟩) rfl _) ?_ (fun k hk=>cell_other _ (.inr (by omega))) (((unhide H2).rw.nc hn).1.set _ _)⟩;obtain⟨a0,a1,a2,a3,a4,a5,a6⟩:=(unhide H2).rw.s i hin;refine⟨?_,?_,?_,?_,?_,World.cell?_setCell_same _ _ _ a5,?_⟩
    ·rw[cell_other _ (.inr (by omega))];exact a0
    ·rw[cell_other _ (.inr (by omega))];exact a1
    ·rw[cell_other _ (.inr (by omega))];exact a2
    ·rw[cell_other _ (.inr (by omega))];exact a3
    ·rw[cell_other _ (.inr (by omega))];exact a4
    ·rw[cell_other _ (.inr (by omega))];exact a6)
   have G4:=hide (((unhide G3).set6 ((i:Int)+1)).ext (Ext.refl _).drew);clear G3;have hbB:=((unhide H2).rw.nc hn).2;have X3:=hide (((hx.trans X2).setCell (p:=⟨bc,i*8+5,none⟩) (show a.heap.size≤bc from Nat.le_trans ha hbB) (iv 0)).setCell (p:=⟨g,6,none⟩) (show a.heap.size≤g by omega) (iv ((i:Int)+1)) |>.drew);cases q1:((x.c i).st == 1)
   ·have EF:=hide (show unit3 x={ x with cells:=x.cells.set i (whiteC (x.c i)),hand:=x.hand+1 } by rw[unhide EU,if_neg (by simp [whB,q1])]);rw[unhide HI] at EF;go_wp2_with fail
    go_region
    all_goals
     go_wp2_with fail
     go_end0
     exact⟨rfl,by rw[unhide EF];exact unhide G4,unhide X3⟩
   ·cases q2:((x.c i).color == 0)
    ·have EF:=hide (show unit3 x={ x with cells:=x.cells.set i (whiteC (x.c i)),hand:=x.hand+1 } by rw[unhide EU,if_neg (by simp [whB,q2])]);rw[unhide HI] at EF;go_wp2_with fail
     go_region
     all_goals
      go_wp2_with fail
      go_end0
      exact⟨rfl,by rw[unhide EF];exact unhide G4,unhide X3⟩
    ·have EF:=hide (show unit3 x={ x with used:=x.used-(1+(x.c i).prs.length),cells:=x.cells.set i Cl0,hand:=x.hand+1 } by rw[unhide EU,if_pos (by simp [whB,q1,q2])]);rw[unhide HI] at EF;clear G4 X3;go_wp2_with fail
     go_region
     all_goals
      rw[(unhide V).1,(unhide V).2];obtain⟨W3,hW3⟩:∃W,W=(W2.setCell ⟨g,1,none⟩ (iv (x.used-(1+(x.c i).prs.length)))).drew:=⟨_,rfl⟩
      have H3:=hide (show GAt B W3 g { x with used:=x.used-(1+(x.c i).prs.length) } ar kr ac kc vg br bc pb pa pk role by
       rw[hW3];exact((unhide H2).boxed (x':={ x with used:=x.used-(1+(x.c i).prs.length) }) (Only.setCell (S:=fun q=>q=g) (Only.refl _ W2) (p:=⟨g,1,none⟩) rfl _) ((unhide H2).nf.set _ _) rfl rfl rfl ((unhide H2).bx.set1 _)).ext (Ext.refl _).drew)
      have X3:Ext a W3:=by rw[hW3];exact((hx.trans X2).setCell (p:=⟨g,1,none⟩) (show a.heap.size≤g by omega) _).drew
      rw[←hW3];clear hW3 V l0 l5 l7 d1 d4 d5 d6 f6 f1 fc X2;have e4:=(unhide H3).bx.2.2.2.2.1;rw[(unhide H2).hc hn] at e4;have e6:W3.cell? ⟨g,6,none⟩=some (iv i):=by rw[←unhide HI];exact(unhide H3).bx.2.2.2.2.2.2.1
      obtain⟨e0,e1,e2,e3,ee4,e5,ee6⟩:=(unhide H3).rw.s i hin;have e7:=(unhide H3).rw.p7 i hin;have f6:W3.frozen? ⟨g,6,none⟩=false:=(unhide H3).nf.2 6;have fc:=((unhide H3).rw.nc hn).1.2;have G4:=hide ((((unhide H3).wipe i hin 0 0).set6 ((i:Int)+1)).ext (Ext.refl _).drew);have X4:=hide (show Ext a (((wipeW W3 bc (i*8) 0 0).setCell ⟨g,6,none⟩ (iv ((i:Int)+1))).drew) from(((wipe_only W3 bc (i*8) 0 0).ext X3 (fun q hq e=>by have:=((unhide H3).rw.nc hn).2;omega)).setCell (p:=⟨g,6,none⟩) (show a.heap.size≤g by omega) _).drew);unfold wipeW at G4 X4;go_wp2_with fail
      go_region
      all_goals
       go_wp2_with fail
       go_end0
       exact⟨rfl,by rw[unhide EF];exact unhide G4,unhide X4⟩
theorem l3unit_any[Inhabited ProtD](B g:Nat)(x:Hp)(w:World)(h:GOk B w g x)(s:Snd x)(h0:x.phase≠0)(a:World)(ha:a.heap.size≤B)(hx:Ext a w):
  Calls Tryz.prog 221 #[.pointer (some ⟨g,0,none⟩)] w fun e w'=>e=.returned (.tuple #[])∧GOk B w' g (unitH x)∧Ext a w':=by
 have HO:=hide h;obtain⟨_,_,c5,_,lo,hgw⟩:=h.box;have hB:B≤w.heap.size:=by omega
 have S:=hide s;have hc:x.phase=1∨x.phase=2∨x.phase=3∨x.phase=4∨x.phase=5∨x.phase=6:=by have:=s.r1.phase;omega
 have Q1:=hide (show x.phase=1→Calls Tryz.prog 239 #[.pointer (some ⟨g,0,none⟩)] w fun e w'=>e=.returned (.tuple #[])∧GOk B w' g (unitH x)∧Ext a w' from fun e=>by
  have:unitH x=unit1 x:=by unfold unitH;rw[if_pos e]
  rw[this];exact l3roots_any B g x w h s a ha hx hB)
 have Q2:=hide (show x.phase=2→Calls Tryz.prog 240 #[.pointer (some ⟨g,0,none⟩)] w fun e w'=>e=.returned (.tuple #[])∧GOk B w' g (unitH x)∧Ext a w' from fun e=>by
  have:unitH x=unit2 x:=by unfold unitH;rw[if_neg (by omega),if_pos e]
  rw[this];exact l3mark_any B g x w h s e a ha hx)
 have Q3:=hide (show x.phase=3→Calls Tryz.prog 241 #[.pointer (some ⟨g,0,none⟩)] w fun e w'=>e=.returned (.tuple #[])∧GOk B w' g (unitH x)∧Ext a w' from fun e=>by
  have:unitH x=unit3 x:=by unfold unitH;rw[if_neg (by omega),if_neg (by omega),if_pos e]
  rw[this];exact l3sweep_any B g x w h s a ha hx)
 have Q4:=hide (show x.phase=4→Calls Tryz.prog 242 #[.pointer (some ⟨g,0,none⟩)] w fun e w'=>e=.returned (.tuple #[])∧GOk B w' g (unitH x)∧Ext a w' from fun e=>by
  have:unitH x=unit4 x:=by unfold unitH;rw[if_neg (by omega),if_neg (by omega),if_neg (by omega),if_pos e]
  rw[this];exact l3move_any B g x w h s a ha hx)
 have Q5:=hide (show x.phase=5→Calls Tryz.prog 243 #[.pointer (some ⟨g,0,none⟩)] w fun e w'=>e=.returned (.tuple #[])∧GOk B w' g (unitH x)∧Ext a w' from fun e=>by
  have:unitH x=unit5 x:=by unfold unitH;rw[if_neg (by omega),if_neg (by omega),if_neg (by omega),if_neg (by omega),if_pos e]
  rw[this];exact l3mend_any B g x w h s e a ha hx)
 have Q6:=hide (show x.phase=6→Calls Tryz.prog 244 #[.pointer (some ⟨g,0,none⟩)] w fun e w'=>e=.returned (.tuple #[])∧GOk B w' g (unitH x)∧Ext a w' from fun e=>by
  have:unitH x=unit6 x:=by unfold unitH;rw[if_neg (by omega),if_neg (by omega),if_neg (by omega),if_neg (by omega),if_neg (by omega),if_pos e]
  rw[this];exact l3close_any B g x w h s a ha hx)
 obtain⟨y,hy⟩:∃y,y=unitH x:=⟨_,rfl⟩;rw[←hy] at Q1 Q2 Q3 Q4 Q5 Q6 ⊢;clear hy h s h0;rcases hc with e | e | e | e | e | e
 ·rw[e] at c5;have Q:=hide (unhide Q1 e);clear Q1 Q2 Q3 Q4 Q5 Q6 e;go_enter Tryz.func221,Tryz.ntmps221;go_wp2_with fail;refine(unhide Q).mono ?_;rintro e w2 ⟨rfl,h2,x2⟩;have H2:=hide h2;clear h2;go_wp2_with fail
  go_end0
  exact⟨rfl,unhide H2,x2⟩
 ·rw[e] at c5;have Q:=hide (unhide Q2 e);clear Q1 Q2 Q3 Q4 Q5 Q6 e;go_enter Tryz.func221,Tryz.ntmps221;go_wp2_with fail;refine(unhide Q).mono ?_;rintro e w2 ⟨rfl,h2,x2⟩;have H2:=hide h2;clear h2;go_wp2_with fail
  go_end0
  exact⟨rfl,unhide H2,x2⟩
 ·rw[e] at c5;have Q:=hide (unhide Q3 e);clear Q1 Q2 Q3 Q4 Q5 Q6 e;go_enter Tryz.func221,Tryz.ntmps221;go_wp2_with fail;refine(unhide Q).mono ?_;rintro e w2 ⟨rfl,h2,x2⟩;have H2:=hide h2;clear h2;go_wp2_with fail
  go_end0
  exact⟨rfl,unhide H2,x2⟩
 ·rw[e] at c5;have Q:=hide (unhide Q4 e);clear Q1 Q2 Q3 Q4 Q5 Q6 e;go_enter Tryz.func221,Tryz.ntmps221;go_wp2_with fail;refine(unhide Q).mono ?_;rintro e w2 ⟨rfl,h2,x2⟩;have H2:=hide h2;clear h2;go_wp2_with fail
  go_end0
  exact⟨rfl,unhide H2,x2⟩
 ·rw[e] at c5;have Q:=hide (unhide Q5 e);clear Q1 Q2 Q3 Q4 Q5 Q6 e;go_enter Tryz.func221,Tryz.ntmps221;go_wp2_with fail;refine(unhide Q).mono ?_;rintro e w2 ⟨rfl,h2,x2⟩;have H2:=hide h2;clear h2;go_wp2_with fail
  go_end0
  exact⟨rfl,unhide H2,x2⟩
 ·rw[e] at c5;have Q:=hide (unhide Q6 e);clear Q1 Q2 Q3 Q4 Q5 Q6 e;go_enter Tryz.func221,Tryz.ntmps221;go_wp2_with fail;refine(unhide Q).mono ?_;rintro e w2 ⟨rfl,h2,x2⟩;have H2:=hide h2;clear h2;go_wp2_with fail
  go_end0
  exact⟨rfl,unhide H2,x2⟩
theorem l3begin_any[Inhabited ProtD](B g:Nat)(x:Hp)(w:World)(h:GOk B w g x)(a:World)(ha:a.heap.size≤B)(hx:Ext a w):
  Calls Tryz.prog 220 #[.pointer (some ⟨g,0,none⟩)] w fun e w'=>e=.returned (.tuple #[])∧GOk B w' g (toPh x 1 0)∧Ext a w':=by
 have HO:=hide h;clear h;go_enter Tryz.func220,Tryz.ntmps220;go_wp2_with fail;refine(l3phase_any B g x 1 0 _ (unhide HO) a ha hx).mono ?_;rintro e w2 ⟨rfl,h2,x2⟩;have H2:=hide h2;clear h2;go_wp2_with fail
 go_end0
 exact⟨rfl,unhide H2,x2⟩
theorem l3step_loop[Inhabited ProtD](B g:Nat)(x:Hp)(n:Nat)(w:World)(h:GOk B w g x)(s:Snd x)(n0:n≠0)(n1:n≤100000)(hp:x.phase≠0)(a:World)(ha:a.heap.size≤B)(hx:Ext a w):
  Calls Tryz.prog 185 #[.pointer (some ⟨g,0,none⟩),.int .i64 n] w fun e w'=>∃k:Nat,e=.returned (.int .i64 k)∧Hid (StepIs x n k)∧GOk B w' g (itU k x)∧Ext a w':=by
 have HS:=hide h;obtain⟨_,_,c5,_,lo,hgw⟩:=h.box;have S:=hide s;have nb:((n:Int) == 0)=false:=by simpa using n0
 have pb:(x.phase == 0)=false:=by simpa using hp
 have XS:=hx;clear h s hp n0;go_enter Tryz.func185,Tryz.ntmps185;go_wp2_with fail;go_loopw [5] (fun d wr=>∃k:Nat,k≤n∧d=.int .i64 k∧Hid (Runs x k)∧Hid (GOk B wr g (itU k x))∧Ext a wr) (fun d _=>n-(intOf d).toNat)
 case atStart=>exact⟨0,Nat.zero_le _,rfl,Runs.zero _,unhide HS,XS⟩
 case round=>
  clear HS XS c5 hgw;obtain⟨k,hk,rfl,hr,hG,hxr⟩:=hrel;obtain⟨_,_,c5,_,_,hgw⟩:=(unhide hG).box;cases q:((itU k x).phase == 0)
  ·have qb:((itU k x).phase != 0)=true:=by simpa using q
   have QP:=hide (show(itU k x).phase≠0 by simpa using q);by_cases hlt:k<n
   ·have h1:(k:Int)<(n:Int):=by omega
    go_wp2_with fail;refine(l3unit_any B g _ _ (unhide hG) ((unhide S).itU k) (unhide QP) a ha hxr).mono ?_;rintro e w3 ⟨rfl,h3,x3⟩;have H3:=hide h3;have R3:=hide ((unhide hr).succ (unhide QP));clear h3 c5 hgw;go_wp2_with fail;go_roundw
    case rel=>exact⟨k+1,by omega,by go_num,unhide R3,unhide H3,x3⟩
    case measure=>simp [intOf];omega
   ·have h1:¬(k:Int)<(n:Int):=by omega
    have hkn:=hide (show k=n by omega);go_wp2_with fail;go_ret;exact⟨k,rfl,⟨unhide hr,hk,.inl (unhide hkn)⟩,unhide hG,hxr⟩
  ·have qb:((itU k x).phase != 0)=false:=by simpa using q
   have QP:=hide (show(itU k x).phase=0 by simpa using q);by_cases hlt:k<n
   ·have h1:(k:Int)<(n:Int):=by omega
    go_wp2_with fail;go_ret;exact⟨k,rfl,⟨unhide hr,hk,.inr (unhide QP)⟩,unhide hG,hxr⟩
   ·have h1:¬(k:Int)<(n:Int):=by omega
    have hkn:=hide (show k=n by omega);go_wp2_with fail;go_ret;exact⟨k,rfl,⟨unhide hr,hk,.inl (unhide hkn)⟩,unhide hG,hxr⟩
theorem l3step_begin[Inhabited ProtD](B g:Nat)(x:Hp)(n:Nat)(w:World)(h:GOk B w g x)(s:Snd x)(n0:n≠0)(n1:n≤100000)(hp:x.phase=0)(a:World)(ha:a.heap.size≤B)(hx:Ext a w):
  Calls Tryz.prog 185 #[.pointer (some ⟨g,0,none⟩),.int .i64 n] w fun e w'=>∃k:Nat,e=.returned (.int .i64 k)∧Hid (StepIs (toPh x 1 0) n k)∧GOk B w' g (itU k (toPh x 1 0))∧Ext a w':=by
 have HO:=hide h;obtain⟨_,_,c5,_,lo,hgw⟩:=h.box;have S:=hide (s.begin hp);have nb:((n:Int) == 0)=false:=by simpa using n0
 rw[hp] at c5;obtain⟨y,hy⟩:∃y,y=toPh x 1 0:=⟨_,rfl⟩;have QB:=hide (l3begin_any B g x w h a ha hx);rw[←hy] at S QB ⊢;clear h s hp n0 hy;go_enter Tryz.func185,Tryz.ntmps185;go_wp2_with fail;refine(unhide QB).mono ?_;rintro e w1 ⟨rfl,h1,XS⟩;have HS:=hide h1;obtain⟨_,_,c5,_,_,hgw⟩:=h1.box;clear h1;go_wp2_with fail;go_loopw [5] (fun d wr=>∃k:Nat,k≤n∧d=.int .i64 k∧Hid (Runs y k)∧Hid (GOk B wr g (itU k y))∧Ext a wr) (fun d _=>n-(intOf d).toNat)
 case atStart=>exact⟨0,Nat.zero_le _,rfl,Runs.zero _,unhide HS,XS⟩
 case round=>
  clear HS XS c5 hgw;obtain⟨k,hk,rfl,hr,hG,hxr⟩:=hrel;obtain⟨_,_,c5,_,_,hgw⟩:=(unhide hG).box;cases q:((itU k y).phase == 0)
  ·have qb:((itU k y).phase != 0)=true:=by simpa using q
   have QP:=hide (show(itU k y).phase≠0 by simpa using q);by_cases hlt:k<n
   ·have h1:(k:Int)<(n:Int):=by omega
    go_wp2_with fail;refine(l3unit_any B g _ _ (unhide hG) ((unhide S).itU k) (unhide QP) a ha hxr).mono ?_;rintro e w3 ⟨rfl,h3,x3⟩;have H3:=hide h3;have R3:=hide ((unhide hr).succ (unhide QP));clear h3 c5 hgw;go_wp2_with fail;go_roundw
    case rel=>exact⟨k+1,by omega,by go_num,unhide R3,unhide H3,x3⟩
    case measure=>simp [intOf];omega
   ·have h1:¬(k:Int)<(n:Int):=by omega
    have hkn:=hide (show k=n by omega);go_wp2_with fail;go_ret;exact⟨k,rfl,⟨unhide hr,hk,.inl (unhide hkn)⟩,unhide hG,hxr⟩
  ·have qb:((itU k y).phase != 0)=false:=by simpa using q
   have QP:=hide (show(itU k y).phase=0 by simpa using q);by_cases hlt:k<n
   ·have h1:(k:Int)<(n:Int):=by omega
    go_wp2_with fail;go_ret;exact⟨k,rfl,⟨unhide hr,hk,.inr (unhide QP)⟩,unhide hG,hxr⟩
   ·have h1:¬(k:Int)<(n:Int):=by omega
    have hkn:=hide (show k=n by omega);go_wp2_with fail;go_ret;exact⟨k,rfl,⟨unhide hr,hk,.inl (unhide hkn)⟩,unhide hG,hxr⟩
theorem l3step_zero(g:Nat)(w:World):Calls Tryz.prog 185 #[.pointer (some ⟨g,0,none⟩),.int .i64 0] w fun e w'=>e=.returned (.int .i64 0)∧w'=w:=by
 go_enter Tryz.func185,Tryz.ntmps185;go_wp2_with fail;go_ret;exact⟨rfl,rfl⟩
theorem l3step_any[Inhabited ProtD](B g:Nat)(x:Hp)(n:Nat)(w:World)(h:GOk B w g x)(s:Snd x)(n1:n≤100000)(a:World)(ha:a.heap.size≤B)(hx:Ext a w):
  Calls Tryz.prog 185 #[.pointer (some ⟨g,0,none⟩),.int .i64 n] w fun e w'=>∃k:Nat,e=.returned (.int .i64 k)∧Hid (StepIs (stepH x n) n k)∧GOk B w' g (itU k (stepH x n))∧Ext a w':=by
 by_cases n0:n=0
 ·subst n0;have e:stepH x 0=x:=by unfold stepH;rw[if_neg (fun h=>h.2 rfl)]
  rw[e];refine(l3step_zero g w).mono ?_;rintro e w' ⟨rfl,rfl⟩;exact⟨0,rfl,⟨Runs.zero _,Nat.le_refl _,.inl rfl⟩,h,hx⟩
 ·by_cases hp:x.phase=0
  ·have e:stepH x n=toPh x 1 0:=by unfold stepH;rw[if_pos ⟨hp,n0⟩]
   rw[e];exact l3step_begin B g x n w h s n0 n1 hp a ha hx
  ·have e:stepH x n=x:=by unfold stepH;rw[if_neg (fun h=>hp h.1)]
   rw[e];exact l3step_loop B g x n w h s n0 n1 hp a ha hx
theorem l3out_any[Inhabited ProtD](B g:Nat)(x:Hp)(w:World)(h:GOk B w g x)(s:Snd x)(a:World)(ha:a.heap.size≤B)(hx:Ext a w):
  Calls Tryz.prog 222 #[.pointer (some ⟨g,0,none⟩)] w fun e w'=>∃k:Nat,e=.returned (.int .i64 k)∧Hid (EndIs x k)∧GOk B w' g (itU k x)∧Ext a w':=by
 have HS:=hide h;have S:=hide s;have XS:=hx;clear h s;go_enter Tryz.func222,Tryz.ntmps222;go_wp2_with fail
 go_loopg [3] (14000000) (fun gk d wr=>∃k:Nat,d=.int .i64 k∧Hid (Runs x k)∧Hid (mu (itU k x)≤gk)∧Hid (GOk B wr g (itU k x))∧Ext a wr)
 case atStart=>exact⟨0,rfl,Runs.zero _,(unhide S).mu_le,unhide HS,XS⟩
 case round=>
  clear HS XS;obtain⟨k,rfl,hr,hm,hG,hxr⟩:=hrel;obtain⟨_,_,c5,_,_,hgw⟩:=(unhide hG).box;have kl:=(unhide hr).le (unhide S);cases q:((itU k x).phase == 0)
  ·have qb:((itU k x).phase != 0)=true:=by simpa using q
   have QP:=hide (show(itU k x).phase≠0 by simpa using q);go_wp2_with fail;refine(l3unit_any B g _ _ (unhide hG) ((unhide S).itU k) (unhide QP) a ha hxr).mono ?_;rintro e w3 ⟨rfl,h3,x3⟩;have H3:=hide h3;have R3:=hide ((unhide hr).succ (unhide QP));have M3:=hide (show mu (itU (k+1) x)<mu (itU k x) from((unhide S).itU k).less (unhide QP));have wk:wrap64 ((k:Int)+1)=(k:Int)+1:=by unfold wrap64;omega
   clear h3 c5 hgw;go_wp2_with fail
   go_roundg (mu (itU (k+1) x))
   case measure=>have:=unhide M3;have:=unhide hm;omega
   case rel=>exact⟨k+1,by go_num,unhide R3,Nat.le_refl _,unhide H3,x3⟩
  ·have qb:((itU k x).phase != 0)=false:=by simpa using q
   have QP:=hide (show(itU k x).phase=0 by simpa using q);go_wp2_with fail;go_ret;exact⟨k,rfl,⟨unhide QP,unhide hr⟩,unhide hG,hxr⟩
theorem l3round_any[Inhabited ProtD](B g:Nat)(x:Hp)(w:World)(h:GOk B w g x)(s:Snd x)(a:World)(ha:a.heap.size≤B)(hx:Ext a w):
  Calls Tryz.prog 186 #[.pointer (some ⟨g,0,none⟩)] w fun e w'=>∃y z,e=.returned (.tuple #[])∧Hid (endH x y∧endH (toPh y 1 0) z)∧GOk B w' g z∧Ext a w':=by
 have HO:=hide h;have S:=hide s;clear h s;go_enter Tryz.func186,Tryz.ntmps186;go_wp2_with fail;refine(l3out_any B g x _ (unhide HO) (unhide S) a ha hx).mono ?_;rintro e w1 ⟨k,rfl,he,h1,x1⟩;obtain⟨y,hy⟩:∃y,y=itU k x:=⟨_,rfl⟩;rw[←hy] at h1;have EY:=hide (show endH x y from⟨k,unhide he,hy⟩);have H1:=hide h1;clear h1 he hy;go_wp2_with fail;refine(l3begin_any B g y _ (unhide H1) a ha x1).mono ?_;rintro e w2 ⟨rfl,h2,x2⟩;have H2:=hide h2;clear h2;go_wp2_with fail;refine(l3out_any B g _ _ (unhide H2) (((unhide EY).snd (unhide S)).1.begin ((unhide EY).snd (unhide S)).2) a ha x2).mono ?_;rintro e w3 ⟨k2,rfl,he,h3,x3⟩;have EZ:=hide (show endH (toPh y 1 0) (itU k2 (toPh y 1 0)) from⟨k2,unhide he,rfl⟩);have H3:=hide h3;clear h3 he;go_wp2_with fail
 go_end0
 exact⟨y,_,rfl,⟨unhide EY,unhide EZ⟩,unhide H3,x3⟩
theorem l5fine_any(n:Int)(w:World):Calls Tryz.prog 179 #[.int .i64 n] w fun e w'=>e=.returned (ansV 0 n)∧Ext w w':=by
 go_enter Tryz.func179,Tryz.ntmps179;go_wp2_with fail
 first
  | (go_ret;exact⟨rfl,by repeat (first | exact Ext.refl _ | refine Ext.alloc ?_ _)⟩)
  | exact bodyPost_ret (v:=ansV 0 n) (by simp [results,Tryz.results179,go_sem]) rfl ⟨rfl,by repeat (first | exact Ext.refl _ | refine Ext.alloc ?_ _)⟩
theorem l5bad_any(n:Int)(w:World):Calls Tryz.prog 175 #[.int .i64 n] w fun e w'=>e=.returned (ansV n 0)∧Ext w w':=by
 go_enter Tryz.func175,Tryz.ntmps175;go_wp2_with fail
 first
  | (go_ret;exact⟨rfl,by repeat (first | exact Ext.refl _ | refine Ext.alloc ?_ _)⟩)
  | exact bodyPost_ret (v:=ansV n 0) (by simp [results,Tryz.results175,go_sem]) rfl ⟨rfl,by repeat (first | exact Ext.refl _ | refine Ext.alloc ?_ _)⟩
theorem GOk.set12[Inhabited ProtD]{B:Nat}{w:World}{g:Nat}{x:Hp}(h:GOk B w g x)(v:Int):GOk B (w.setCell ⟨g,12,none⟩ (iv v)) g { x with forced:=v }:=by
 obtain⟨ar,kr,ac,kc,vg,br,bc,pb,pa,pk,role,h⟩:=h;exact⟨_,_,_,_,_,_,_,_,_,_,_,h.boxed (x':={ x with forced:=v }) (Only.setCell (S:=fun q=>q=g) (Only.refl _ w) (p:=⟨g,12,none⟩) rfl _) (h.nf.set _ _) rfl rfl rfl (h.bx.set12 v)⟩
theorem GOk.set2[Inhabited ProtD]{B:Nat}{w:World}{g:Nat}{x:Hp}(h:GOk B w g x)(v:Int):GOk B (w.setCell ⟨g,2,none⟩ (iv v)) g { x with born:=v }:=by
 obtain⟨ar,kr,ac,kc,vg,br,bc,pb,pa,pk,role,h⟩:=h;exact⟨_,_,_,_,_,_,_,_,_,_,_,h.boxed (x':={ x with born:=v }) (Only.setCell (S:=fun q=>q=g) (Only.refl _ w) (p:=⟨g,2,none⟩) rfl _) (h.nf.set _ _) rfl rfl rfl (h.bx.set2 v)⟩
theorem GOk.nums[Inhabited ProtD]{B:Nat}{w:World}{g:Nat}{x:Hp}(h:GOk B w g x):w.cell? ⟨g,0,none⟩=some (iv x.room)∧w.cell? ⟨g,1,none⟩=some (iv x.used)∧w.cell? ⟨g,2,none⟩=some (iv x.born)∧w.cell? ⟨g,5,none⟩=some (iv x.phase)∧w.cell? ⟨g,9,none⟩=some (iv x.per)∧w.cell? ⟨g,10,none⟩=some (iv x.start)∧w.cell? ⟨g,12,none⟩=some (iv x.forced):=by
 obtain⟨ar,kr,ac,kc,vg,br,bc,pb,pa,pk,role,h⟩:=h;obtain⟨c0,c1,c2,c3,c4,c5,c6,c7,c8,c9,c10,c11,c12⟩:=h.bx;exact⟨c0,c1,c2,c5,c9,c10,c12⟩
theorem l5room_any[Inhabited ProtD](B g:Nat)(x:Hp)(u:Nat)(w:World)(h:GOk B w g x)(s:Snd x)(hu:u≤201)(a:World)(ha:a.heap.size≤B)(hx:Ext a w):
  Calls Tryz.prog 207 #[.pointer (some ⟨g,0,none⟩),.int .i64 u] w fun e w'=>∃y,e=.returned (.bool (fitsB y u))∧Hid (RoomIs x u y)∧Hid (GOk B w' g y)∧Ext a w':=by
 have HO:=hide h;obtain⟨c0,c1,c2,c5,c9,c10,c12⟩:=h.nums;have hgw:g<w.heap.size:=h.box.2.2.2.2.2;have f12:=h.box.2.2.2.1 12;have lo:a.heap.size≤g:=Nat.le_trans ha h.box.2.2.2.2.1;have us:0≤x.used∧x.used≤4000:=by have h3:=s.r3;have h1:=s.r1.room;unfold R3 at h3;omega
 have fo:=s.r1.forced;have S:=hide s;have wu:wrap64 (x.used+(u:Int))=x.used+(u:Int):=wrap_fit _ (by omega) (by omega);clear h s;cases q:fitsB x u
 ·have q1:¬(x.used+(u:Int)≤x.room):=by simpa [fitsB] using q
  have Q:=hide q;clear q
  have END:=hide (show ∀(w2:World) (y:Hp),Snd y→GOk B w2 g y→(w2.cell? ⟨g,0,none⟩=some (iv y.room)∧w2.cell? ⟨g,1,none⟩=some (iv y.used)∧wrap64 (y.used+(u:Int))=y.used+(u:Int)∧g<w2.heap.size) from fun w2 y sy h2=>by
   have us2:0≤y.used∧y.used≤4000:=by have h3:=sy.r3;have h1:=sy.r1.room;unfold R3 at h3;omega
   exact⟨h2.nums.1,h2.nums.2.1,wrap_fit _ (by omega) (by omega),cell_lt h2.nums.1⟩)
  have TAIL:=hide (show ∀(w1:World),GOk B w1 g (forceTo x)→Ext a w1→Calls Tryz.prog 186 #[.pointer (some ⟨g,0,none⟩)] w1 fun e w'=>∃y,e=.returned (.tuple #[])∧Hid (RoomIs x u y)∧Hid (Snd y)∧Hid (GOk B w' g y)∧Ext a w' from fun w1 h1 x1=>(l3round_any B g _ w1 h1 (unhide S).forceTo a ha x1).mono fun e w2 ⟨y,z,he,hr,h2,x2⟩=>⟨z,he,.inr ⟨unhide Q,⟨y,hr.1,hr.2⟩⟩,RdIs.snd (unhide S).forceTo ⟨y,hr.1,hr.2⟩,h2,x2⟩);go_enter Tryz.func207,Tryz.ntmps207;go_wp2_with fail;go_quiet (fail);obtain⟨W,hW⟩:∃W,W=w.drewN nq:=⟨_,rfl⟩;rw[←hW];have xW:Ext w W:=by rw[hW];exact Ext.drewN (Ext.refl w) nq
  have HW:=hide ((unhide HO).ext xW);have XW:=hide (hx.trans xW);have d12:=xW.keep c12;have g12:=((bcell xW).2 g 12 hgw).trans f12;have hgw1:g<W.heap.size:=cell_lt d12;clear hW c0 c1 c2 c5 c9 c10 c12 f12 xW;by_cases hf:x.forced<1000000000
  ·have H1:=hide (show GOk B (W.setCell ⟨g,12,none⟩ (iv (x.forced+1))) g (forceTo x) by
    have:=(unhide HW).set12 (x.forced+1);unfold forceTo;rw[if_pos hf];exact this)
   have X1:=hide ((unhide XW).setCell (p:=⟨g,12,none⟩) lo (iv (x.forced+1)));have wf:wrap64 (x.forced+1)=x.forced+1:=by unfold wrap64;omega
   go_wp2_with fail;refine(unhide TAIL _ (unhide H1) (unhide X1)).mono ?_;rintro e w2 ⟨y,rfl,hr,sy,h2,x2⟩;obtain⟨d0,d1,wu2,hgw2⟩:=unhide END w2 y (unhide sy) (unhide h2);go_wp2_with fail;go_quiet (fail);go_wp2_with fail;go_ret;exact⟨y,rfl,unhide hr,(unhide h2).ext (Ext.drewN (Ext.refl _) _),Ext.drewN x2 _⟩
  ·have H1:=hide (show GOk B W g (forceTo x) by
    unfold forceTo;rw[if_neg hf];exact unhide HW)
   go_wp2_with fail;refine(unhide TAIL _ (unhide H1) (unhide XW)).mono ?_;rintro e w2 ⟨y,rfl,hr,sy,h2,x2⟩;obtain⟨d0,d1,wu2,hgw2⟩:=unhide END w2 y (unhide sy) (unhide h2);go_wp2_with fail;go_quiet (fail);go_wp2_with fail;go_ret;exact⟨y,rfl,unhide hr,(unhide h2).ext (Ext.drewN (Ext.refl _) _),Ext.drewN x2 _⟩
 ·have q1:x.used+(u:Int)≤x.room:=by simpa [fitsB] using q
  have E:=hide q;clear q;go_enter Tryz.func207,Tryz.ntmps207;go_wp2_with fail;go_quiet (fail);go_wp2_with fail;go_ret;exact⟨x,by rw[unhide E];rfl,.inl ⟨unhide E,rfl⟩,(unhide HO).ext (Ext.drewN (Ext.refl _) _),Ext.drewN hx _⟩
theorem l5pace_any[Inhabited ProtD](B g:Nat)(x:Hp)(u:Nat)(w:World)(h:GOk B w g x)(s:Snd x)(hu:u≤201)(a:World)(ha:a.heap.size≤B)(hx:Ext a w):
  Calls Tryz.prog 210 #[.pointer (some ⟨g,0,none⟩),.int .i64 u] w fun e w'=>∃y,e=.returned (.tuple #[])∧Hid (PaceIs x u y)∧Hid (GOk B w' g y)∧Ext a w':=by
 have HO:=hide h;obtain⟨c0,c1,c2,c5,c9,c10,c12⟩:=h.nums;have hgw:g<w.heap.size:=h.box.2.2.2.2.2;have pr:=s.r1.per;have S:=hide s;obtain⟨p,hp⟩:∃p:Nat,x.per=(p:Int):=⟨x.per.toNat,by omega⟩;have PE:=hide hp;rw[hp] at c9;have hp64:p≤64:=by omega
 have hm1:p*u≤64*201:=Nat.mul_le_mul hp64 hu;have hm2:((p:Int)*(u:Int))=((p*u:Nat):Int):=by simp
 obtain⟨m,hm⟩:∃m,m=p*u:=⟨_,rfl⟩;rw[←hm] at hm1 hm2;have wm:wrap64 ((p:Int)*(u:Int))=(m:Int):=by rw[hm2];exact wrap_fit _ (by omega) (by omega)
 have EM:=hide (show x.per.toNat*u=m by rw[hp,hm];simp);have PB:=hide (show paceB x u=(x.per == 0 || (u == 0 || (x.phase == 0 && decide (x.used≤x.start)))) from rfl);clear h s hp hm hm2;cases q9:((p:Int) == 0)
 ·have q9p:p≠0:=by simpa using q9
  cases qu:((u:Int) == 0)
  ·have qup:u≠0:=by simpa using qu
   have M0:=hide (show m≠0 by
    have:=unhide EM;rw[unhide PE,Int.toNat_natCast] at this;rw[←this];exact Nat.mul_ne_zero q9p qup)
   have PB1:=hide (show paceB x u=(x.phase == 0 && decide (x.used≤x.start)) by
    rw[unhide PB,unhide PE,show((p:Int) == 0)=false from q9,show(u == 0)=false by simpa using qup];rfl)
   clear PB;cases q5:(x.phase == 0)
   ·have F:=hide (show paceB x u=false by rw[unhide PB1,q5];rfl);go_enter Tryz.func210,Tryz.ntmps210;go_wp2_with fail;refine(l3step_any B g x m _ (unhide HO) (unhide S) (by omega) a ha hx).mono ?_;rintro e w2 ⟨k,rfl,st,h2,x2⟩;have H2:=hide h2;have R:=hide (show PaceIs x u (itU k (stepH x m)) from .inr ⟨unhide F,k,by rw[unhide EM];exact⟨unhide st,rfl⟩⟩);clear h2 st;go_wp2_with fail
    go_end0
    exact⟨_,rfl,unhide R,unhide H2,x2⟩
   ·have P0:=hide (show x.phase=0 by simpa using q5);have q5':=unhide P0;by_cases q1:x.used≤x.start
    ·have T:=hide (show paceB x u=true by rw[unhide PB1,q5,decide_eq_true q1];rfl);rw[q5'] at c5;clear q5';go_enter Tryz.func210,Tryz.ntmps210;go_wp2_with fail;go_quiet (fail);go_wp2_with fail;refine bodyPost_ret (results_none rfl _ _ _) rfl ?_;exact⟨x,rfl,.inl ⟨unhide T,rfl⟩,(unhide HO).ext (Ext.drewN (Ext.refl _) _),Ext.drewN hx _⟩
    ·have F:=hide (show paceB x u=false by rw[unhide PB1,q5,decide_eq_false q1];rfl);have EX:=hide (show stepH x m=toPh x 1 0 by unfold stepH;rw[if_pos ⟨q5',unhide M0⟩]);have EX2:=hide (show stepH (toPh x 1 0) m=toPh x 1 0 by unfold stepH;rw[if_neg (fun h=>by have:=h.1;simp [toPh] at this)]);have S1:=hide ((unhide S).begin q5');rw[q5'] at c5;clear q5';go_enter Tryz.func210,Tryz.ntmps210;go_wp2_with fail;go_quiet (fail);obtain⟨W,hW⟩:∃W,W=w.drewN nq:=⟨_,rfl⟩;rw[←hW];have xW:Ext w W:=by rw[hW];exact Ext.drewN (Ext.refl w) nq
     have HW:=hide ((unhide HO).ext xW);have XW:=hide (hx.trans xW);clear hW c0 c1 c2 c5 c9 c10 c12 hgw xW;go_wp2_with fail;refine(l3begin_any B g x _ (unhide HW) a ha (unhide XW)).mono ?_;rintro e w1 ⟨rfl,h1,x1⟩;have H1:=hide h1;have d9:=h1.nums.2.2.2.2.1;rw[show(toPh x 1 0).per=(p:Int) from unhide PE] at d9;have hgw1:g<w1.heap.size:=cell_lt d9;clear h1;go_wp2_with fail;refine(l3step_any B g (toPh x 1 0) m _ (unhide H1) (unhide S1) (by omega) a ha x1).mono ?_;rintro e w2 ⟨k,rfl,st,h2,x2⟩;have H2:=hide h2;have R:=hide (show PaceIs x u (itU k (stepH (toPh x 1 0) m)) from .inr ⟨unhide F,k,by rw[unhide EM,unhide EX];have:=unhide st;rw[unhide EX2] at this ⊢;exact⟨this,rfl⟩⟩);clear h2 st;go_wp2_with fail
     go_end0
     exact⟨_,rfl,unhide R,unhide H2,x2⟩
  ·have T:=hide (show paceB x u=true by rw[unhide PB,show(u == 0)=true by simpa using qu];simp);go_enter Tryz.func210,Tryz.ntmps210;go_wp2_with fail;refine bodyPost_ret (results_none rfl _ _ _) rfl ?_;exact⟨x,rfl,.inl ⟨unhide T,rfl⟩,unhide HO,hx⟩
 ·have T:=hide (show paceB x u=true by rw[unhide PB,unhide PE,show((p:Int) == 0)=true from q9];rfl);go_enter Tryz.func210,Tryz.ntmps210;go_wp2_with fail;refine bodyPost_ret (results_none rfl _ _ _) rfl ?_;exact⟨x,rfl,.inl ⟨unhide T,rfl⟩,unhide HO,hx⟩
end Go.Proofs.YtnegjhddmfiefaaGreatDoor
