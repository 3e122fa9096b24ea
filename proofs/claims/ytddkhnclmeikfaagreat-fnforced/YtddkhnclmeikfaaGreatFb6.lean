import Derived.Test.YtddkhnclmeikfaaGreatFb5
namespace Go.Proofs.YtddkhnclmeikfaaGreat
set_option maxRecDepth 100000
set_option maxHeartbeats 4000000
open Go.RowKit
attribute [local go_sem ↓] Go.wp_at_zero Go.wp_at_succ
section
variable {K : KW} {B : Nat} {w : World} {s : Nat} {R : Int} {g : List Wd} {T : List (List Pr)} {br : Nat} {vt : Value} {pb : Nat → Nat}
theorem nf1_blk6{w w':World}{b:Nat}(h:Nf1 b w)(hb:w'.heap[b]?=w.heap[b]?):Nf1 b w':=by
 obtain⟨o,ho⟩:=obj_some h.1;exact⟨obj_lt (hb.trans ho),fun j=>by rw[World.frozen?_of_block (a:=⟨b,j,none⟩) hb];exact h.2 j⟩
theorem two_new(w:World)(o1 o2:Obj):((w.alloc o1).alloc o2).heap[w.heap.size+1]?=some o2:=by
 have:=heap_alloc_new (w.alloc o1) o2
 rwa [show(w.alloc o1).heap.size=w.heap.size+1 by simp] at this
theorem IW.fits(h:IW K B w s R g T br vt pb)(P:Nat→Prop)(M:Nat)(u:Int)(rp:Rp g T.length P)(kp:Kp T P)(hT:T.length≤2000)(hl:∀i,i<T.length→(tI T i).length≤200)(hM:∀q,Qin T.length q P→sumT T q T.length≤M)(u0:0≤u)(hu:(M:Int)+u≤R)(hR:R≤4000):
  Calls Tryz.prog 160 #[.pointer (some ⟨s,0,none⟩),.int .i64 u] w fun e w'=>e=.returned (.bool true)∧Ext w w':=by
 obtain⟨ad,kt,_,i⟩:=h.form;exact ifits_any _ s R u g T P M w i (Nat.le_refl _) rp kp hT hl hM u0 hu hR
structure IM0(K:KW)(B:Nat)(v w W:World)(s:Nat)(R:Int)(g:List Wd)(T:List (List Pr))(br a c:Nat)(vt:Value)(pb:Nat→Nat):Prop where
 h:IW K B W s R g (T++[List.replicate c Pr0]) br vt pb
 x:Ext v W
 b:Bx w W 1 a 0 c 0
 f:w.heap.size+1≠s∧w.heap.size+1≠br∧vt.ownBlock≠some (w.heap.size+1)∧(∀i,i<(T++[List.replicate c Pr0]).length→w.heap.size+1≠pb i)∧¬K.S (w.heap.size+1)
def IM(K:KW)(B:Nat)(v w W:World)(s:Nat)(R:Int)(g:List Wd)(T:List (List Pr))(br a c:Nat):Prop:=∃vt pb,IM0 K B v w W s R g T br a c vt pb
theorem IM0.ext{v w0 W W':World}{a c:Nat}(h:IM0 K B v w0 W s R g T br a c vt pb)(e:Ext W W'):IM0 K B v w0 W' s R g T br a c vt pb:=⟨h.h.ext e,h.x.trans e,h.b.ext e,h.f⟩
theorem IW.pushes{v w0 W:World}{a c p q cap:Nat}(h:IW K B w s R g T br vt pb)(ap:AppN B w vt T pb p c q cap W)(x:Ext v w)(hv:v.heap.size≤B)(b:Bx w0 w 1 a 0 c 0)(f0:w0.heap.size≠s∧w0.heap.size≠br∧vt.ownBlock≠some w0.heap.size∧(∀i,i<T.length→w0.heap.size≠pb i)∧¬K.S w0.heap.size)(f1:w0.heap.size+1≠s∧w0.heap.size+1≠br∧vt.ownBlock≠some (w0.heap.size+1)∧(∀i,i<T.length→w0.heap.size+1≠pb i)∧¬K.S (w0.heap.size+1)):IM0 K B v w0 (W.setCell ⟨s,2,none⟩ (.slice (some ⟨q,0,none⟩) (T.length+1) cap)) s R g T br a c (.slice (some ⟨q,0,none⟩) (T.length+1) cap) (fun i=>if i=T.length then p else pb i):=by
 have l5:w0.heap.size+1<w.heap.size:=cell_lt b.t5;have p0:=ap.np.lt;have o2:=(Only.refl (fun k=>k=s) W).setCell (p:=⟨s,2,none⟩) rfl (.slice (some ⟨q,0,none⟩) (T.length+1) cap);refine⟨h.push ap,o2.ext (ap.on.ext x (fun k hk e=>by have:=(h.row.lt k e).1;omega)) (fun k hk e=>by have:=h.bs.1;omega),(b.only ap.on f0.2.2.1 f1.2.2.1).only o2 f0.1 f1.1,f1.1,f1.2.1,?_,fun i hi=>?_,f1.2.2.2.2⟩
 ·simp only [Value.ownBlock];rcases ap.at_ with e | e
  ·exact fun z=>f1.2.2.1 (by rw[e];simpa using z)
  ·intro z;simp at z;omega
 ·simp only [List.length_append,List.length_singleton] at hi;by_cases e:i=T.length
  ·simp only [if_pos e];omega
  ·simp only [if_neg e];exact f1.2.2.2.1 i (by omega)
theorem ido_1(h:IW K B w s R g T br vt pb)(a c:Nat)(ha:a<16)(hc:c≤199)(P:Nat→Prop)(M:Nat)(rp:Rp g T.length P)(kp:Kp T P)(hT:T.length≤2000)(hl:∀i,i<T.length→(tI T i).length≤200)(hM:∀q,Qin T.length q P→sumT T q T.length≤M)(hu:(M:Int)+(1+c)≤R)(hR:R≤4000)(v:World)(hv:v.heap.size≤B)(hx:Ext v w):
  Calls Tryz.prog 101 #[.pointer (some ⟨s,0,none⟩),actV 1 a 0 c 0] w (IP K B v s R (g.set a ⟨2,0,T.length⟩) (T++[List.replicate c Pr0]) br):=by
 have ok:actOkB 1 a 0 c 0=true:=ok_of (op:=1) (a:=a) (b:=0) (c:=c) (by omega) (by omega) (by show(a:Int)≤15;omega) (by decide) (by show(c:Int)≤200;omega);have FR0:=hide (h.far (k:=w.heap.size) (Nat.le_refl _));have FR:=hide (h.far (k:=w.heap.size+1) (by omega));have X0:=hide hx;have V0:=hide (show v.heap.size≤w.heap.size+1 by have:=hx.size;omega);have HI:=hide (h.ext (doI_x w 1 a 0 c 0));have BX:=hide (Bx.new w 1 a 0 c 0);have QA:=hide (specActOk_any 1 a 0 c 0 (doI w 1 a 0 c 0));have QF:=hide (fun W (i:IW K B W s R g T br vt pb)=>i.fits P M (1+c) rp kp hT hl hM (by omega) hu hR);rw[ok] at QA;clear ok h hx rp kp hl hM hu hR;go_enter Tryz.func101,Tryz.ntmps101;obtain⟨t0,t1,t2,t3,t4,t5,t6,t7⟩:=unhide BX;go_wp2_with fail;refine(unhide QA).mono ?_;rintro e w1 ⟨rfl,x1⟩;have H1:=hide ((unhide HI).ext x1);have B1:=hide ((unhide BX).ext x1);have X1:=hide ((unhide X0).trans ((doI_x w 1 a 0 c 0).trans x1));clear t0 t1 t2 t3 t4 t5 t6 t7 QA HI BX X0 x1;obtain⟨t0,t1,t2,t3,t4,t5,t6,t7⟩:=unhide B1;have q1:IntKind.i64.wrap (1+(c:Int))=1+(c:Int):=by rw[IntKind.wrap_i64];omega
 go_wp2_with fail;refine(unhide QF _ (unhide H1)).mono ?_;rintro e w2 ⟨rfl,x2⟩;have H2:=hide ((unhide H1).ext x2);have B2:=hide ((unhide B1).ext x2);have X2:=hide ((unhide X1).trans x2);clear t0 t1 t2 t3 t4 t5 t6 t7 QF H1 B1 X1 x2;obtain⟨t0,t1,t2,t3,t4,t5,t6,t7⟩:=unhide B2;have c2:=(unhide H2).c2;have f2:=(unhide H2).nfs.2 2;have hs2:s<w2.heap.size:=(unhide H2).nfs.1;have hw2:w.heap.size<w2.heap.size:=cell_lt t0;have hw2':w.heap.size+1<w2.heap.size:=cell_lt t5;have mk:=fun W=>mkPairsZ c (by omega) W
 have np:=NewP.made w2 w2 c 154 (Ext.refl _);have npd:=NewP.made w2 w2.drew c 154 (Ext.refl _).drew;have NPA:=hide np;have NPD:=hide npd;clear np npd;go_wp2_with fail;go_cut [] (fun wx=>Hid (IM K B v w wx s R g T br a c))
 case first=>
  go_region_law (refine step_appN _ rfl _ _ rfl (unhide H2) w2.heap.size c (by first | exact((Ext.refl _).alloc _).alloc _ | exact(((Ext.refl _).alloc _).alloc _).drew | exact((Ext.refl _).drew.alloc _).alloc _ | exact((Ext.refl _).alloc _).drew.alloc _) (by first | exact(unhide NPA).ext ((Ext.refl _).alloc _) | exact(unhide NPA).ext ((Ext.refl _).alloc _).drew | exact(unhide NPA).ext ((Ext.refl _).drew.alloc _) | exact(unhide NPD).ext ((Ext.refl _).alloc _)) (by simp [go_sem]) hT ⟨w2.heap.size+1,0,none⟩ (by first | rfl | simp [Act.eval,Act.put]) (by first | rfl | (simp [Act.eval,Act.put];rfl)) (World.news_of_block (cs:=#[iv 0,iv 0,iv 0,iv 0,.slice (some ⟨w2.heap.size,0,none⟩) c c]) (two_new w2 _ _)) ?_;intro q cap w3 hap;have c2':=hap.on.keep (unhide H2).rs.1 c2;have g2':=(nf1_blk6 (unhide H2).nfs (hap.on.block s (unhide H2).nfs.1 (unhide H2).rs.1)).2 2;have hs3:s<w3.heap.size:=cell_lt c2';have AP:=hide hap;clear hap)
  all_goals
   go_wp2_with fail;go_meet
   first | exact⟨_,_,(unhide H2).pushes (unhide AP) (unhide X2) hv (unhide B2) (unhide FR0) (unhide FR)⟩ | exact⟨_,_,((unhide H2).pushes (unhide AP) (unhide X2) hv (unhide B2) (unhide FR0) (unhide FR)).ext (Ext.refl _).drew⟩ | trace_state
 case rest=>
  obtain⟨w4,hw4⟩:∃W,W=wc:=⟨_,rfl⟩;subst hw4;obtain⟨vt',pb',hm⟩:=unhide hcut;have HM:=hide hm;clear hcut hm t0 t1 t2 t3 t4 t5 t6 t7 c2 f2 hs2 hw2 hw2' mk NPA NPD H2 B2 X2;obtain⟨t0,t1,t2,t3,t4,t5,t6,t7⟩:=(unhide HM).3;have c1:=(unhide HM).1.c1;have c2:=(unhide HM).1.c2;obtain⟨ad,kt,ev,_⟩:=(unhide HM).1.form;rw[ev] at c2;rw[show(T++[List.replicate c Pr0]).length=T.length+1 by simp] at c2;obtain⟨r0,r1,r2⟩:=(unhide HM).1.rg a ha;have f:=(unhide HM).1.nfb.2;have hbb:=(unhide HM).1.bs;have j0:(0:Int)≤(a:Int):=by omega
  have j1:(a:Int)<16:=by omega
  have hs1:s<w4.heap.size:=(unhide HM).1.nfs.1;have hb1:br<w4.heap.size:=(unhide HM).1.nfb.1;have hw1:w.heap.size<w4.heap.size:=cell_lt t0;have z1:((T.length+1:Nat):Int)-1=T.length:=by omega
  have FN:=hide (show IW K B (wordO w4 br (a*3) ⟨2,0,T.length⟩) s R (g.set a ⟨2,0,T.length⟩) (T++[List.replicate c Pr0]) br vt' pb'∧Ext v (wordO w4 br (a*3) ⟨2,0,T.length⟩)∧Bx w (wordO w4 br (a*3) ⟨2,0,T.length⟩) 1 a 0 c 0 from⟨(unhide HM).1.reg a ha _,(wordO_only w4 br (a*3) ⟨2,0,T.length⟩).ext (unhide HM).2 (fun q hq e=>by omega),(unhide HM).3.only (wordO_only w4 br (a*3) ⟨2,0,T.length⟩) (unhide FR0).2.1 (unhide FR).2.1⟩);have FR4:=hide (show w.heap.size+1≠s∧w.heap.size+1≠br∧vt'.ownBlock≠some (w.heap.size+1)∧(∀i,i<(T++[List.replicate c Pr0]).length→w.heap.size+1≠pb' i)∧¬K.S (w.heap.size+1) from(unhide HM).4);obtain⟨W2,hW2⟩:∃W,W=wordO w4 br (a*3) ⟨2,0,T.length⟩:=⟨_,rfl⟩;rw[←hW2] at FN;unfold wordO at hW2;clear HM ev;go_wp2_with fail
  go_region
  go_wp2_with fail;rw[←hW2];refine(l5fine_any 0 _).mono ?_;rintro e w3 ⟨rfl,x3⟩;have x23:=Ext.trans (Ext.refl W2).drew x3;have G3:=hide ((unhide FN).1.ext x23);have X3:=hide ((unhide FN).2.1.trans x23);have B3:=hide ((unhide FN).2.2.ext x23);clear hW2 FN c1 c2 r0 r1 r2 f t0 t1 t2 t3 t4 t5 t6 t7 x3 x23;obtain⟨u0,u1,u2,u3,u4,u5,u6,u7⟩:=unhide B3;have hw3:w.heap.size+1<w3.heap.size:=cell_lt u5;go_wp2_with fail;refine bodyPost_ret (v:=ansV 0 0) (by simp [results,Tryz.results101,go_sem,u5,u6]) rfl ?_;exact⟨vt',pb',rfl,(unhide G3).ans (unhide FR4) _ _,((unhide X3).setCell (p:=⟨w.heap.size+1,0,none⟩) (unhide V0) _).setCell (p:=⟨w.heap.size+1,1,none⟩) (unhide V0) _⟩
end
end Go.Proofs.YtddkhnclmeikfaaGreat
