import Derived.Test.YtddkhnclmeikfaaGreatJb
import Derived.Test.YtddkhnclmeikfaaGreatRby
import Derived.RangeFuncFrom
set_option maxRecDepth 100000
set_option maxHeartbeats 4000000
namespace Go.Proofs.YtddkhnclmeikfaaGreat
open Go.RowKit
attribute [local go_sem ↓] Go.wp_at_zero Go.wp_at_succ
structure SCel[Inhabited ProtD](C B:Nat)(w:World)(b:Nat)(x:Hp)(i bn kn cb co:Nat)(ap:Option Addr)(kp:Nat):Prop where
 n13:w.cell? ⟨b,13,none⟩=some (.slice (some ⟨bn,0,none⟩) x.cells.length kn)
 m0:w.cell? ⟨bn,i*2,none⟩=some (iv i)
 m1:w.cell? ⟨bn,i*2+1,none⟩=some (.pointer (some ⟨cb,co,none⟩))
 s:S7 w cb co (x.c i)
 p7:w.cell? ⟨cb,co+7,none⟩=some (.slice ap (x.c i).prs.length kp)
 f:∀j,w.frozen? ⟨cb,j,none⟩=false
 lo:B≤cb∧cb<w.heap.size
 set2:∀(W:World) (u:Int),Ext w W→SOq C B (W.setCell ⟨cb,co+2,none⟩ (iv u)) b (setcH x i (weakC (x.c i) u))
 set3:∀(W:World) (u:Int),Ext w W→SOq C B (W.setCell ⟨cb,co+3,none⟩ (iv u)) b (setcH x i (lastC (x.c i) u))
theorem SOq.cel[Inhabited ProtD]{C B:Nat}{w:World}{b:Nat}{x:Hp}(h:SOq C B w b x)(i:Nat)(hi:i<x.cells.length):∃bn kn cb co ap kp,SCel C B w b x i bn kn cb co ap kp:=by
 obtain⟨ar,kr,a4,n4,k4,a8,m8,k8,br,cB,cO,bn,pb,pa,pk,kn,hd,vf,F,vk,K,role,h,v,k⟩:=h;have sm:∀c:Cl,c.st=(x.c i).st→SameSt x (setcH x i c):=fun c hc=>SameSt.set x i c hc rfl
 refine⟨bn,kn,cB i,cO i,pa i,pk i,h.sb.n13,(h.sb.nd i hi).1,(h.sb.nd i hi).2,h.rw.s i hi,h.rw.p7 i hi,(h.rw.nc i hi).1.2,⟨(h.rw.nc i hi).2,(h.rw.nc i hi).1.1⟩,fun W u e=>?_,fun W u e=>?_⟩
 ·have g1:=h.ext e;obtain⟨a0,a1,a2,a3,a4,a5,a6⟩:=g1.rw.s i hi;refine⟨_,_,_,_,_,_,_,_,_,_,_,_,_,_,_,_,_,_,_,_,_,_,g1.setc hi rfl (Only.setCell (S:=fun q=>q=cB i) (Only.refl _ W) (p:=⟨cB i,cO i+2,none⟩) rfl _) ⟨?_,?_,World.cell?_setCell_same _ _ _ a2,?_,?_,?_,?_⟩ (fun j hj=>cell_other _ (.inr (by omega))) ((g1.rw.nc i hi).1.set _ _),v.alike (sm _ rfl) rfl rfl,k⟩
  ·rw[cell_other _ (.inr (by omega))];exact a0
  ·rw[cell_other _ (.inr (by omega))];exact a1
  ·rw[cell_other _ (.inr (by omega))];exact a3
  ·rw[cell_other _ (.inr (by omega))];exact a4
  ·rw[cell_other _ (.inr (by omega))];exact a5
  ·rw[cell_other _ (.inr (by omega))];exact a6
 ·have g1:=h.ext e;obtain⟨a0,a1,a2,a3,a4,a5,a6⟩:=g1.rw.s i hi;refine⟨_,_,_,_,_,_,_,_,_,_,_,_,_,_,_,_,_,_,_,_,_,_,g1.setc hi rfl (Only.setCell (S:=fun q=>q=cB i) (Only.refl _ W) (p:=⟨cB i,cO i+3,none⟩) rfl _) ⟨?_,?_,?_,World.cell?_setCell_same _ _ _ a3,?_,?_,?_⟩ (fun j hj=>cell_other _ (.inr (by omega))) ((g1.rw.nc i hi).1.set _ _),v.alike (sm _ rfl) rfl rfl,k⟩
  ·rw[cell_other _ (.inr (by omega))];exact a0
  ·rw[cell_other _ (.inr (by omega))];exact a1
  ·rw[cell_other _ (.inr (by omega))];exact a2
  ·rw[cell_other _ (.inr (by omega))];exact a4
  ·rw[cell_other _ (.inr (by omega))];exact a5
  ·rw[cell_other _ (.inr (by omega))];exact a6
theorem SCel.ext[Inhabited ProtD]{C B:Nat}{w w':World}{b:Nat}{x:Hp}{i bn kn cb co:Nat}{ap:Option Addr}{kp:Nat}(h:SCel C B w b x i bn kn cb co ap kp)(e:Ext w w'):SCel C B w' b x i bn kn cb co ap kp:=
 ⟨e.keep h.n13,e.keep h.m0,e.keep h.m1,⟨e.keep h.s.1,e.keep h.s.2.1,e.keep h.s.2.2.1,e.keep h.s.2.2.2.1,e.keep h.s.2.2.2.2.1,e.keep h.s.2.2.2.2.2.1,e.keep h.s.2.2.2.2.2.2⟩,e.keep h.p7,fun j=>((bcell e).2 cb j h.lo.2).trans (h.f j),⟨h.lo.1,Nat.lt_of_lt_of_le h.lo.2 e.size⟩,fun W u e2=>h.set2 W u (e.trans e2),fun W u e2=>h.set3 W u (e.trans e2)⟩
theorem cellOf_no{C B:Nat}[Inhabited ProtD]{w:World}{b bd:Nat}{x:Hp}{br kr f:Nat}{op:Int}{a p c:Nat}{n:Int}{rv:Value}(h:SReg C B w b x br kr)(d:Deed w bd b op a p c n rv)(hf:f<16)(hk:(x.r f).k≠2):
  Calls Tryz.prog 325 #[.pointer (some ⟨bd,0,none⟩),.pointer (some ⟨br,f*3,none⟩)] w fun e w'=>e=.returned (.tuple #[.pointer none,.iface 283 (.agg #[iv 2])])∧Ext w w':=by
 obtain⟨r0,r1,r2⟩:=h.r f hf;obtain⟨d0,d1,d2,d3,d4,d5,d6⟩:=d;have QF:=hide (fun W=>find_none (x.r f) b W (by simpa using hk));have hb1:br<w.heap.size:=cell_lt r0;have hd1:bd<w.heap.size:=cell_lt d0;clear h hk;go_enter Tryz.func325,Tryz.ntmps325;go_wp2_with fail;go_region_with (go_at_call 199;refine(unhide QF _).mono ?_;rintro e w5 ⟨rfl,x5⟩;have X5:=hide (Ext.trans (Ext.refl w).drew x5);clear x5)
 all_goals
  go_wp2_with fail;go_ret2;exact⟨rfl,unhide X5⟩
theorem cellOf_yes{C B:Nat}[Inhabited ProtD]{w:World}{b bd:Nat}{x:Hp}{br kr f i bn kn cb co:Nat}{ap:Option Addr}{kp:Nat}{op:Int}{a p c:Nat}{n:Int}{rv:Value}(h:SReg C B w b x br kr)(hc:SCel C B w b x i bn kn cb co ap kp)(d:Deed w bd b op a p c n rv)(hf:f<16)(hk:(x.r f).k=2)(ha:(x.r f).a=(i:Int))(hi:i<x.cells.length):
  Calls Tryz.prog 325 #[.pointer (some ⟨bd,0,none⟩),.pointer (some ⟨br,f*3,none⟩)] w fun e w'=>e=.returned (.tuple #[ndp bn i,.nilIface])∧Ext w w':=by
 obtain⟨r0,r1,r2⟩:=h.r f hf;obtain⟨d0,d1,d2,d3,d4,d5,d6⟩:=d;rw[ha] at r2;have n13:=hc.n13;have QF:=hide (fun(W:World) (xW:Ext w W)=>find_some ⟨(x.r f).k,(x.r f).n,(i:Int)⟩ b x.cells.length bn 0 kn i W (by simpa using hk) (xW.keep n13) hi);simp only [Nat.zero_add] at QF;have hb1:br<w.heap.size:=cell_lt r0;have hd1:bd<w.heap.size:=cell_lt d0;clear h hk ha hc;go_enter Tryz.func325,Tryz.ntmps325;go_wp2_with fail;go_region_with (go_at_call 199;refine(unhide QF _ (Ext.refl w).drew).mono ?_;rintro e w5 ⟨rfl,x5⟩;have X5:=hide (Ext.trans (Ext.refl w).drew x5);clear x5)
 all_goals
  go_wp2_with fail;go_ret2;exact⟨rfl,unhide X5⟩
structure SPr[Inhabited ProtD](C B:Nat)(w:World)(b:Nat)(x:Hp)(i k bn kn cb co bp kp:Nat):Prop where
 ce:SCel C B w b x i bn kn cb co (some ⟨bp,0,none⟩) kp
 pr:PrAt w bp (k*6) ((x.c i).p k)
 f:∀j,w.frozen? ⟨bp,j,none⟩=false
 lo:B≤bp∧bp<w.heap.size
theorem wordO_key(W:World)(bp o:Nat)(q:Pr)(y:Wd)(h:PrAt W bp o q):PrAt (wordO W bp o y) bp o ⟨y,q.val⟩:=by
 obtain⟨h0,h1,h2,h3,h4,h5⟩:=h;have k:=wordO_at W bp o y q.key ⟨h0,h1,h2⟩;exact⟨k.1,k.2.1,k.2.2,(wordO_other _ _ _ _ _ (by omega)).trans h3,(wordO_other _ _ _ _ _ (by omega)).trans h4,(wordO_other _ _ _ _ _ (by omega)).trans h5⟩
theorem wordO_val(W:World)(bp o:Nat)(q:Pr)(y:Wd)(h:PrAt W bp o q):PrAt (wordO W bp (o+3) y) bp o ⟨q.key,y⟩:=by
 obtain⟨h0,h1,h2,h3,h4,h5⟩:=h;have k:=wordO_at W bp (o+3) y q.val ⟨h3,h4,h5⟩;exact⟨(wordO_other _ _ _ _ _ (by omega)).trans h0,(wordO_other _ _ _ _ _ (by omega)).trans h1,(wordO_other _ _ _ _ _ (by omega)).trans h2,k.1,k.2.1,k.2.2⟩
def PutS[Inhabited ProtD](C B:Nat)(w:World)(b:Nat)(x:Hp)(i k bn bp:Nat):Prop:=
 ∀(o:Nat) (y:Wd) (z:Hp),(o=0∧z=setcH x i (keyC (x.c i) k y))∨(o=3∧z=setcH x i (valC (x.c i) k y))→∀W W2:World,Ext w W→Ext (wordO W bp (k*6+o) y) W2→
  WdAt W2 bp (k*6+o) y∧SOq C B W2 b z∧(∃kn,W2.cell? ⟨b,13,none⟩=some (.slice (some ⟨bn,0,none⟩) x.cells.length kn))∧
  ∀(v:World) (t:Nat),t<x.cells.length→v.heap.size≤B→Ext v W2→(shadeB z t=true→x.gray.length<4000)→Calls Tryz.prog 82 #[.pointer (some ⟨b,0,none⟩),ndp bn t] W2 fun e w'=>e=.returned (.tuple #[])∧Hid (SOq C B w' b (shadeH z t))∧Ext v w'
theorem SOq.prw[Inhabited ProtD]{C B:Nat}{w:World}{b:Nat}{x:Hp}(h:SOq C B w b x)(i:Nat)(hi:i<x.cells.length)(k:Nat)(hk:k<(x.c i).prs.length):∃bn kn cb co bp kp,SPr C B w b x i k bn kn cb co bp kp∧PutS C B w b x i k bn bp:=by
 have h0:=h;obtain⟨ar,kr,a4,n4,k4,a8,m8,k8,br,cB,cO,bn,pb,pa,pk,kn,hd,vf,F,vk,K,role,h,v,kk⟩:=h;obtain⟨bn2,kn2,cb,co,ap,kp,ce⟩:=h0.cel i hi;have hl:0<(x.c i).prs.length:=by omega
 obtain⟨e1,e2,_,e4⟩:=h.rw.pl i hi (h.rw.pw hi hl)
 have ebn:bn2=bn:=by
  have:=ce.n13.symm.trans h.sb.n13;simp at this;exact this.1
 subst ebn
 have ecb:cb=cB i∧co=cO i:=by
  have:=ce.m1.symm.trans (h.sb.nd i hi).2;simp at this;exact this
 obtain⟨rfl,rfl⟩:=ecb
 have eap:ap=some ⟨pb i,0,none⟩:=by
  have:=ce.p7.symm.trans (h.rw.p7 i hi);rw[e1] at this;simp at this;exact this.1
 subst eap;have sm:∀c:Cl,c.st=(x.c i).st→SameSt x (setcH x i c):=fun c hc=>SameSt.set x i c hc rfl
 refine⟨bn2,kn2,cB i,cO i,pb i,kp,⟨ce,h.rw.p i hi k hk,e2.2,⟨e4,e2.1⟩⟩,fun o y z ho W W2 e e2w=>?_⟩;have g1:=h.ext e;have pr1:=g1.rw.p i hi k hk;have nf1:=(g1.rw.pl i hi (g1.rw.pw hi hl)).2.1.n1
 have key:SAt B (wordO W (pb i) (k*6+o) y) b z ar kr (.slice a4 n4 k4) (.slice a8 m8 k8) br cB cO bn2 pb pa pk kn hd vf F vk K role∧SameSt x z∧z.phase=x.phase∧z.hand=x.hand∧z.room=x.room∧z.gray=x.gray∧z.cells.length=x.cells.length∧WdAt (wordO W (pb i) (k*6+o) y) (pb i) (k*6+o) y:=by
  rcases ho with⟨rfl,rfl⟩ | ⟨rfl,rfl⟩
  ·refine⟨g1.setp i hi k hk ⟨y,((x.c i).p k).val⟩ (wordO_only _ _ _ _) (wordO_nf nf1 _ _) (wordO_key _ _ _ _ _ pr1) (fun j hj=>wordO_other _ _ _ _ _ (by omega)),sm _ rfl,rfl,rfl,rfl,rfl,by simp [setcH],wordO_at _ _ _ _ ((x.c i).p k).key ⟨pr1.1,pr1.2.1,pr1.2.2.1⟩⟩
  ·refine⟨g1.setp i hi k hk ⟨((x.c i).p k).key,y⟩ (wordO_only _ _ _ _) (wordO_nf nf1 _ _) (wordO_val _ _ _ _ _ pr1) (fun j hj=>wordO_other _ _ _ _ _ (by omega)),sm _ rfl,rfl,rfl,rfl,rfl,by simp [setcH],wordO_at _ _ _ _ ((x.c i).p k).val ⟨pr1.2.2.2.1,pr1.2.2.2.2.1,pr1.2.2.2.2.2⟩⟩
 obtain⟨k1,k2,k3,k4',k5,k6,k7,k8'⟩:=key;have g2:=k1.ext e2w;have sv:SInv C z F K:=v.alike k2 k3 k4';refine⟨k8'.ext e2w,⟨_,_,_,_,_,_,_,_,_,_,_,_,_,_,_,_,_,_,_,_,_,_,g2,sv,by rw[k5];exact kk⟩,⟨kn,by have:=g2.sb.n13;rw[k7] at this;exact this⟩,fun vv t ht hv hx hg=>?_⟩;refine(sshade_any t W2 g2 (by rw[k7];exact ht) (fun q=>by rw[k6];exact hg q) vv hv hx).mono ?_;rintro e w' ⟨h1,h2,h3⟩;exact⟨h1,⟨_,_,_,_,_,_,_,_,_,_,_,_,_,_,_,_,_,_,_,_,_,_,unhide h2,sv.alike (same_shade _ t) (shade_same _ t).2.2.2.2.2.1 (shade_same _ t).2.2.2.2.2.2.1,by rw[(shade_same _ t).1,k5];exact kk⟩,h3⟩
theorem half_no[Inhabited ProtD]{C B:Nat}{w:World}{b bd:Nat}{x:Hp}{br kr f:Nat}{op:Int}{a p c:Nat}{n:Int}{rv:Value}(h:SReg C B w b x br kr)(d:Deed w bd b op a p c n rv)(hf:f<16)(hk:(x.r f).k≠2):
  Calls Tryz.prog 323 #[.pointer (some ⟨bd,0,none⟩),.pointer (some ⟨br,f*3,none⟩)] w fun e w'=>e=.returned (.tuple #[.pointer none,.iface 283 (.agg #[iv 2])])∧Ext w w':=by
 have D:=hide d;have QC:=hide (cellOf_no h d hf hk);clear hk;clear h d;go_enter Tryz.func323,Tryz.ntmps323;go_wp2_with fail;refine(unhide QC).mono ?_;rintro e w5 ⟨rfl,x5⟩;go_wp2_with fail;go_ret2;exact⟨rfl,x5⟩
theorem half_short[Inhabited ProtD]{C B:Nat}{w:World}{b bd:Nat}{x:Hp}{br kr f:Nat}{op:Int}{a p c:Nat}{n:Int}{rv:Value}(h:SReg C B w b x br kr)(d:Deed w bd b op a p c n rv)(hf:f<16){i bn kn cb co:Nat}{ap:Option Addr}{kp:Nat}(hc:SCel C B w b x i bn kn cb co ap kp)(hk:(x.r f).k=2)(ha:(x.r f).a=(i:Int))(hi:i<x.cells.length)(hl:(x.c i).prs.length≤c):
  Calls Tryz.prog 323 #[.pointer (some ⟨bd,0,none⟩),.pointer (some ⟨br,f*3,none⟩)] w fun e w'=>e=.returned (.tuple #[.pointer none,.iface 283 (.agg #[iv 3])])∧Ext w w':=by
 have D:=hide d;have QC:=hide (cellOf_yes h hc d hf hk ha hi);have CE:=hide hc;clear hc hk ha;clear h d;go_enter Tryz.func323,Tryz.ntmps323;go_wp2_with fail;refine(unhide QC).mono ?_;rintro e w5 ⟨rfl,x5⟩;have m1:=((unhide CE).ext x5).m1;have p7:=((unhide CE).ext x5).p7;obtain⟨d0,d1,d2,d3,d4,d5,d6⟩:=(unhide D).ext x5;have hd5:bd<w5.heap.size:=cell_lt d0;have hn5:bn<w5.heap.size:=cell_lt m1;have hc5:cb<w5.heap.size:=cell_lt p7;have q1:(c:Int)≥((x.c i).prs.length:Int):=by omega
 go_wp2_with fail;go_quiet (fail);go_wp2_with fail;go_ret2;exact⟨rfl,Ext.drewN x5 _⟩
theorem half_val[Inhabited ProtD]{C B:Nat}{w:World}{b bd:Nat}{x:Hp}{br kr f:Nat}{op:Int}{a p c:Nat}{n:Int}{rv:Value}(h:SReg C B w b x br kr)(d:Deed w bd b op a p c n rv)(hf:f<16){i bn kn cb co bp kp:Nat}(hs:SPr C B w b x i c bn kn cb co bp kp)(hk:(x.r f).k=2)(ha:(x.r f).a=(i:Int))(hi:i<x.cells.length)(hl:c<(x.c i).prs.length)(ho:op=6∨op=8):
  Calls Tryz.prog 323 #[.pointer (some ⟨bd,0,none⟩),.pointer (some ⟨br,f*3,none⟩)] w fun e w'=>e=.returned (.tuple #[.pointer (some ⟨bp,c*6+3,none⟩),.nilIface])∧Ext w w':=by
 have D:=hide d;have QC:=hide (cellOf_yes h hs.ce d hf hk ha hi);have CE:=hide hs.ce;clear hs hk ha;clear h d;go_enter Tryz.func323,Tryz.ntmps323;go_wp2_with fail;refine(unhide QC).mono ?_;rintro e w5 ⟨rfl,x5⟩;have m1:=((unhide CE).ext x5).m1;have p7:=((unhide CE).ext x5).p7;obtain⟨d0,d1,d2,d3,d4,d5,d6⟩:=(unhide D).ext x5;have hd5:bd<w5.heap.size:=cell_lt d0;have hn5:bn<w5.heap.size:=cell_lt m1;have hc5:cb<w5.heap.size:=cell_lt p7;have q1:¬(c:Int)≥((x.c i).prs.length:Int):=by omega
 have q2:(c:Int)<((x.c i).prs.length:Int):=by omega
 have q3:(0:Int)≤(c:Int):=by omega
 rcases ho with rfl | rfl
 all_goals
  go_wp2_with fail;go_quiet (fail);obtain⟨W6,hW6⟩:∃W,W=w5.drewN nq:=⟨_,rfl⟩;rw[←hW6];have x6:Ext w5 W6:=by rw[hW6];exact Ext.drewN (Ext.refl _) nq
  have m1:=x6.keep m1;have p7:=x6.keep p7;have d0:=x6.keep d0;have d1:=x6.keep d1;have d4:=x6.keep d4;have X6:=hide (x5.trans x6);clear hW6;go_wp2_with fail;go_quiet (fail);go_wp2_with fail;go_ret2;exact⟨rfl,Ext.drewN (unhide X6) _⟩
theorem snoc_c(x:Hp)(c:Cl)(q:Nat):({ x with cells:=x.cells++[c] }:Hp).c q=if q=x.cells.length then c else x.c q:=by
 unfold Hp.c;by_cases e:q=x.cells.length
 ·subst e;simp
 ·rw[if_neg e];simp only [List.getD_eq_getElem?_getD];rcases Nat.lt_or_ge q x.cells.length with l | l
  ·rw[List.getElem?_append_left l]
  ·rw[List.getElem?_append_right l,List.getElem?_eq_none (by simp;omega),List.getElem?_eq_none l]
theorem SAt.pushn[Inhabited ProtD]{B:Nat}{w W w':World}{b:Nat}{x:Hp}{ar:Option Addr}{kr:Nat}{v4 v8:Value}{br bn:Nat}{cB cO:Nat→Nat}{pb:Nat→Nat}{pa:Nat→Option Addr}{pk:Nat→Nat}{kn hd:Nat}{vf:Value}{F:List Int}{vk:Value}{K:List Nat}{role:Nat→Nat}(h:SAt B w b x ar kr v4 v8 br cB cO bn pb pa pk kn hd vf F vk K role)(r0:0<x.regs.length)(hzn:(default:ProtD).z bn=none)(e:Ext w W)(qc:Nat)(hq0:w.heap.size≤qc)(s0:S7 w' qc 0 Cl0)(s7:w'.cell? ⟨qc,7,none⟩=some (.slice none 0 0))(nq:Nf1 qc w')
  (o:Only (fun q=>q=bn∨q=b) W w') (n13:w'.cell? ⟨b,13,none⟩=some (.slice (some ⟨bn,0,none⟩) (x.cells.length+1) kn)) (cb:∀j,j≠13→w'.cell? ⟨b,j,none⟩=W.cell? ⟨b,j,none⟩) (m0:w'.cell? ⟨bn,x.cells.length*2,none⟩=some (iv x.cells.length)) (m1:w'.cell? ⟨bn,x.cells.length*2+1,none⟩=some (.pointer (some ⟨qc,0,none⟩))) (mo:∀j,j<x.cells.length*2→w'.cell? ⟨bn,j,none⟩=W.cell? ⟨bn,j,none⟩) (nb:Nf1 b w') (nd:NdB w' bn kn) :
  SAt B w' b { x with cells:=x.cells++[Cl0] } ar kr v4 v8 br (fun q=>if q=x.cells.length then qc else cB q) (fun q=>if q=x.cells.length then 0 else cO q) bn pb (fun q=>if q=x.cells.length then none else pa q) (fun q=>if q=x.cells.length then 0 else pk q) kn hd vf F vk K (fun d=>if w.heap.size≤d then 3 else role d):=by
 have g:=h.ext e;have old:∀q,q<w.heap.size→(if w.heap.size≤q then 3 else role q)=role q:=fun q hq=>if_neg (by omega)
 have far:∀q,q<w.heap.size→role q≠0→q≠bn→w'.heap[q]?=W.heap[q]?:=fun q hq h0 hn=>o.block q (Nat.lt_of_lt_of_le hq e.size) (fun u=>by
  rcases u with u | u
  ·exact hn u
  ·exact h0 (by rw[u];exact h.sp.b))
 have far1:∀q,q<w.heap.size→role q≠0→role q≠1→w'.heap[q]?=W.heap[q]?:=fun q hq h0 h1=>far q hq h0 (fun u=>h1 (by rw[u];exact h.sp.n))
 have hc:=snoc_c x Cl0;have hl:({ x with cells:=x.cells++[Cl0] }:Hp).cells.length=x.cells.length+1:=by simp
 have lt:∀q,q<({ x with cells:=x.cells++[Cl0] }:Hp).cells.length→q=x.cells.length∨(q<x.cells.length∧q≠x.cells.length):=fun q hq=>by rw[hl] at hq;omega
 have fr:w'.heap[br]?=W.heap[br]?:=far1 br (h.rw.nr r0).1.1 (by rw[h.sp.r r0];omega) (by rw[h.sp.r r0];omega);have fc:∀q,q<x.cells.length→w'.heap[cB q]?=W.heap[cB q]?:=fun q hq=>far1 (cB q) (h.rw.nc q hq).1.1 (by rw[h.sp.c q hq];omega) (by rw[h.sp.c q hq];omega)
 have fp:∀q,q<x.cells.length→0<pk q→w'.heap[pb q]?=W.heap[pb q]?:=fun q hq hp=>far1 (pb q) (h.rw.pl q hq hp).2.1.1 (by rw[h.sp.p q hq hp];omega) (by rw[h.sp.p q hq hp];omega)
 refine⟨⟨g.sb.bx.of fun j hj=>cb j (by omega),g.sb.ha,by rw[hl];exact n13,fun i hi=>?_,⟨(cb 14 (by omega)).trans g.sb.fr.hd,nb.2 14,ownsRow_of_block g.sb.fr.own (fun q hq=>far1 q (h.sb.fr.own.lt q hq).2 (by rw[h.sp.f q hq];omega) (by rw[h.sp.f q hq];omega)),g.sb.fr.apart⟩,g.sb.rg.of fun j h1 _=>cb j (by omega),(cb 4017 (by omega)).trans g.sb.k0,ownsRow_of_block g.sb.kp (fun q hq=>far1 q (h.sb.kp.lt q hq).2 (by rw[h.sp.k q hq];omega) (by rw[h.sp.k q hq];omega)),nb,⟨g.sb.lo.1,g.sb.lo.2.1,nd⟩⟩,⟨fun j hj=>?_,fun q hq=>?_,fun q hq=>?_,fun q hq j hj=>?_,fun q hq hlq=>?_,fun hr=>⟨nf1_block (g.rw.nr hr).1 fr o.size,(g.rw.nr hr).2⟩,fun q hq=>?_,fun q hq=>?_,fun q q' hq hq' hqq h1 h2=>?_,fun q q' hq hq' hqq=>?_,fun q hq=>?_⟩,⟨by rw[old b h.sb.nb.1];exact h.sp.b,by rw[old bn h.sb.lo.2.2.1];exact h.sp.n,fun hr=>by rw[old br (h.rw.nr hr).1.1];exact h.sp.r hr,fun q hq=>?_,fun q hq=>by rw[old q (h.sb.fr.own.lt q hq).2];exact h.sp.f q hq,fun q hq=>by rw[old q (h.sb.kp.lt q hq).2];exact h.sp.k q hq,fun q hq hlq=>?_⟩,?_⟩
 ·rcases lt i hi with u | ⟨u1,u2⟩
  ·simp only [if_pos u];rw[u];exact⟨m0,m1⟩
  ·simp only [if_neg u2];rw[mo _ (by omega),mo _ (by omega)];exact g.sb.nd i u1
 ·exact(g.rw.r j hj).of fun m _=>World.cell?_of_block (a:=⟨br,_,none⟩) fr
 ·rw[hc q];rcases lt q hq with u | ⟨u1,u2⟩
  ·simp only [if_pos u];exact s0
  ·simp only [if_neg u2];exact(g.rw.s q u1).of fun m _=>World.cell?_of_block (a:=⟨cB q,_,none⟩) (fc q u1)
 ·rw[hc q];rcases lt q hq with u | ⟨u1,u2⟩
  ·simp only [if_pos u,Nat.zero_add];exact s7
  ·simp only [if_neg u2];rw[World.cell?_of_block (a:=⟨cB q,_,none⟩) (fc q u1)];exact g.rw.p7 q u1
 ·rw[hc q] at hj ⊢;rcases lt q hq with u | ⟨u1,u2⟩
  ·rw[if_pos u] at hj;simp [Cl0] at hj
  ·rw[if_neg u2] at hj ⊢;exact(g.rw.p q u1 j hj).of fun m _=>World.cell?_of_block (a:=⟨pb q,_,none⟩) (fp q u1 (g.rw.pw u1 (by omega)))
 ·rcases lt q hq with u | ⟨u1,u2⟩
  ·simp only [if_pos u] at hlq;omega
  ·simp only [if_neg u2] at hlq ⊢;obtain⟨a1,a2,a3,a4⟩:=g.rw.pl q u1 hlq;refine⟨a1,nfp_block a2 (fp q u1 hlq) o.size,⟨a3.1,fun j hj=>?_⟩,a4⟩;rcases lt j hj with z | ⟨z1,z2⟩
   ·simp only [if_pos z];intro u;have:=(h.rw.pl q u1 hlq).2.1.1;omega
   ·simp only [if_neg z2];exact a3.2 j z1
 ·rcases lt q hq with u | ⟨u1,u2⟩
  ·simp only [if_pos u];exact⟨nq,Nat.le_trans h.sb.lo.1 (by have:=h.sb.nb.1;omega)⟩
  ·simp only [if_neg u2];exact⟨nf1_block (g.rw.nc q u1).1 (fc q u1) o.size,(g.rw.nc q u1).2⟩
 ·rcases lt q hq with u | ⟨u1,u2⟩
  ·simp only [if_pos u];intro z;have:=(h.rw.nr r0).1.1;omega
  ·simp only [if_neg u2];exact g.rw.d q u1
 ·rcases lt q hq with u | ⟨u1,u2⟩
  ·simp only [if_pos u] at h1;omega
  ·rcases lt q' hq' with z | ⟨z1,z2⟩
   ·simp only [if_pos z] at h2;omega
   ·simp only [if_neg u2] at h1;simp only [if_neg z2] at h2;exact g.rw.dp q q' u1 z1 hqq h1 h2
 ·rcases lt q hq with u | ⟨u1,u2⟩
  ·rcases lt q' hq' with z | ⟨z1,z2⟩
   ·exact absurd (u.trans z.symm) hqq
   ·simp only [if_pos u,if_neg z2];exact .inl (fun t=>by have:=(h.rw.nc q' z1).1.1;omega)
  ·rcases lt q' hq' with z | ⟨z1,z2⟩
   ·simp only [if_pos z,if_neg u2];exact .inl (fun t=>by have:=(h.rw.nc q u1).1.1;omega)
   ·simp only [if_neg u2,if_neg z2];exact g.rw.dc q q' u1 z1 hqq
 ·rw[hc q];rcases lt q hq with u | ⟨u1,u2⟩
  ·simp only [if_pos u];simp [Cl0]
  ·simp only [if_neg u2];exact g.rw.kp q u1
 ·rcases lt q hq with u | ⟨u1,u2⟩
  ·simp only [if_pos u];rw[if_pos hq0]
  ·simp only [if_neg u2];rw[old (cB q) (h.rw.nc q u1).1.1];exact h.sp.c q u1
 ·rcases lt q hq with u | ⟨u1,u2⟩
  ·simp only [if_pos u] at hlq;omega
  ·simp only [if_neg u2] at hlq;rw[old (pb q) (h.rw.pl q u1 hlq).2.1.1];exact h.sp.p q u1 hlq
 ·intro q ob hz;obtain⟨r1,r2⟩:=h.pr q ob hz
  have hlq:q<w.heap.size:=by
   rcases Nat.lt_or_ge q w.heap.size with l | l
   ·exact l
   ·rw[Array.getElem?_eq_none l] at r2;cases r2
  refine⟨by(try dsimp only);rw[old q hlq];exact r1,?_⟩;exact(far q hlq (by rw[r1];omega) (fun u=>by rw[u,hzn] at hz;cases hz)).trans ((e.block q hlq).trans r2)
abbrev zcO:Obj:=.cells #[iv 0,iv 0,iv 0,iv 0,iv 0,iv 0,iv 0,.slice none 0 0] 62
abbrev nodeO(n qc:Nat):Obj:=.cells #[iv n,.pointer (some ⟨qc,0,none⟩)] 124
theorem appN_run(W1:World)(ty:TypeId)(bn n kn qc ad c:Nat)(hb:NdB W1 bn kn)(hk:n+1≤kn)(h0:W1.cell? ⟨ad,0,none⟩=some (iv n))(h1:W1.cell? ⟨ad,1,none⟩=some (.pointer (some ⟨qc,0,none⟩))):
  (Builtin.append_ #[117,117] ty #[.slice (some ⟨bn,0,none⟩) n kn,.slice (some ⟨ad,0,none⟩) 1 c]).run Tryz.prog W1=.ok (.slice (some ⟨bn,0,none⟩) (n+1) kn) (W1.setCells bn (n*2) [iv n,.pointer (some ⟨qc,0,none⟩)]):=by
 obtain⟨i0,hi0,hz1⟩:∃i,Tryz.prog.info? 124=some i∧i.size=2:=by
  have:=infoNode2;cases h:Tryz.prog.info? 124 with
  | none=>rw[h] at this;simp at this
  | some i=>rw[h] at this;simp at this;exact⟨i,rfl,this.2.1⟩
 have hrun:=run_append_room_cells (P:=Tryz.prog) W1 117 ty 124 i0 Tryz.underlying117 hi0 bn 0 n kn ⟨ad,0,none⟩ 1 c [iv n,.pointer (some ⟨qc,0,none⟩)] (by rw[hz1];rfl) (fun j u hj=>by
  rw[addr_add]
  match j,hj with
  | 0,hj=>simp at hj;rw[←hj];exact h0
  | 1,hj=>simp at hj;rw[←hj];exact h1) (fun u hu=>by
  simp at hu;rcases hu with rfl | rfl <;> rfl) hk (fun j hj=>by
  have hj:j<2:=hj;obtain⟨⟨u,hu⟩,_⟩:=hb.2 (0+n*i0.size+j) (by rw[hz1];omega);rw[hu];rfl) (fun j hj=>by
  have hj:j<2:=hj;exact(hb.2 (0+n*i0.size+j) (by rw[hz1];omega)).2)
 rw[hz1,Nat.zero_add] at hrun;exact hrun
theorem frozen_put(b:Nat):∀(vs:List Value) (o:Nat) (w:World) (j:Nat),(w.setCells b o vs).frozen? ⟨b,j,none⟩=w.frozen? ⟨b,j,none⟩
 | [],_,_,_=>rfl
 | v::r,o,w,j=>(frozen_put b r (o+1) (w.setCell ⟨b,o,none⟩ v) j).trans (World.frozen?_setCell _ _ _ _)
theorem SAt.newn[Inhabited ProtD]{B:Nat}{w:World}{b:Nat}{x:Hp}{ar:Option Addr}{kr:Nat}{v4 v8:Value}{br bn:Nat}{cB cO:Nat→Nat}{pb:Nat→Nat}{pa:Nat→Option Addr}{pk:Nat→Nat}{kn hd:Nat}{vf:Value}{F:List Int}{vk:Value}{K:List Nat}{role:Nat→Nat}(h:SAt B w b x ar kr v4 v8 br cB cO bn pb pa pk kn hd vf F vk K role)(r0:0<x.regs.length)(hzn:(default:ProtD).z bn=none)(hkn:x.cells.length+1≤kn)(W1:World)(e:Ext w W1)(qc:Nat)(hq:w.heap.size≤qc)(ob:W1.heap[qc]?=some zcO):
  SAt B ((W1.setCells bn (x.cells.length*2) [iv x.cells.length,.pointer (some ⟨qc,0,none⟩)]).setCell ⟨b,13,none⟩ (.slice (some ⟨bn,0,none⟩) (x.cells.length+1) kn)) b { x with cells:=x.cells++[Cl0] } ar kr v4 v8 br (fun q=>if q=x.cells.length then qc else cB q) (fun q=>if q=x.cells.length then 0 else cO q) bn pb (fun q=>if q=x.cells.length then none else pa q) (fun q=>if q=x.cells.length then 0 else pk q) kn hd vf F vk K (fun d=>if w.heap.size≤d then 3 else role d):=by
 have g:=h.ext e;have nnb:bn≠b:=fun u=>by have h1:=h.sp.n;have h2:=h.sp.b;rw[u] at h1;omega
 have hbn:=h.sb.lo.2.2.1;have hbb:=h.sb.nb.1;have qn:qc≠bn:=fun u=>by omega
 have qb:qc≠b:=fun u=>by omega
 have o1:Only (fun q=>q=bn∨q=b) W1 (W1.setCells bn (x.cells.length*2) [iv x.cells.length,.pointer (some ⟨qc,0,none⟩)]):=put_only (S:=fun q=>q=bn∨q=b) (.inl rfl) (Only.refl _ W1);have o2:=Only.setCell o1 (p:=⟨b,13,none⟩) (.inr rfl) (.slice (some ⟨bn,0,none⟩) (x.cells.length+1) kn);have fb:(W1.setCells bn (x.cells.length*2) [iv x.cells.length,.pointer (some ⟨qc,0,none⟩)]).heap[b]?=W1.heap[b]?:=(put_only (S:=fun q=>q=bn) rfl (Only.refl _ W1)).block b g.sb.nb.1 (fun u=>nnb u.symm)
 have cq:∀j,((W1.setCells bn (x.cells.length*2) [iv x.cells.length,.pointer (some ⟨qc,0,none⟩)]).setCell ⟨b,13,none⟩ (.slice (some ⟨bn,0,none⟩) (x.cells.length+1) kn)).cell? ⟨qc,j,none⟩=(#[iv 0,iv 0,iv 0,iv 0,iv 0,iv 0,iv 0,.slice none 0 0]:Array Value)[j]?:=fun j=>by
  have hl:qc<W1.heap.size:=obj_lt ob;rw[World.cell?_of_block (a:=⟨qc,j,none⟩) (o2.block qc hl (fun u=>by rcases u with u | u <;> omega)),cell_of_row W1 qc j _ _ (0,0) ob]
 have cn:∀j,((W1.setCells bn (x.cells.length*2) [iv x.cells.length,.pointer (some ⟨qc,0,none⟩)]).setCell ⟨b,13,none⟩ (.slice (some ⟨bn,0,none⟩) (x.cells.length+1) kn)).cell? ⟨bn,j,none⟩=(W1.setCells bn (x.cells.length*2) [iv x.cells.length,.pointer (some ⟨qc,0,none⟩)]).cell? ⟨bn,j,none⟩:=fun j=>cell_other _ (.inl (fun u=>nnb u.symm))
 have ex:∀m,m<2→∃u,W1.cell? ⟨bn,x.cells.length*2+m,none⟩=some u:=fun m hm=>(g.sb.lo.2.2.2 _ (by omega)).1
 refine h.pushn r0 hzn e qc hq ⟨cq 0,cq 1,cq 2,cq 3,cq 4,cq 5,cq 6⟩ (cq 7) ⟨by have:=obj_lt ob;have:=o2.size;omega,fun j=>?_⟩ o2 (World.cell?_setCell_same _ _ _ ((World.cell?_of_block (a:=⟨b,13,none⟩) fb).trans g.sb.n13)) (fun j hj=>(cell_other _ (.inr (fun u=>hj u.symm))).trans (World.cell?_of_block (a:=⟨b,j,none⟩) fb)) ?_ ?_ (fun j hj=>(cn j).trans (set_out bn _ _ _ W1 (.inl hj))) ((nf1_block g.sb.nb fb o1.size).set _ _) ⟨by have:=o2.size;have:=g.sb.lo.2.2.1;omega,fun j hj=>?_⟩
 ·have hl:qc<W1.heap.size:=obj_lt ob;rw[World.frozen?_of_block (a:=⟨qc,j,none⟩) (o2.block qc hl (fun u=>by rcases u with u | u <;> omega))];simp [World.frozen?,ob]
 ·rw[cn];have:=set_in bn [iv x.cells.length,.pointer (some ⟨qc,0,none⟩)] (x.cells.length*2) 0 W1 ex (by simp);rw[Nat.add_zero] at this;exact this
 ·rw[cn];exact set_in bn [iv x.cells.length,.pointer (some ⟨qc,0,none⟩)] (x.cells.length*2) 1 W1 ex (by simp)
 ·refine⟨?_,?_⟩
  ·rw[cn];by_cases u:j<x.cells.length*2∨x.cells.length*2+2≤j
   ·rw[set_out bn _ _ _ W1 u];exact(g.sb.lo.2.2.2 j hj).1
   ·have:=set_in bn [iv x.cells.length,.pointer (some ⟨qc,0,none⟩)] (x.cells.length*2) (j-x.cells.length*2) W1 ex (by simp;omega);rw[show x.cells.length*2+(j-x.cells.length*2)=j by omega] at this;rw[this];exact⟨_,List.getElem?_eq_getElem (by simp;omega)⟩
  ·rw[World.frozen?_setCell];exact(frozen_put bn _ _ W1 j).trans (g.sb.lo.2.2.2 j hj).2
def PlaceX(x:Hp)(t:Nat)(x1:Hp):Prop:=(t<x.cells.length∧x1=x)∨(t=x.cells.length∧x1={ x with cells:=x.cells++[Cl0] })
structure PlaceR[Inhabited ProtD](B:Nat)(w':World)(b:Nat)(x:Hp)(ar:Option Addr)(kr:Nat)(v4 v8:Value)(br bn:Nat)(pb:Nat→Nat)(kn hd:Nat)(F:List Int)(vk:Value)(K:List Nat)(t:Nat):Prop where
 ft:t=fstFree x
 at_:∃x1 cB' cO' pa' pk' vf' F' role',PlaceX x t x1∧GapL x F F'∧SAt B w' b x1 ar kr v4 v8 br cB' cO' bn pb pa' pk' kn hd vf' F' vk K role'
theorem fst_some{C:Nat}{x:Hp}{F:List Int}{K:List Nat}(h:SInv C x F K){F':List Int}(g:GapL x F F'){j:Nat}(t:GapT x F' (some j)):j=fstFree x:=by
 obtain⟨f1,f2,f3⟩:=fstFree_is x;have l:=gap_least h g t;rcases Nat.lt_or_ge (fstFree x) x.cells.length with q | q
 ·have h1:=l _ q (f3 q);rcases Nat.lt_or_ge j (fstFree x) with u | u
  ·exact absurd t.2.1 (f2 j u)
  ·omega
 ·have:=t.1;exact absurd t.2.1 (f2 j (by omega))
theorem fst_none{C:Nat}{x:Hp}{F:List Int}{K:List Nat}(h:SInv C x F K){F':List Int}(g:GapL x F F')(t:GapT x F' none):x.cells.length=fstFree x∧∀i,i<x.cells.length→(x.c i).st≠0:=by
 obtain⟨f1,f2,f3⟩:=fstFree_is x
 have no:∀i,i<x.cells.length→(x.c i).st≠0:=fun i hi h0=>by
  have:=g.2.2.2 i hi h0 (h.al i hi h0);have e:F'=[]:=t;rw[e] at this;cases this
 refine⟨?_,no⟩;rcases Nat.lt_or_ge (fstFree x) x.cells.length with q | q
 ·exact absurd (f3 q) (no _ q)
 ·omega
structure NewN[Inhabited ProtD](B:Nat)(b:Nat)(x:Hp)(ar:Option Addr)(kr:Nat)(v4 v8:Value)(br bn:Nat)(pb:Nat→Nat)(kn hd:Nat)(vf:Value)(F:List Int)(vk:Value)(K:List Nat)(a w5:World):Prop where
 c13:w5.cell? ⟨b,13,none⟩=some (.slice (some ⟨bn,0,none⟩) x.cells.length kn)
 f13:w5.frozen? ⟨b,13,none⟩=false
 so:∃cB' cO' pa' pk' role',SAt B (w5.setCell ⟨b,13,none⟩ (.slice (some ⟨bn,0,none⟩) (x.cells.length+1) kn)) b { x with cells:=x.cells++[Cl0] } ar kr v4 v8 br cB' cO' bn pb pa' pk' kn hd vf F vk K role'
 ex:Ext a w5
theorem place_run[Inhabited ProtD]{B:Nat}{w:World}{b:Nat}{x:Hp}{ar:Option Addr}{kr:Nat}{v4 v8:Value}{br bn:Nat}{cB cO:Nat→Nat}{pb:Nat→Nat}{pa:Nat→Option Addr}{pk:Nat→Nat}{kn hd:Nat}{vf:Value}{F:List Int}{vk:Value}{K:List Nat}{role:Nat→Nat}(h:SAt B w b x ar kr v4 v8 br cB cO bn pb pa pk kn hd vf F vk K role)(r0:0<x.regs.length)(hzn:(default:ProtD).z bn=none)(hkn:x.cells.length+1≤kn)(a:World)(ha:a.heap.size≤B)(hx:Ext a w)(W1:World)(e:Ext w W1)(qc ad:Nat)(hq:w.heap.size≤qc)(ob:W1.heap[qc]?=some zcO)(on:W1.heap[ad]?=some (nodeO x.cells.length qc))(ty:TypeId):
  ∃v' w5,(Builtin.append_ #[117,117] ty #[.slice (some ⟨bn,0,none⟩) x.cells.length kn,.slice (some ⟨ad,0,none⟩) 1 1]).run Tryz.prog W1=.ok v' w5∧v'=.slice (some ⟨bn,0,none⟩) (x.cells.length+1) kn∧NewN B b x ar kr v4 v8 br bn pb kn hd vf F vk K a w5:=by
 have g:=h.ext e;have nnb:bn≠b:=fun u=>by have h1:=h.sp.n;have h2:=h.sp.b;rw[u] at h1;omega
 have o1:Only (fun q=>q=bn) W1 (W1.setCells bn (x.cells.length*2) [iv x.cells.length,.pointer (some ⟨qc,0,none⟩)]):=put_only (S:=fun q=>q=bn) rfl (Only.refl _ W1);have fb:=o1.block b g.sb.nb.1 (fun u=>nnb u.symm);exact⟨_,_,appN_run W1 ty bn x.cells.length kn qc ad 1 g.sb.lo.2.2 hkn (cell_of_row W1 ad 0 _ _ (0,0) on) (cell_of_row W1 ad 1 _ _ (0,0) on),rfl,(World.cell?_of_block (a:=⟨b,13,none⟩) fb).trans g.sb.n13,(World.frozen?_of_block (a:=⟨b,13,none⟩) fb).trans (g.sb.nb.2 13),⟨_,_,_,_,_,h.newn r0 hzn hkn W1 e qc hq ob⟩,o1.ext (hx.trans e) (fun q hq u=>by have:=h.sb.lo.2.1;omega)⟩
theorem alloc2_a(w:World)(o1 o2:Obj):((w.alloc o1).alloc o2).drew.heap[w.heap.size]?=some o1:=(((Ext.refl (w.alloc o1)).alloc o2).drew.block w.heap.size (by simp)).trans (heap_alloc_new w o1)
theorem alloc2_b(w:World)(o1 o2:Obj):((w.alloc o1).alloc o2).drew.heap[w.heap.size+1]?=some o2:=by
 have:=heap_alloc_new (w.alloc o1) o2;rw[show(w.alloc o1).heap.size=w.heap.size+1 by simp] at this;exact this
theorem step_appEx{ops:Array Oper}{o:Oper}{a:Act}{K:Act→World→Prop}{Q:Exit→Act→World→Prop}{E:Prop}(W1:World)(hgd:o.guard=none)(s y:Operand)(t tn:TypeId)
  (ho:o.op=.call { callee:=.builtin .append,args:=#[s,y],argTypes:=#[t,tn] }) (v1 v2 u:Value) (P:World→Prop) (hs:a.eval s=v1) (hy:a.eval y=v2) (hr:∀ty,∃v' w',(Builtin.append_ #[t,tn] ty #[v1,v2]).run Tryz.prog W1=.ok v' w'∧v'=u∧P w') (hK:∀w',P w'→K (a.put o.dst u) w') :
  if Region.wanted o (yielded ops a.tmps)=true then Oper.wp Tryz.prog o a W1 K Q else E:=by
 obtain⟨v',w',h1,h2,h3⟩:=hr o.type;have hw:Region.wanted o (yielded ops a.tmps)=true:=by simp [Region.wanted,hgd]
 rw[if_pos hw];unfold Oper.wp execOp;simp only [ho,resolve,invoke,builtin,Sem.run_bind,Sem.run_pure,Result.andThen_ok,List.map_toArray,List.map_cons,List.map_nil,hs,hy,h1];rw[h2];exact hK w' h3
theorem place_any[Inhabited ProtD]{C:Nat}{B:Nat}{w:World}{b:Nat}{x:Hp}{ar:Option Addr}{kr:Nat}{v4 v8:Value}{br bn:Nat}{cB cO:Nat→Nat}{pb:Nat→Nat}{pa:Nat→Option Addr}{pk:Nat→Nat}{kn hd:Nat}{vf:Value}{F:List Int}{vk:Value}{K:List Nat}{role:Nat→Nat}(h:SAt B w b x ar kr v4 v8 br cB cO bn pb pa pk kn hd vf F vk K role)(i:SInv C x F K)(hC:C≤1000000000)(r0:0<x.regs.length)(n8:x.cells.length≤8000)(hzn:(default:ProtD).z bn=none)(hkn:(∀i,i<x.cells.length→(x.c i).st≠0)→x.cells.length+1≤kn)(a:World)(ha:a.heap.size≤B)(hx:Ext a w):
  Calls Tryz.prog 317 #[.pointer (some ⟨b,0,none⟩)] w fun e w'=>∃t:Nat,e=.returned (ndp bn t)∧Hid (PlaceR B w' b x ar kr v4 v8 br bn pb kn hd F vk K t)∧Ext a w':=by
 have GP:=hide (gap_any h i.ho (by have:=i.le;omega) i.nn);have H:=hide h;have I:=hide i;have lo:=h.sb.lo.1;have hbw:b<w.heap.size:=h.sb.nb.1;have HKN:=hide hkn;clear h i hkn;go_enter Tryz.func317,Tryz.ntmps317;go_wp2_with fail;refine(unhide GP).mono ?_;rintro e w1 ⟨t,vf',F',rfl,lq,gl⟩;have q1:=(unhide lq).2;have NF:Nf1 b w1:=⟨Nat.lt_of_lt_of_le (unhide H).sb.nb.1 q1.size,fun j=>(q1.hfr j).trans ((unhide H).sb.nb.2 j)⟩;obtain⟨role1,h1⟩:=(unhide H).freed (unhide lq).1 q1 NF;have H1:=hide h1;have X1:=hide (q1.ext hx (show a.heap.size≤b by omega) (fun k hk=>by have:=((unhide H).sb.fr.own.lt k hk).1;omega));have GL:=hide (unhide gl);have c13:=h1.sb.n13;have f13:=h1.sb.nb.2 13;have hb1:b<w1.heap.size:=cell_lt c13;clear h1 q1 lq NF gl GP;rcases t with _ | j
 ·rw[show gapV none bn=.pointer none from rfl];obtain⟨FT,NO⟩:=fst_none (unhide I) (unhide GL).1 (unhide GL).2;have HFT:=hide FT;have hk:=unhide HKN NO;clear FT NO;have hsB:a.heap.size≤w1.heap.size:=(unhide X1).size;have PR:=hide (fun(W1:World) (e:Ext w1 W1) (ob:W1.heap[w1.heap.size]?=some zcO) (on:W1.heap[w1.heap.size+1]?=some (nodeO x.cells.length w1.heap.size))=>place_run (unhide H1) r0 hzn hk a ha (unhide X1) W1 e w1.heap.size (w1.heap.size+1) (Nat.le_refl _) ob on);have lb:a.heap.size≤b:=by omega
  have wn:wrap64 ((x.cells.length:Int)+1-1)=(x.cells.length:Int):=by rw[show(x.cells.length:Int)+1-1=(x.cells.length:Int) by omega];exact wrap_fit _ (by omega) (by omega)
  have WN:=hide wn;clear wn;go_wp2_with fail;go_cut [] (fun wx=>Hid (∃cB' cO' pa' pk' role',SAt B wx b { x with cells:=x.cells++[Cl0] } ar kr v4 v8 br cB' cO' bn pb pa' pk' kn hd vf' F' vk K role')∧Hid (Ext a wx))
  case first=>
   go_region_law (refine step_appEx _ rfl _ _ 117 117 rfl (.slice (some ⟨bn,0,none⟩) x.cells.length kn) (.slice (some ⟨w1.heap.size+1,0,none⟩) 1 1) (.slice (some ⟨bn,0,none⟩) (x.cells.length+1) kn) _ (by first | rfl | simp [Act.eval,Act.put]) (by first | rfl | simp [Act.eval,Act.put];rfl) (unhide PR _ (by first | exact((Ext.refl w1).alloc _).alloc _ | exact(((Ext.refl w1).alloc _).alloc _).drew | exact(((Ext.refl w1).drew).alloc _).alloc _) (by first | exact alloc2_a w1 _ _ | exact alloc2_a w1.drew _ _) (by first | exact alloc2_b w1 _ _ | exact alloc2_b w1.drew _ _)) ?_;intro w5 hap;have c13':=hap.c13;have f13':=hap.f13;have hb5:b<w5.heap.size:=cell_lt c13';have HP:=hide hap;clear hap)
   all_goals
    go_wp2_with fail;go_meet
    first | exact⟨(unhide HP).so,(unhide HP).ex.setCell (p:=⟨b,13,none⟩) lb _⟩ | exact⟨let ⟨c1,c2,c3,c4,c5,hh⟩:=(unhide HP).so;⟨c1,c2,c3,c4,c5,hh.ext (Ext.refl _).drew⟩,((unhide HP).ex.setCell (p:=⟨b,13,none⟩) lb _).drew⟩
  case rest=>
   obtain⟨w6,hw6⟩:∃W,W=wc:=⟨_,rfl⟩;subst hw6;obtain⟨h6,x6⟩:=hcut;obtain⟨cB6,cO6,pa6,pk6,role6,g6⟩:=unhide h6;have G6:=hide g6;have X6:=hide (unhide x6);have c136:w6.cell? ⟨b,13,none⟩=some (.slice (some ⟨bn,0,none⟩) (x.cells.length+1) kn):=by have:=g6.sb.n13;simpa using this
   have hb6:b<w6.heap.size:=cell_lt c136;have j0:(0:Int)≤(x.cells.length:Int):=by omega
   have j1:(x.cells.length:Int)<(x.cells.length:Int)+1:=by omega
   clear h6 x6 g6 c13 f13 hb1;go_wp2_with fail;go_quiet (fail);go_wp2_with fail;go_ret;refine⟨x.cells.length,?_,⟨unhide HFT,_,_,_,_,_,_,_,_,.inr ⟨rfl,rfl⟩,(unhide GL).1,(unhide G6).ext ((Ext.refl _).drewN _)⟩,(unhide X6).trans ((Ext.refl _).drewN _)⟩
   first | rfl | simp
 ·rw[show gapV (some j) bn=ndp bn j from rfl];have HFT:=hide (fst_some (unhide I) (unhide GL).1 (unhide GL).2);have tj:=(unhide GL).2.1;go_wp2_with fail;go_ret;exact⟨j,rfl,⟨unhide HFT,x,_,_,_,_,_,_,_,.inl ⟨tj,rfl⟩,(unhide GL).1,unhide H1⟩,unhide X1⟩
theorem PlaceX.len{x x1:Hp}{t:Nat}(h:PlaceX x t x1):t<x1.cells.length∧x1.regs=x.regs∧x1.gray=x.gray∧x1.room=x.room∧x1.phase=x.phase∧x1.hand=x.hand:=by
 rcases h with⟨h1,rfl⟩ | ⟨h1,rfl⟩
 ·exact⟨h1,rfl,rfl,rfl,rfl,rfl⟩
 ·exact⟨by simp;omega,rfl,rfl,rfl,rfl,rfl⟩
theorem PlaceX.set{x x1:Hp}{t:Nat}(h:PlaceX x t x1)(c:Cl):x1.cells.set t c=newCs x t c:=by
 unfold newCs;rcases h with⟨h1,rfl⟩ | ⟨h1,rfl⟩
 ·rw[if_pos h1]
 ·rw[if_neg (by omega),h1];simp
theorem SInv.made{C:Nat}{x z:Hp}{F F':List Int}{K:List Nat}(h:SInv C x F K)(g:GapL x F F')(c:Cl)(hc:c.st=1)(hz:z.cells=newCs x (fstFree x) c)(hp:z.phase=x.phase)(hh:z.hand=x.hand)(hr:0≤x.hand∧x.hand≤x.cells.length):SInv (C+1) z F' K:=by
 obtain⟨f1,f2,f3⟩:=fstFree_is x;have zc:=newCs_c x z (fstFree x) c f1 hz;have zl:z.cells.length=if fstFree x<x.cells.length then x.cells.length else x.cells.length+1:=by rw[hz,newCs_len]
 have lt:∀q,q<z.cells.length→q≠fstFree x→q<x.cells.length:=fun q hq hne=>by rw[zl] at hq;split at hq <;> omega
 have fr:∀q,q<z.cells.length→(z.c q).st=0→q<x.cells.length∧(x.c q).st=0∧fstFree x<q:=fun q hq h0=>by
  rw[zc q] at h0
  split at h0
  ·rw[hc] at h0;omega
  ·rename_i hne;have hq2:=lt q hq hne;refine⟨hq2,h0,?_⟩;rcases Nat.lt_or_ge q (fstFree x) with u | u
   ·exact absurd h0 (f2 q u)
   ·omega
 have us:∀q,q≠fstFree x→z.c q=x.c q:=fun q hq=>by rw[zc q,if_neg hq]
 have kx:∀q,(x.c q).st=1→q<x.cells.length→q≠fstFree x:=fun q h1 hq e=>by
  have:=f3 (by omega);rw[←e,h1] at this;omega
 refine⟨g.1,fun i hi h0=>?_,fun v hv=>h.nn v (g.2.2.1 v hv),?_,fun h3=>?_,fun h4=>?_,fun a b=>h.k0 (by rw[←hp];exact a) (by rw[←hp];exact b)⟩
 ·obtain⟨h1,h2,_⟩:=fr i hi h0;exact g.2.2.2 i h1 h2 (h.al i h1 h2)
 ·have l1:=h.le;have l2:=g.2.1;have zle:z.cells.length≤x.cells.length+1:=by rw[zl];split <;> omega
  have l3:remU z≤remU x+1:=by
   unfold remU;rw[hp,hh]
   repeat' split
   all_goals omega
  omega
 ·have k:=h.k3 (by rw[←hp];exact h3);rw[hh];refine⟨k.1,fun i hi=>⟨(k.2.1 i hi).1,?_⟩,fun i hi h1 hn j hj h0=>?_⟩
  ·have h2:=k.2.1 i hi;rw[us i (kx i h2.2 (by omega))];exact h2.2
  ·obtain⟨j1,j2,j3⟩:=fr j hj h0;by_cases e:i=fstFree x
   ·omega
   ·rw[us i e] at h1;exact k.2.2 i hi h1 hn j j1 j2
 ·have k:=h.k4 (by rw[←hp];exact h4);have ge:x.cells.length≤z.cells.length:=by rw[zl];split <;> omega
  refine⟨k.1,fun i hi=>⟨by have:=(k.2.1 i hi).1;omega,?_⟩,fun i hi h1 hn j hj h0=>?_⟩
  ·have h2:=k.2.1 i hi;rw[us i (kx i h2.2 h2.1)];exact h2.2
  ·obtain⟨j1,j2,j3⟩:=fr j hj h0;by_cases e:i=fstFree x
   ·omega
   ·rw[us i e] at h1;exact k.2.2 i (lt i hi e) h1 hn j j1 j2
theorem SAt.newcell[Inhabited ProtD]{B:Nat}{w W:World}{b:Nat}{x:Hp}{ar:Option Addr}{kr:Nat}{v4 v8:Value}{br bn:Nat}{cB cO:Nat→Nat}{pb:Nat→Nat}{pa:Nat→Option Addr}{pk:Nat→Nat}{kn hd:Nat}{vf:Value}{F:List Int}{vk:Value}{K:List Nat}{role:Nat→Nat}(h:SAt B w b x ar kr v4 v8 br cB cO bn pb pa pk kn hd vf F vk K role)(r0:0<x.regs.length)(t:Nat)(ht:t<x.cells.length)(c':Cl)(m:Nat)(hm:c'.prs=List.replicate m Pr0)(e:Ext w W)(qb:Nat)(hq:w.heap.size≤qb)(nf:Nfp qb m W)(hz:∀k,k<m→PrAt W qb (k*6) Pr0):
  ∃pb' pa' pk' role',SAt B (cellW W (cB t) (cO t) c' (.slice (some ⟨qb,0,none⟩) m m)) b { x with cells:=x.cells.set t c' } ar kr v4 v8 br cB cO bn pb' pa' pk' kn hd vf F vk K role':=by
 have g:=h.ext e;have nc:=(g.rw.nc t ht).1;have ml:c'.prs.length=m:=by rw[hm];simp
 have cq:cB t≠qb:=fun u=>by have:=(h.rw.nc t ht).1.1;omega
 have hB:B≤qb:=Nat.le_trans h.sb.lo.1 (by have:=h.sb.nb.1;omega);have o7:Only (fun q=>q=cB t∨(q=pb t∧0<pk t)) w (W.setCell ⟨cB t,cO t+7,none⟩ (.slice (some ⟨qb,0,none⟩) m m)):=Only.setCell (Only.of_ext e) (p:=⟨cB t,cO t+7,none⟩) (.inl rfl) _;have c7:(W.setCell ⟨cB t,cO t+7,none⟩ (.slice (some ⟨qb,0,none⟩) m m)).cell? ⟨cB t,cO t+7,none⟩=some (.slice (some ⟨qb,0,none⟩) m m):=World.cell?_setCell_same _ _ _ (g.rw.p7 t ht)
 have g1:=h.rowTo t ht r0 c'.prs qb (some ⟨qb,0,none⟩) m (by omega) o7 (nc.set _ _) (.inr hq) (fun _=>⟨rfl,nf.set _ _⟩) hB (by rw[ml];exact c7) (fun j hj=>(cell_other _ (.inr (fun u=>hj u.symm))).trans ((bcell e).1 (cB t) j (h.rw.nc t ht).1.1)) (fun k hk=>by
  have hk2:k<m:=by omega
  have:c'.prs[k]=Pr0:=by simp [hm]
  rw[this];exact(hz k hk2).of fun j _=>cell_other _ (.inl cq))
 obtain⟨k1,k2⟩:=cellW_same W (cB t) (cO t) c' (x.c t) (.slice (some ⟨qb,0,none⟩) m m) _ (g.rw.s t ht) (g.rw.p7 t ht);have ot:=cellW_other W (cB t) (cO t) c' (.slice (some ⟨qb,0,none⟩) m m);have oc:=cellW_only W (cB t) (cO t) c' (.slice (some ⟨qb,0,none⟩) m m)
 have o2:Only (fun q=>q=cB t) (W.setCell ⟨cB t,cO t+7,none⟩ (.slice (some ⟨qb,0,none⟩) m m)) (cellW W (cB t) (cO t) c' (.slice (some ⟨qb,0,none⟩) m m)):=⟨oc.os,oc.tape,oc.output,by have:=oc.size;simpa [World.setCell] using this,fun q hq hne=>by
  rw[Below.heap_setCell _ _ _ _ hne];exact oc.block q (by simpa [World.setCell] using hq) hne⟩
 have hc:=Hp.c_set x t { x.c t with prs:=c'.prs } ht
 have g2:=g1.setc (i:=t) (c':=c') (by simpa using ht) (by rw[hc t,if_pos rfl]) o2 k1 (fun k hk=>by
  by_cases u:k=cO t+7
  ·rw[u,k2,c7]
  ·rw[ot k (by omega),cell_other _ (.inr (fun z=>u z.symm))]) (cellW_nf nc _ _ _)
 have ee:({ ({ x with cells:=x.cells.set t { x.c t with prs:=c'.prs } }:Hp) with cells:=(x.cells.set t { x.c t with prs:=c'.prs }).set t c' }:Hp)={ x with cells:=x.cells.set t c' }:=by simp
 have g3:=g2;rw[ee] at g3;exact⟨_,_,_,_,g3⟩
theorem SOq.regs16[Inhabited ProtD]{C B:Nat}{w:World}{b:Nat}{x:Hp}(h:SOq C B w b x)(r16:x.regs.length=16):∃br kr,SReg C B w b x br kr:=by
 obtain⟨ar,kr,a4,n4,k4,a8,m8,k8,br,cB,cO,bn,pb,pa,pk,kn,hd,vf,F,vk,K,role,h,v,k⟩:=h;have h0:0<x.regs.length:=by omega
 refine⟨br,kr,?_,fun i hi=>?_,(h.rw.nr h0).1.2,⟨(h.rw.nr h0).2,(h.rw.nr h0).1.1⟩,fun W i y e hi=>?_⟩
 ·have:=h.sb.bx.2.2.2.1;rw[h.sb.ha h0,r16] at this;exact this
 ·have:=h.rw.r i (by omega);rw[Hp.r_eq] at this;exact this
 ·have g1:=h.ext e;exact⟨ar,kr,a4,n4,k4,a8,m8,k8,br,cB,cO,bn,pb,pa,pk,kn,hd,vf,F,vk,K,role,g1.setr i (by omega) y (wordO_only _ _ _ _) (wordO_nf (g1.rw.nr h0).1 _ _) (wordO_at _ _ _ _ _ (g1.rw.r i (by omega))) (fun m hm=>wordO_other _ _ _ _ m hm),v.alike (SameSt.cells rfl) rfl rfl,k⟩
theorem newCol_B(x:Hp)(t:Nat):newCol x t=if mayBlackB x t=true then 2 else 0:=by
 unfold newCol mayBlackB markingB;by_cases h1:x.phase=1
 ·simp [h1]
 ·by_cases h2:x.phase=2
  ·simp [h2]
  ·by_cases h3:x.phase=3
   ·simp [h3]
   ·simp [h1,h2,h3]
theorem birthColor_any(x:Hp)(b bn t:Nat)(w:World)(c5:w.cell? ⟨b,5,none⟩=some (iv x.phase))(c6:w.cell? ⟨b,6,none⟩=some (iv x.hand))(m0:w.cell? ⟨bn,t*2,none⟩=some (iv t)):
  Calls Tryz.prog 318 #[.pointer (some ⟨b,0,none⟩),ndp bn t] w fun e w'=>e=.returned (.int .i64 (newCol x t))∧Ext w w':=by
 have NC:=hide (newCol_B x t);have QM:=hide (mayBeBlack_any x b bn (t*2) t w c5 c6 m0);clear c5 c6 m0;cases q:mayBlackB x t
 ·rw[q] at QM NC;have E:=hide (show newCol x t=0 by rw[unhide NC];rfl);clear q NC;go_enter Tryz.func318,Tryz.ntmps318;go_wp2_with fail;refine(unhide QM).mono ?_;rintro e w1 ⟨rfl,x1⟩;go_wp2_with fail;go_ret;exact⟨by rw[unhide E];rfl,x1⟩
 ·rw[q] at QM NC;have E:=hide (show newCol x t=2 by rw[unhide NC];rfl);clear q NC;go_enter Tryz.func318,Tryz.ntmps318;go_wp2_with fail;refine(unhide QM).mono ?_;rintro e w1 ⟨rfl,x1⟩;go_wp2_with fail;go_ret;exact⟨by rw[unhide E];rfl,x1⟩
structure PMid[Inhabited ProtD](C B:Nat)(W1:World)(b:Nat)(z:Hp)(t bn cb co:Nat)(u:Int):Prop where
 m0:W1.cell? ⟨bn,t*2,none⟩=some (iv t)
 m1:W1.cell? ⟨bn,t*2+1,none⟩=some (.pointer (some ⟨cb,co,none⟩))
 s:∃c0,S7 W1 cb co c0
 p7:∃v7,W1.cell? ⟨cb,co+7,none⟩=some v7
 f:∀j,W1.frozen? ⟨cb,j,none⟩=false
 c2:W1.cell? ⟨b,2,none⟩=some (iv u)
 c5:W1.cell? ⟨b,5,none⟩=some (iv z.phase)
 c6:W1.cell? ⟨b,6,none⟩=some (iv z.hand)
 lo:B≤cb
 dd:∀q ob,(default:ProtD).z q=some ob→W1.heap[q]?=some ob
 ne:cb≠b∧cb≠bn∧∀q ob,(default:ProtD).z q=some ob→cb≠q
 fin:∀(k:Int) (n:Nat) (col:Int) (W:World) (qb:Nat),Ext W1 W→NewP W1 W qb n→SOq (C+1) B (cellW W cb co (newC u k n col) (.slice (some ⟨qb,0,none⟩) n n)) b { z with born:=u,cells:=newCs z t (newC u k n col) }
structure PLD[Inhabited ProtD](C B:Nat)(w':World)(b:Nat)(z:Hp)(t bn cb co:Nat):Prop where
 ft:t=fstFree z
 b2:w'.cell? ⟨b,2,none⟩=some (iv z.born)
 f2:w'.frozen? ⟨b,2,none⟩=false
 lo:B≤b
 dd:∀q ob,(default:ProtD).z q=some ob→w'.heap[q]?=some ob
 mid:∀(u:Int) (W1:World),Ext (w'.setCell ⟨b,2,none⟩ (iv u)) W1→PMid C B W1 b z t bn cb co u
theorem SOq.plc[Inhabited ProtD]{C B:Nat}{w:World}{b:Nat}{z:Hp}(h:SOq C B w b z)(s:Snd z)(hC:C≤1000000000)(c:Nat)(fit:z.used+(1+(c:Int))≤z.room)(v:World)(hv:v.heap.size≤B)(hx:Ext v w):
  Calls Tryz.prog 317 #[.pointer (some ⟨b,0,none⟩)] w fun e w'=>∃t bn cb co:Nat,e=.returned (ndp bn t)∧Hid (PLD C B w' b z t bn cb co)∧Ext v w':=by
 obtain⟨ar,kr,a4,n4,k4,a8,m8,k8,br,cB,cO,bn,pb,pa,pk,kn,hd,vf,F,vk,K,role,h,inv,kk,hzn⟩:=h;have r16:=s.r1.regs;have r0:0<z.regs.length:=by omega
 refine(place_any h inv hC r0 s.ok.n8 hzn (fun no=>by
  have cr:=s.crowd no;have r3:=s.r3;unfold R3 at r3;omega) v hv hx).mono ?_
 rintro e w' ⟨t,he,hp,hx'⟩;obtain⟨ft,x1,cB',cO',pa',pk',vf',F',role',px,gl,g⟩:=unhide hp;obtain⟨tl,xr,xg,xo,xph,xhd⟩:=px.len;refine⟨t,bn,cB' t,cO' t,he,⟨ft,?_,g.sb.nb.2 2,g.sb.lo.1,fun q ob hq=>(g.pr q ob hq).2,fun u W1 e1=>?_⟩,hx'⟩
 ·have:=g.sb.bx.2.2.1;rw[show x1.born=z.born by rcases px with⟨_,rfl⟩ | ⟨_,rfl⟩ <;> rfl] at this;exact this
 ·have g1:=(g.boxed (x':={ x1 with born:=u }) (Only.setCell (S:=fun q=>q=b) (Only.refl _ w') (p:=⟨b,2,none⟩) rfl _) (g.sb.nb.set _ _) rfl rfl rfl (g.sb.bx.set2 u) (fun k hk=>cell_other _ (.inr (by omega)))).ext e1;have tl1:t<({ x1 with born:=u }:Hp).cells.length:=tl;refine⟨(g1.sb.nd t tl1).1,(g1.sb.nd t tl1).2,⟨_,g1.rw.s t tl1⟩,⟨_,g1.rw.p7 t tl1⟩,(g1.rw.nc t tl1).1.2,g1.sb.bx.2.2.1,?_,?_,(g1.rw.nc t tl1).2,fun q ob hq=>(g1.pr q ob hq).2,⟨fun e=>(by have:=g1.sp.c t tl1;rw[e,g1.sp.b] at this;cases this),fun e=>(by have:=g1.sp.c t tl1;rw[e,g1.sp.n] at this;cases this),fun q ob hq e=>(by have:=g1.sp.c t tl1;rw[e,(g1.pr q ob hq).1] at this;cases this)⟩,fun k n col W qb eW np=>?_⟩
  ·have:=g1.sb.bx.2.2.2.2.2.1;rw[show({ x1 with born:=u }:Hp).phase=z.phase from xph] at this;exact this
  ·have:=g1.sb.bx.2.2.2.2.2.2.1;rw[show({ x1 with born:=u }:Hp).hand=z.hand from xhd] at this;exact this
  ·obtain⟨pb2,pa2,pk2,role2,g2⟩:=g1.newcell (show 0<({ x1 with born:=u }:Hp).regs.length by show 0<x1.regs.length;rw[xr];exact r0) t tl1 (newC u k n col) n rfl eW qb np.lt np.nf np.z
   have ex:({ ({ x1 with born:=u }:Hp) with cells:=({ x1 with born:=u }:Hp).cells.set t (newC u k n col) }:Hp)={ z with born:=u,cells:=newCs z t (newC u k n col) }:=by
    have e2:({ x1 with born:=u }:Hp).cells.set t (newC u k n col)=newCs z t (newC u k n col):=px.set _;rw[e2];rcases px with⟨_,rfl⟩ | ⟨_,rfl⟩ <;> rfl
   rw[ex] at g2;have iv2:SInv (C+1) { z with born:=u,cells:=newCs z t (newC u k n col) } F' K:=inv.made gl (newC u k n col) rfl (by rw[ft]) rfl rfl s.r1.hand;exact⟨_,_,_,_,_,_,_,_,_,_,_,_,_,_,_,_,_,_,_,_,_,_,g2,iv2,kk,hzn⟩
theorem sresQ[Inhabited ProtD]{C B:Nat}{w:World}{b:Nat}{x:Hp}(h:SOq C B w b x)(r2:R2 x)(y:Wd)(hy:Formed y x.cells.length):Calls Tryz.prog 324 #[.pointer (some ⟨b,0,none⟩),y.v] w fun e w'=>e=.returned (resW x y).v∧Ext w w':=by
 obtain⟨ar,kr,a4,n4,k4,a8,m8,k8,br,cB,cO,bn,pb,pa,pk,kn,hd,vf,F,vk,K,role,h,v,k⟩:=h;exact sres_any h r2 y hy
theorem SPr.ext[Inhabited ProtD]{C B:Nat}{w w':World}{b:Nat}{x:Hp}{i k bn kn cb co bp kp:Nat}(h:SPr C B w b x i k bn kn cb co bp kp)(e:Ext w w'):SPr C B w' b x i k bn kn cb co bp kp:=
 ⟨h.ce.ext e,h.pr.ext e,fun j=>((bcell e).2 bp j h.lo.2).trans (h.f j),⟨h.lo.1,Nat.lt_of_lt_of_le h.lo.2 e.size⟩⟩
theorem way_6[Inhabited ProtD]{C B:Nat}{w:World}{b bd:Nat}{x:Hp}{a p c:Nat}{n:Int}{rv:Value}(h:SOq C B w b x)(s:Snd x)(hd:(default:ProtD).z bd=some (deedO b 6 a p c n rv))(ha:a<16)(hp:p<16)(v:World)(hv:v.heap.size≤B)(hx:Ext v w):
  Calls Tryz.prog 296 #[.pointer (some ⟨bd,0,none⟩)] w fun e w'=>WayPost C B b x a p c n 6 v e w':=by
 have D:=hide (Deed.of (h.obj hd));have H:=hide h;have S:=hide s;have hdz:=hd;obtain⟨br,kr,hr⟩:=h.regs s;have R:=hide hr;obtain⟨d0,d1,d2,d3,d4,d5,d6⟩:=unhide D;have hdw:bd<w.heap.size:=cell_lt d0;have QF:=hide (fun(W:World) (xW:Ext w W)=>dB_any ((unhide R).ext xW) ((unhide D).ext xW) hp);by_cases hk:(x.r p).k=2
 ·obtain⟨en,ea,hi,st,nd⟩:=s.at p hp hk;obtain⟨i,hI⟩:∃i,i=x.at p:=⟨_,rfl⟩;have HI:=hide hI;rw[←hI] at ea hi st nd;have HK:=hide hk;have ND:=hide nd;by_cases hl:c<(x.c i).prs.length
  ·obtain⟨bn,kn,cb,co,bp,kp,hs,ps⟩:=h.prw i hi c hl;have SP:=hide hs;have PS:=hide ps;have QC:=hide (fun(W:World) (xW:Ext w W)=>half_val ((unhide R).ext xW) ((unhide D).ext xW) hp (SPr.ext (unhide SP) xW) hk ea hi hl (.inl rfl));have QA:=hide (fun(W:World) (xW:Ext w W)=>dA_any ((unhide R).ext xW) ((unhide D).ext xW) ha);have FM:=hide (show Formed ((x.c i).p c).val x.cells.length from(((s.r4.2 i hi).2 c hl).2 nd).2.1);obtain⟨rr,hrr⟩:∃r,r=resW x ((x.c i).p c).val:=⟨_,rfl⟩;have HR:=hide hrr;have QR:=hide (show ∀W,Ext w W→Calls Tryz.prog 324 #[.pointer (some ⟨b,0,none⟩),(((x.c i).p c).val).v] W fun e w'=>e=.returned rr.v∧Ext W w' from fun W xW=>by rw[hrr];exact sresQ ((unhide H).ext xW) (unhide S).r2 _ (unhide FM));have FN:=hide (show ∀W,Ext w W→SOq (C+64000) B (wordO W br (a*3) rr) b (regTo x a rr)∧Ext v (wordO W br (a*3) rr) from fun W xW=>⟨(hr.set W a rr xW ha).wide (by omega),(wordO_only W br (a*3) rr).ext (hx.trans xW) (fun q hq e=>by have:=hr.lo.1;omega)⟩);unfold wordO at FN;obtain⟨r0,r1,r2⟩:=hr.r a ha;have ff:=hr.f;have hbr:br<w.heap.size:=cell_lt r0;obtain⟨e0,e1,e2,e3,e4,e5⟩:=hs.pr;have hbp:bp<w.heap.size:=cell_lt e0;have HL:=hide hl;clear h s hd hr hk ea en hI hs ps st nd hrr;go_enter Tryz.func296,Tryz.ntmps296;go_wp2_with fail;refine(unhide QF _ (Ext.refl w)).mono ?_;rintro e w5 ⟨rfl,x5⟩;go_wp2_with fail;refine(unhide QC _ x5).mono ?_;rintro e w6 ⟨rfl,x6⟩;have x56:=x5.trans x6;have X6:=hide x56;have k0:=x56.keep r0;have k1:=x56.keep r1;have k2:=x56.keep r2;have kf:=fun m=>((bcell x56).2 br m hbr).trans (ff m)
   have l0:=x56.keep e0;have l1:=x56.keep e1;have l2:=x56.keep e2;have l3:=x56.keep e3;have l4:=x56.keep e4;have l5:=x56.keep e5;have m0:=x56.keep d0;have hb6:br<w6.heap.size:=cell_lt k0;have hp6:bp<w6.heap.size:=cell_lt l0;have hd6:bd<w6.heap.size:=cell_lt m0;clear x5 x6 x56 r0 r1 r2 e0 e1 e2 e3 e4 e5 d0 d1 d2 d3 d4 d5 d6;go_wp2_with fail;go_region_with (first | (go_at_call 324;refine(unhide QR _ (by first | exact xwA | exact(unhide X6).trans (Ext.refl w6).drew)).mono ?_;rintro e wB ⟨rfl,xB⟩;have xwB:=Ext.trans (show Ext w _ from by first | exact xwA | exact(unhide X6).trans (Ext.refl w6).drew) xB;have y6:=Ext.trans (show Ext w6 _ from by first | exact x6A | exact(Ext.refl w6).drew) xB;have n0:=y6.keep k0;have n1:=y6.keep k1;have n2:=y6.keep k2;have nf:=fun m=>((bcell y6).2 br m hb6).trans (kf m);have hb7:br<wB.heap.size:=cell_lt n0;have FB:=hide (unhide FN wB xwB);clear xB y6) | (go_at_call 320;refine(unhide QA _ ((unhide X6).trans (Ext.refl w6).drew)).mono ?_;rintro e wA ⟨rfl,xA⟩;have xwA:=Ext.trans ((unhide X6).trans (Ext.refl w6).drew) xA;have x6A:=Ext.trans (Ext.refl w6).drew xA;have o0:=x6A.keep l0;have o1:=x6A.keep l1;have o2:=x6A.keep l2;have o3:=x6A.keep l3;have o4:=x6A.keep l4;have o5:=x6A.keep l5;have o6:=x6A.keep m0;have hpA:bp<wA.heap.size:=cell_lt o0;have hdA:bd<wA.heap.size:=cell_lt o6;clear xA))
   all_goals
    go_wp2_with fail;go_ret2;exact⟨_,0,0,rfl,.inr (.inr ⟨unhide HK,by rw[←unhide HI];exact unhide HL,by rw[←unhide HI];show regTo x a rr=regTo x a (resW x ((x.c i).p c).val);rw[←unhide HR],rfl,rfl⟩),(unhide FB).1,(unhide FB).2⟩
  ·obtain⟨bn,kn,cb,co,ap,kp,hc⟩:=h.cel i hi;have CE:=hide hc;have QC:=hide (fun(W:World) (xW:Ext w W)=>half_short ((unhide R).ext xW) ((unhide D).ext xW) hp ((unhide CE).ext xW) hk ea hi (by omega));have HL:=hide (show(x.c i).prs.length≤c by omega);clear h s hd hr hk ea en hI hc st nd hl;go_enter Tryz.func296,Tryz.ntmps296;go_wp2_with fail;refine(unhide QF _ (Ext.refl w)).mono ?_;rintro e w5 ⟨rfl,x5⟩;go_wp2_with fail;refine(unhide QC _ x5).mono ?_;rintro e w6 ⟨rfl,x6⟩;have X6:=hide (x5.trans x6);clear x5 x6;go_wp2_with fail;go_ret2;exact⟨x,3,0,rfl,.inr (.inl ⟨unhide HK,by rw[←unhide HI];exact unhide HL,rfl,rfl,rfl⟩),((unhide H).wide (show C≤C+64000 by omega)).ext (unhide X6),hx.trans (unhide X6)⟩
 ·have HK:=hide hk;have QC:=hide (fun(W:World) (xW:Ext w W)=>half_no ((unhide R).ext xW) ((unhide D).ext xW) hp hk);clear h s hd hr hk;go_enter Tryz.func296,Tryz.ntmps296;go_wp2_with fail;refine(unhide QF _ (Ext.refl w)).mono ?_;rintro e w5 ⟨rfl,x5⟩;go_wp2_with fail;refine(unhide QC _ x5).mono ?_;rintro e w6 ⟨rfl,x6⟩;have X6:=hide (x5.trans x6);clear x5 x6;go_wp2_with fail;go_ret2;exact⟨x,2,0,rfl,.inl ⟨unhide HK,rfl,rfl,rfl⟩,((unhide H).wide (show C≤C+64000 by omega)).ext (unhide X6),hx.trans (unhide X6)⟩
theorem way_23[Inhabited ProtD]{C B:Nat}{w:World}{b bd:Nat}{x:Hp}{a p c:Nat}{n:Int}{rv:Value}(h:SOq C B w b x)(hd:(default:ProtD).z bd=some (deedO b 23 a p c n rv))(v:World)(hv:v.heap.size≤B)(hx:Ext v w):
  Calls Tryz.prog 312 #[.pointer (some ⟨bd,0,none⟩)] w fun e w'=>WayPost C B b x a p c n 23 v e w':=by
 have D:=hide (Deed.of (h.obj hd));obtain⟨d0,d1,d2,d3,d4,d5,d6⟩:=unhide D;have hdw:bd<w.heap.size:=cell_lt d0;obtain⟨⟨z9,c9⟩,⟨z10,c10⟩,fz,lo,hbw⟩:=h.boxN;have FN:=hide (show SOq (C+64000) B ((w.setCell ⟨b,9,none⟩ (iv p)).setCell ⟨b,10,none⟩ (iv c)).drew b (paceTo x p c)∧Ext v ((w.setCell ⟨b,9,none⟩ (iv p)).setCell ⟨b,10,none⟩ (iv c)).drew from⟨((h.pace p c).wide (by omega)).ext (Ext.refl _).drew,((hx.setCell (p:=⟨b,9,none⟩) (Nat.le_trans hv lo) _).setCell (p:=⟨b,10,none⟩) (Nat.le_trans hv lo) _).drew⟩);clear h hd;go_enter Tryz.func312,Tryz.ntmps312;go_wp2_with fail
 go_region
 all_goals
  go_wp2_with fail;go_ret2;exact⟨_,0,0,rfl,⟨rfl,rfl,rfl⟩,(unhide FN).1,(unhide FN).2⟩
theorem way_8[Inhabited ProtD]{C B:Nat}{w:World}{b bd:Nat}{x:Hp}{a p c:Nat}{n:Int}{rv:Value}(h:SOq C B w b x)(s:Snd x)(hd:(default:ProtD).z bd=some (deedO b 8 a p c n rv))(ha:a<16)(hp:p<16)(v:World)(hv:v.heap.size≤B)(hx:Ext v w):
  Calls Tryz.prog 297 #[.pointer (some ⟨bd,0,none⟩)] w fun e w'=>WayPost C B b x a p c n 8 v e w':=by
 have D:=hide (Deed.of (h.obj hd));have H:=hide h;have S:=hide s;have hdz:=hd;obtain⟨br,kr,hr⟩:=h.regs s;have R:=hide hr;obtain⟨d0,d1,d2,d3,d4,d5,d6⟩:=unhide D;have hdw:bd<w.heap.size:=cell_lt d0;have QF:=hide (fun(W:World) (xW:Ext w W)=>dA_any ((unhide R).ext xW) ((unhide D).ext xW) ha);by_cases hk:(x.r a).k=2
 ·obtain⟨en,ea,hi,st,nd⟩:=s.at a ha hk;obtain⟨i,hI⟩:∃i,i=x.at a:=⟨_,rfl⟩;have HI:=hide hI;rw[←hI] at ea hi st nd;have HK:=hide hk;have ND:=hide nd;by_cases hl:c<(x.c i).prs.length
  ·obtain⟨bn,kn,cb,co,bp,kp,hs,ps⟩:=h.prw i hi c hl;have SP:=hide hs;have PS:=hide ps;have QC:=hide (fun(W:World) (xW:Ext w W)=>half_val ((unhide R).ext xW) ((unhide D).ext xW) ha (SPr.ext (unhide SP) xW) hk ea hi hl (.inr rfl));have QB:=hide (fun(W:World) (xW:Ext w W)=>dB_any ((unhide R).ext xW) ((unhide D).ext xW) hp);obtain⟨yy,hyy⟩:∃y,y=x.r p:=⟨_,rfl⟩;have HY:=hide hyy;obtain⟨r0,r1,r2⟩:=hr.r p hp;rw[←hyy] at r0 r1 r2;have LY:=hide (show Leads x yy False from by rw[hyy];exact s.reg p hp);have hbr:br<w.heap.size:=cell_lt r0;obtain⟨e0,e1,e2,e3,e4,e5⟩:=hs.pr;have fp:=hs.f;have hbB:=hs.lo.1;have hbp:bp<w.heap.size:=cell_lt e0;have HL:=hide hl;clear h s hd hr hk ea en hI hs ps st nd hyy;go_enter Tryz.func297,Tryz.ntmps297;go_wp2_with fail;refine(unhide QF _ (Ext.refl w)).mono ?_;rintro e w5 ⟨rfl,x5⟩;go_wp2_with fail;refine(unhide QC _ x5).mono ?_;rintro e w6 ⟨rfl,x6⟩;have x56:=x5.trans x6;go_wp2_with fail;refine(unhide QB _ x56).mono ?_;rintro e w7 ⟨rfl,x7⟩;have x57:=x56.trans x7;have X7:=hide x57;have k0:=x57.keep r0;have k1:=x57.keep r1;have k2:=x57.keep r2;have l0:=x57.keep e0;have l1:=x57.keep e1;have l2:=x57.keep e2;have l3:=x57.keep e3;have l4:=x57.keep e4;have l5:=x57.keep e5;have lf:=fun m=>((bcell x57).2 bp m hbp).trans (fp m)
   have hb7:br<w7.heap.size:=cell_lt k0;have hp7:bp<w7.heap.size:=cell_lt l0;obtain⟨W8,hW8⟩:∃W,W=wordO w7 bp (c*6+3) yy:=⟨_,rfl⟩;have PS8:=hide (unhide PS 3 yy _ (.inr ⟨rfl,rfl⟩) w7 W8 x57 (by rw[hW8];exact Ext.refl _));have X8:=hide (show Ext v W8 by rw[hW8];exact(wordO_only w7 bp (c*6+3) yy).ext (hx.trans x57) (fun q hq e=>by omega));unfold wordO at hW8;clear x5 x6 x56 x7 x57 r0 r1 r2 e0 e1 e2 e3 e4 e5 d0 d1 d2 d3 d4 d5 d6 fp;have PX:=hide (fun(W2:World) (e8:Ext W8 W2)=>unhide PS 3 yy _ (.inr ⟨rfl,rfl⟩) w7 W2 (unhide X7) (by rw[show wordO w7 bp (c*6+3) yy=W8 from by rw[hW8];rfl];exact e8));obtain⟨z,hz⟩:∃z,z=setcH x i (valC (x.c i) c yy):=⟨_,rfl⟩;have HZ:=hide hz;rw[←hz] at PS8 PX
   have ZB:=hide (show ∀t,shadeB z t=shadeB x t from fun t=>by
    rw[hz];unfold shadeB
    have e:whB ((setcH x i (valC (x.c i) c yy)).c t)=whB (x.c t):=by
     show whB (({ x with cells:=x.cells.set i _ }:Hp).c t)=_;rw[Hp.c_set x i _ hi t];by_cases e:t=i
     ·rw[if_pos e,e];rfl
     ·rw[if_neg e]
    rw[e];rfl)
   clear hz PS;go_wp2_with fail;rw[←hW8];clear hW8 k0 k1 k2 l0 l1 l2 l3 l4 l5 lf hb7 hp7;obtain⟨⟨y0,y1,y2⟩,h8,⟨kn8,n13⟩,_⟩:=unhide PS8;have H8:=hide h8;have d0:=(Deed.of (h8.obj hdz)).d0;have hd8:bd<W8.heap.size:=cell_lt d0;have hp8:bp<W8.heap.size:=cell_lt y0;clear h8 PS8;by_cases k2:yy.k=2
   ·obtain⟨t,ht,hta⟩:∃t:Nat,t<x.cells.length∧yy.a=(t:Int):=by
     have l:=(unhide LY).1;unfold Formed at l;exact⟨yy.a.toNat,by omega,by omega⟩
    have QN:=hide (fun(W:World) (xW:Ext W8 W)=>find_some ⟨yy.k,yy.n,(t:Int)⟩ b x.cells.length bn 0 kn8 t W (by simpa using k2) (xW.keep n13) ht);simp only [Nat.zero_add] at QN;have QS:=hide (fun(W:World) (xW:Ext W8 W)=>(unhide PX W xW).2.2.2 v t ht hv ((unhide X8).trans xW) (fun q=>(gray_fit (unhide S).ok).2 t ht (by rw[←unhide ZB t];exact q)));rw[hta] at y2;have EW:=hide (show shadeH z t=shadeW z yy from by unfold shadeW;rw[if_pos (by simpa using k2),hta];simp);clear k2 hta;go_region_with (first | (go_at_call 82;refine(unhide QS _ xwA).mono ?_;rintro e w9 ⟨rfl,h9,x9⟩;have H9:=hide ((unhide h9).wide (show C≤C+64000 by omega));have X9:=hide x9;clear h9 x9) | (go_at_call 199;refine(unhide QN _ (Ext.refl W8).drew).mono ?_;rintro e wA ⟨rfl,xA⟩;have xwA:=Ext.trans (Ext.refl W8).drew xA;have o0:=xwA.keep d0;have hdA:bd<wA.heap.size:=cell_lt o0;clear xA))
    all_goals
     go_wp2_with fail;go_ret2;exact⟨_,0,0,rfl,.inr (.inr ⟨unhide HK,by rw[←unhide HI];exact unhide HL,by rw[←unhide HI];show shadeH z t=shadeW (setcH x i (valC (x.c i) c (x.r p))) (x.r p);rw[←unhide HY,←unhide HZ,unhide EW],rfl,rfl⟩),unhide H9,unhide X9⟩
   ·have QN:=hide (fun(W:World)=>find_none yy b W (by simpa using k2));have EW:=hide (show z=shadeW z yy from by unfold shadeW;rw[if_neg (by simpa using k2)]);clear k2;go_region_with (first | (go_at_call 82;refine(sshade_nil b _).mono ?_;rintro e w9 ⟨rfl,rfl⟩) | (go_at_call 199;refine(unhide QN _).mono ?_;rintro e wA ⟨rfl,xA⟩;have xwA:=Ext.trans (Ext.refl W8).drew xA;have o0:=xwA.keep d0;have hdA:bd<wA.heap.size:=cell_lt o0;clear xA))
    all_goals
     go_wp2_with fail;go_ret2;exact⟨_,0,0,rfl,.inr (.inr ⟨unhide HK,by rw[←unhide HI];exact unhide HL,by rw[←unhide HI];show z=shadeW (setcH x i (valC (x.c i) c (x.r p))) (x.r p);rw[←unhide HY,←unhide HZ];exact unhide EW,rfl,rfl⟩),((unhide H8).wide (show C≤C+64000 by omega)).ext xwA,(unhide X8).trans xwA⟩
  ·obtain⟨bn,kn,cb,co,ap,kp,hc⟩:=h.cel i hi;have CE:=hide hc;have QC:=hide (fun(W:World) (xW:Ext w W)=>half_short ((unhide R).ext xW) ((unhide D).ext xW) ha ((unhide CE).ext xW) hk ea hi (by omega));have HL:=hide (show(x.c i).prs.length≤c by omega);clear h s hd hr hk ea en hI hc st nd hl;go_enter Tryz.func297,Tryz.ntmps297;go_wp2_with fail;refine(unhide QF _ (Ext.refl w)).mono ?_;rintro e w5 ⟨rfl,x5⟩;go_wp2_with fail;refine(unhide QC _ x5).mono ?_;rintro e w6 ⟨rfl,x6⟩;have X6:=hide (x5.trans x6);clear x5 x6;go_wp2_with fail;go_ret2;exact⟨x,3,0,rfl,.inr (.inl ⟨unhide HK,by rw[←unhide HI];exact unhide HL,rfl,rfl,rfl⟩),((unhide H).wide (show C≤C+64000 by omega)).ext (unhide X6),hx.trans (unhide X6)⟩
 ·have HK:=hide hk;have QC:=hide (fun(W:World) (xW:Ext w W)=>half_no ((unhide R).ext xW) ((unhide D).ext xW) ha hk);clear h s hd hr hk;go_enter Tryz.func297,Tryz.ntmps297;go_wp2_with fail;refine(unhide QF _ (Ext.refl w)).mono ?_;rintro e w5 ⟨rfl,x5⟩;go_wp2_with fail;refine(unhide QC _ x5).mono ?_;rintro e w6 ⟨rfl,x6⟩;have X6:=hide (x5.trans x6);clear x5 x6;go_wp2_with fail;go_ret2;exact⟨x,2,0,rfl,.inl ⟨unhide HK,rfl,rfl,rfl⟩,((unhide H).wide (show C≤C+64000 by omega)).ext (unhide X6),hx.trans (unhide X6)⟩
end Go.Proofs.YtddkhnclmeikfaaGreat
