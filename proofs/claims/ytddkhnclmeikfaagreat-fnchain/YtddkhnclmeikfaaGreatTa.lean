import Derived.Test.YtddkhnclmeikfaaGreatQe
import Derived.Test.YtddkhnclmeikfaaGreatTe
import Derived.RangeFuncFrom
set_option maxRecDepth 100000
set_option maxHeartbeats 1000000
namespace Go.Proofs.YtddkhnclmeikfaaGreat
open Go.RowKit
attribute [local go_sem ↓] Go.wp_at_zero Go.wp_at_succ
structure SPr[Inhabited ProtD](C B:Nat)(w:World)(b:Nat)(x:Hp)(i k bn kn cb co bp kp:Nat):Prop where
 ce:SCel C B w b x i bn kn cb co (some ⟨bp,0,none⟩) kp
 pr:PrAt w bp (k*6) ((x.c i).p k)
 f:∀j,w.frozen? ⟨bp,j,none⟩=false
 lo:B≤bp∧bp<w.heap.size
theorem wordO_key(W:World)(bp o:Nat)(q:Pr)(y:Wd)(h:PrAt W bp o q):PrAt (wordO W bp o y) bp o ⟨y,q.val⟩:=by
 obtain⟨h0,h1,h2,h3,h4,h5⟩:=h;have k:=wordO_at W bp o y q.key ⟨h0,h1,h2⟩;exact⟨k.1,k.2.1,k.2.2,(wordO_other _ _ _ _ _ (by omega)).trans h3,(wordO_other _ _ _ _ _ (by omega)).trans h4,(wordO_other _ _ _ _ _ (by omega)).trans h5⟩
theorem wordO_val(W:World)(bp o:Nat)(q:Pr)(y:Wd)(h:PrAt W bp o q):PrAt (wordO W bp (o+3) y) bp o ⟨q.key,y⟩:=by
 obtain⟨h0,h1,h2,h3,h4,h5⟩:=h;have k:=wordO_at W bp (o+3) y q.val ⟨h3,h4,h5⟩;exact⟨(wordO_other _ _ _ _ _ (by omega)).trans h0,(wordO_other _ _ _ _ _ (by omega)).trans h1,(wordO_other _ _ _ _ _ (by omega)).trans h2,k.1,k.2.1,k.2.2⟩
def PutS[Inhabited ProtD](C B:Nat)(w:World)(b:Nat)(x:Hp)(i k bn bp:Nat):Prop:=
 ∀(o:Nat) (y:Wd) (z:Hp),(o=0∧z=setcH x i (keyC (x.c i) k y))∨(o=3∧z=setcH x i (valC (x.c i) k y))→∀W W2:World,Ext w W→Ext (wordO W bp (k*6+o) y) W2→
  WdAt W2 bp (k*6+o) y∧SOq C B W2 b z∧(∃kn,W2.cell? ⟨b,13,none⟩=some (.slice (some ⟨bn,0,none⟩) x.cells.length kn))∧
  ∀(v:World) (t:Nat),t<x.cells.length→v.heap.size≤B→Ext v W2→(shadeB z t=true→x.gray.length<4000)→Calls Tryz.prog 82 #[.pointer (some ⟨b,0,none⟩),ndp bn t] W2 fun e w'=>e=.returned (.tuple #[])∧Hid (SOq C B w' b (shadeH z t))∧Ext v w'
theorem SOq.prw[Inhabited ProtD]{C B:Nat}{w:World}{b:Nat}{x:Hp}(h:SOq C B w b x)(i:Nat)(hi:i<x.cells.length)(k:Nat)(hk:k<(x.c i).prs.length):∃bn kn cb co bp kp,SPr C B w b x i k bn kn cb co bp kp∧PutS C B w b x i k bn bp:=by
 have h0:=h;obtain⟨ar,kr,a4,n4,k4,a8,m8,k8,br,cB,cO,bn,pb,pa,pk,kn,hd,vf,F,vk,K,role,h,v,kk⟩:=h;obtain⟨bn2,kn2,cb,co,ap,kp,ce⟩:=h0.cel i hi;have hl:0<(x.c i).prs.length:=by omega
 obtain⟨e1,e2,_,e4⟩:=h.rw.pl i hi (h.rw.pw hi hl)
 have ebn:bn2=bn:=by
  have:=ce.n13.symm.trans h.sb.n13;simp at this;exact this.1
 subst ebn
 have ecb:cb=cB i∧co=cO i:=by
  have:=ce.m1.symm.trans (h.sb.nd i hi).2;simp at this;exact this
 obtain⟨rfl,rfl⟩:=ecb
 have eap:ap=some ⟨pb i,0,none⟩:=by
  have:=ce.p7.symm.trans (h.rw.p7 i hi);rw[e1] at this;simp at this;exact this.1
 subst eap;have sm:∀c:Cl,c.st=(x.c i).st→SameSt x (setcH x i c):=fun c hc=>SameSt.set x i c hc rfl
 refine⟨bn2,kn2,cB i,cO i,pb i,kp,⟨ce,h.rw.p i hi k hk,e2.2,⟨e4,e2.1⟩⟩,fun o y z ho W W2 e e2w=>?_⟩;have g1:=h.ext e;have pr1:=g1.rw.p i hi k hk;have nf1:=(g1.rw.pl i hi (g1.rw.pw hi hl)).2.1.n1
 have key:SAt B (wordO W (pb i) (k*6+o) y) b z ar kr (.slice a4 n4 k4) (.slice a8 m8 k8) br cB cO bn2 pb pa pk kn hd vf F vk K role∧SameSt x z∧z.phase=x.phase∧z.hand=x.hand∧z.room=x.room∧z.gray=x.gray∧z.cells.length=x.cells.length∧WdAt (wordO W (pb i) (k*6+o) y) (pb i) (k*6+o) y:=by
  rcases ho with⟨rfl,rfl⟩ | ⟨rfl,rfl⟩
  ·refine⟨g1.setp i hi k hk ⟨y,((x.c i).p k).val⟩ (wordO_only _ _ _ _) (wordO_nf nf1 _ _) (wordO_key _ _ _ _ _ pr1) (fun j hj=>wordO_other _ _ _ _ _ (by omega)),sm _ rfl,rfl,rfl,rfl,rfl,by simp [setcH],wordO_at _ _ _ _ ((x.c i).p k).key ⟨pr1.1,pr1.2.1,pr1.2.2.1⟩⟩
  ·refine⟨g1.setp i hi k hk ⟨((x.c i).p k).key,y⟩ (wordO_only _ _ _ _) (wordO_nf nf1 _ _) (wordO_val _ _ _ _ _ pr1) (fun j hj=>wordO_other _ _ _ _ _ (by omega)),sm _ rfl,rfl,rfl,rfl,rfl,by simp [setcH],wordO_at _ _ _ _ ((x.c i).p k).val ⟨pr1.2.2.2.1,pr1.2.2.2.2.1,pr1.2.2.2.2.2⟩⟩
 obtain⟨k1,k2,k3,k4',k5,k6,k7,k8'⟩:=key;have g2:=k1.ext e2w;have sv:SInv C z F K:=v.alike k2 k3 k4';refine⟨k8'.ext e2w,⟨_,_,_,_,_,_,_,_,_,_,_,_,_,_,_,_,_,_,_,_,_,_,g2,sv,by rw[k5];exact kk⟩,⟨kn,by have:=g2.sb.n13;rw[k7] at this;exact this⟩,fun vv t ht hv hx hg=>?_⟩;refine(sshade_any t W2 g2 (by rw[k7];exact ht) (fun q=>by rw[k6];exact hg q) vv hv hx).mono ?_;rintro e w' ⟨h1,h2,h3⟩;exact⟨h1,⟨_,_,_,_,_,_,_,_,_,_,_,_,_,_,_,_,_,_,_,_,_,_,unhide h2,sv.alike (same_shade _ t) (shade_same _ t).2.2.2.2.2.1 (shade_same _ t).2.2.2.2.2.2.1,by rw[(shade_same _ t).1,k5];exact kk⟩,h3⟩
theorem half_no[Inhabited ProtD]{C B:Nat}{w:World}{b bd:Nat}{x:Hp}{br kr f:Nat}{op:Int}{a p c:Nat}{n:Int}{rv:Value}(h:SReg C B w b x br kr)(d:Deed w bd b op a p c n rv)(hf:f<16)(hk:(x.r f).k≠2):
  Calls Tryz.prog 323 #[.pointer (some ⟨bd,0,none⟩),.pointer (some ⟨br,f*3,none⟩)] w fun e w'=>e=.returned (.tuple #[.pointer none,.iface 283 (.agg #[iv 2])])∧Ext w w':=by
 have D:=hide d;have QC:=hide (cellOf_no h d hf hk);clear hk;clear h d;go_enter Tryz.func323,Tryz.ntmps323;go_wp2_with fail;refine(unhide QC).mono ?_;rintro e w5 ⟨rfl,x5⟩;go_wp2_with fail;go_ret2;exact⟨rfl,x5⟩
theorem half_short[Inhabited ProtD]{C B:Nat}{w:World}{b bd:Nat}{x:Hp}{br kr f:Nat}{op:Int}{a p c:Nat}{n:Int}{rv:Value}(h:SReg C B w b x br kr)(d:Deed w bd b op a p c n rv)(hf:f<16){i bn kn cb co:Nat}{ap:Option Addr}{kp:Nat}(hc:SCel C B w b x i bn kn cb co ap kp)(hk:(x.r f).k=2)(ha:(x.r f).a=(i:Int))(hi:i<x.cells.length)(hl:(x.c i).prs.length≤c):
  Calls Tryz.prog 323 #[.pointer (some ⟨bd,0,none⟩),.pointer (some ⟨br,f*3,none⟩)] w fun e w'=>e=.returned (.tuple #[.pointer none,.iface 283 (.agg #[iv 3])])∧Ext w w':=by
 have D:=hide d;have QC:=hide (cellOf_yes h hc d hf hk ha hi);have CE:=hide hc;clear hc hk ha;clear h d;go_enter Tryz.func323,Tryz.ntmps323;go_wp2_with fail;refine(unhide QC).mono ?_;rintro e w5 ⟨rfl,x5⟩;have m1:=((unhide CE).ext x5).m1;have p7:=((unhide CE).ext x5).p7;obtain⟨d0,d1,d2,d3,d4,d5,d6⟩:=(unhide D).ext x5;have hd5:bd<w5.heap.size:=cell_lt d0;have hn5:bn<w5.heap.size:=cell_lt m1;have hc5:cb<w5.heap.size:=cell_lt p7;have q1:(c:Int)≥((x.c i).prs.length:Int):=by omega
 go_wp2_with fail;go_quiet (fail);go_wp2_with fail;go_ret2;exact⟨rfl,Ext.drewN x5 _⟩
theorem half_key[Inhabited ProtD]{C B:Nat}{w:World}{b bd:Nat}{x:Hp}{br kr f:Nat}{op:Int}{a p c:Nat}{n:Int}{rv:Value}(h:SReg C B w b x br kr)(d:Deed w bd b op a p c n rv)(hf:f<16){i bn kn cb co bp kp:Nat}(hs:SPr C B w b x i c bn kn cb co bp kp)(hk:(x.r f).k=2)(ha:(x.r f).a=(i:Int))(hi:i<x.cells.length)(hl:c<(x.c i).prs.length)(ho:op=5∨op=7):
  Calls Tryz.prog 323 #[.pointer (some ⟨bd,0,none⟩),.pointer (some ⟨br,f*3,none⟩)] w fun e w'=>e=.returned (.tuple #[.pointer (some ⟨bp,c*6,none⟩),.nilIface])∧Ext w w':=by
 have D:=hide d;have QC:=hide (cellOf_yes h hs.ce d hf hk ha hi);have CE:=hide hs.ce;clear hs hk ha;clear h d;go_enter Tryz.func323,Tryz.ntmps323;go_wp2_with fail;refine(unhide QC).mono ?_;rintro e w5 ⟨rfl,x5⟩;have m1:=((unhide CE).ext x5).m1;have p7:=((unhide CE).ext x5).p7;obtain⟨d0,d1,d2,d3,d4,d5,d6⟩:=(unhide D).ext x5;have hd5:bd<w5.heap.size:=cell_lt d0;have hn5:bn<w5.heap.size:=cell_lt m1;have hc5:cb<w5.heap.size:=cell_lt p7;have q1:¬(c:Int)≥((x.c i).prs.length:Int):=by omega
 have q2:(c:Int)<((x.c i).prs.length:Int):=by omega
 have q3:(0:Int)≤(c:Int):=by omega
 rcases ho with rfl | rfl
 all_goals
  go_wp2_with fail;go_quiet (fail);obtain⟨W6,hW6⟩:∃W,W=w5.drewN nq:=⟨_,rfl⟩;rw[←hW6];have x6:Ext w5 W6:=by rw[hW6];exact Ext.drewN (Ext.refl _) nq
  have m1:=x6.keep m1;have p7:=x6.keep p7;have d0:=x6.keep d0;have d1:=x6.keep d1;have d4:=x6.keep d4;have X6:=hide (x5.trans x6);clear hW6;go_wp2_with fail;go_quiet (fail);go_wp2_with fail;go_ret2;exact⟨rfl,Ext.drewN (unhide X6) _⟩
theorem half_val[Inhabited ProtD]{C B:Nat}{w:World}{b bd:Nat}{x:Hp}{br kr f:Nat}{op:Int}{a p c:Nat}{n:Int}{rv:Value}(h:SReg C B w b x br kr)(d:Deed w bd b op a p c n rv)(hf:f<16){i bn kn cb co bp kp:Nat}(hs:SPr C B w b x i c bn kn cb co bp kp)(hk:(x.r f).k=2)(ha:(x.r f).a=(i:Int))(hi:i<x.cells.length)(hl:c<(x.c i).prs.length)(ho:op=6∨op=8):
  Calls Tryz.prog 323 #[.pointer (some ⟨bd,0,none⟩),.pointer (some ⟨br,f*3,none⟩)] w fun e w'=>e=.returned (.tuple #[.pointer (some ⟨bp,c*6+3,none⟩),.nilIface])∧Ext w w':=by
 have D:=hide d;have QC:=hide (cellOf_yes h hs.ce d hf hk ha hi);have CE:=hide hs.ce;clear hs hk ha;clear h d;go_enter Tryz.func323,Tryz.ntmps323;go_wp2_with fail;refine(unhide QC).mono ?_;rintro e w5 ⟨rfl,x5⟩;have m1:=((unhide CE).ext x5).m1;have p7:=((unhide CE).ext x5).p7;obtain⟨d0,d1,d2,d3,d4,d5,d6⟩:=(unhide D).ext x5;have hd5:bd<w5.heap.size:=cell_lt d0;have hn5:bn<w5.heap.size:=cell_lt m1;have hc5:cb<w5.heap.size:=cell_lt p7;have q1:¬(c:Int)≥((x.c i).prs.length:Int):=by omega
 have q2:(c:Int)<((x.c i).prs.length:Int):=by omega
 have q3:(0:Int)≤(c:Int):=by omega
 rcases ho with rfl | rfl
 all_goals
  go_wp2_with fail;go_quiet (fail);obtain⟨W6,hW6⟩:∃W,W=w5.drewN nq:=⟨_,rfl⟩;rw[←hW6];have x6:Ext w5 W6:=by rw[hW6];exact Ext.drewN (Ext.refl _) nq
  have m1:=x6.keep m1;have p7:=x6.keep p7;have d0:=x6.keep d0;have d1:=x6.keep d1;have d4:=x6.keep d4;have X6:=hide (x5.trans x6);clear hW6;go_wp2_with fail;go_quiet (fail);go_wp2_with fail;go_ret2;exact⟨rfl,Ext.drewN (unhide X6) _⟩
theorem SOq.regs16[Inhabited ProtD]{C B:Nat}{w:World}{b:Nat}{x:Hp}(h:SOq C B w b x)(r16:x.regs.length=16):∃br kr,SReg C B w b x br kr:=by
 obtain⟨ar,kr,a4,n4,k4,a8,m8,k8,br,cB,cO,bn,pb,pa,pk,kn,hd,vf,F,vk,K,role,h,v,k⟩:=h;have h0:0<x.regs.length:=by omega
 refine⟨br,kr,?_,fun i hi=>?_,(h.rw.nr h0).1.2,⟨(h.rw.nr h0).2,(h.rw.nr h0).1.1⟩,fun W i y e hi=>?_⟩
 ·have:=h.sb.bx.2.2.2.1;rw[h.sb.ha h0,r16] at this;exact this
 ·have:=h.rw.r i (by omega);rw[Hp.r_eq] at this;exact this
 ·have g1:=h.ext e;exact⟨ar,kr,a4,n4,k4,a8,m8,k8,br,cB,cO,bn,pb,pa,pk,kn,hd,vf,F,vk,K,role,g1.setr i (by omega) y (wordO_only _ _ _ _) (wordO_nf (g1.rw.nr h0).1 _ _) (wordO_at _ _ _ _ _ (g1.rw.r i (by omega))) (fun m hm=>wordO_other _ _ _ _ m hm),v.alike (SameSt.cells rfl) rfl rfl,k⟩
theorem SPr.ext[Inhabited ProtD]{C B:Nat}{w w':World}{b:Nat}{x:Hp}{i k bn kn cb co bp kp:Nat}(h:SPr C B w b x i k bn kn cb co bp kp)(e:Ext w w'):SPr C B w' b x i k bn kn cb co bp kp:=
 ⟨h.ce.ext e,h.pr.ext e,fun j=>((bcell e).2 bp j h.lo.2).trans (h.f j),⟨h.lo.1,Nat.lt_of_lt_of_le h.lo.2 e.size⟩⟩
theorem way_7[Inhabited ProtD]{C B:Nat}{w:World}{b bd:Nat}{x:Hp}{a p c:Nat}{n:Int}{rv:Value}(h:SOq C B w b x)(s:Snd x)(hd:(default:ProtD).z bd=some (deedO b 7 a p c n rv))(ha:a<16)(hp:p<16)(v:World)(hv:v.heap.size≤B)(hx:Ext v w):
  Calls Tryz.prog 297 #[.pointer (some ⟨bd,0,none⟩)] w fun e w'=>WayPost C B b x a p c n 7 v e w':=by
 have D:=hide (Deed.of (h.obj hd));have H:=hide h;have S:=hide s;have hdz:=hd;obtain⟨br,kr,hr⟩:=h.regs s;have R:=hide hr;obtain⟨d0,d1,d2,d3,d4,d5,d6⟩:=unhide D;have hdw:bd<w.heap.size:=cell_lt d0;have QF:=hide (fun(W:World) (xW:Ext w W)=>dA_any ((unhide R).ext xW) ((unhide D).ext xW) ha);by_cases hk:(x.r a).k=2
 ·obtain⟨en,ea,hi,st,nd⟩:=s.at a ha hk;obtain⟨i,hI⟩:∃i,i=x.at a:=⟨_,rfl⟩;have HI:=hide hI;rw[←hI] at ea hi st nd;have HK:=hide hk;have ND:=hide nd;by_cases hl:c<(x.c i).prs.length
  ·obtain⟨bn,kn,cb,co,bp,kp,hs,ps⟩:=h.prw i hi c hl;have SP:=hide hs;have PS:=hide ps;have QC:=hide (fun(W:World) (xW:Ext w W)=>half_key ((unhide R).ext xW) ((unhide D).ext xW) ha (SPr.ext (unhide SP) xW) hk ea hi hl (.inr rfl));have QB:=hide (fun(W:World) (xW:Ext w W)=>dB_any ((unhide R).ext xW) ((unhide D).ext xW) hp);obtain⟨yy,hyy⟩:∃y,y=x.r p:=⟨_,rfl⟩;have HY:=hide hyy;obtain⟨r0,r1,r2⟩:=hr.r p hp;rw[←hyy] at r0 r1 r2;have LY:=hide (show Leads x yy False from by rw[hyy];exact s.reg p hp);have hbr:br<w.heap.size:=cell_lt r0;obtain⟨e0,e1,e2,e3,e4,e5⟩:=hs.pr;have fp:=hs.f;have hbB:=hs.lo.1;have hbp:bp<w.heap.size:=cell_lt e0;have HL:=hide hl;clear h s hd hr hk ea en hI hs ps st nd hyy;go_enter Tryz.func297,Tryz.ntmps297;go_wp2_with fail;refine(unhide QF _ (Ext.refl w)).mono ?_;rintro e w5 ⟨rfl,x5⟩;go_wp2_with fail;refine(unhide QC _ x5).mono ?_;rintro e w6 ⟨rfl,x6⟩;have x56:=x5.trans x6;go_wp2_with fail;refine(unhide QB _ x56).mono ?_;rintro e w7 ⟨rfl,x7⟩;have x57:=x56.trans x7;have X7:=hide x57;have k0:=x57.keep r0;have k1:=x57.keep r1;have k2:=x57.keep r2;have l0:=x57.keep e0;have l1:=x57.keep e1;have l2:=x57.keep e2;have l3:=x57.keep e3;have l4:=x57.keep e4;have l5:=x57.keep e5;have lf:=fun m=>((bcell x57).2 bp m hbp).trans (fp m)
   have hb7:br<w7.heap.size:=cell_lt k0;have hp7:bp<w7.heap.size:=cell_lt l0;obtain⟨W8,hW8⟩:∃W,W=wordO w7 bp (c*6) yy:=⟨_,rfl⟩;have PS8:=hide (unhide PS 0 yy _ (.inl ⟨rfl,rfl⟩) w7 W8 x57 (by rw[hW8];exact Ext.refl _));have X8:=hide (show Ext v W8 by rw[hW8];exact(wordO_only w7 bp (c*6) yy).ext (hx.trans x57) (fun q hq e=>by omega));unfold wordO at hW8;clear x5 x6 x56 x7 x57 r0 r1 r2 e0 e1 e2 e3 e4 e5 d0 d1 d2 d3 d4 d5 d6 fp;have PX:=hide (fun(W2:World) (e8:Ext W8 W2)=>unhide PS 0 yy _ (.inl ⟨rfl,rfl⟩) w7 W2 (unhide X7) (by rw[show wordO w7 bp (c*6+0) yy=W8 from by rw[hW8];rfl];exact e8));obtain⟨z,hz⟩:∃z,z=setcH x i (keyC (x.c i) c yy):=⟨_,rfl⟩;have HZ:=hide hz;rw[←hz] at PS8 PX
   have ZB:=hide (show ∀t,shadeB z t=shadeB x t from fun t=>by
    rw[hz];unfold shadeB
    have e:whB ((setcH x i (keyC (x.c i) c yy)).c t)=whB (x.c t):=by
     show whB (({ x with cells:=x.cells.set i _ }:Hp).c t)=_;rw[Hp.c_set x i _ hi t];by_cases e:t=i
     ·rw[if_pos e,e];rfl
     ·rw[if_neg e]
    rw[e];rfl)
   clear hz PS;go_wp2_with fail;rw[←hW8];clear hW8 k0 k1 k2 l0 l1 l2 l3 l4 l5 lf hb7 hp7;obtain⟨⟨y0,y1,y2⟩,h8,⟨kn8,n13⟩,_⟩:=unhide PS8;simp only [Nat.add_zero] at y0 y1 y2;have H8:=hide h8;have d0:=(Deed.of (h8.obj hdz)).d0;have hd8:bd<W8.heap.size:=cell_lt d0;have hp8:bp<W8.heap.size:=cell_lt y0;clear h8 PS8;by_cases k2:yy.k=2
   ·obtain⟨t,ht,hta⟩:∃t:Nat,t<x.cells.length∧yy.a=(t:Int):=by
     have l:=(unhide LY).1;unfold Formed at l;exact⟨yy.a.toNat,by omega,by omega⟩
    have QN:=hide (fun(W:World) (xW:Ext W8 W)=>find_some ⟨yy.k,yy.n,(t:Int)⟩ b x.cells.length bn 0 kn8 t W (by simpa using k2) (xW.keep n13) ht);simp only [Nat.zero_add] at QN;have QS:=hide (fun(W:World) (xW:Ext W8 W)=>(unhide PX W xW).2.2.2 v t ht hv ((unhide X8).trans xW) (fun q=>(gray_fit (unhide S).ok).2 t ht (by rw[←unhide ZB t];exact q)));rw[hta] at y2;have EW:=hide (show shadeH z t=shadeW z yy from by unfold shadeW;rw[if_pos (by simpa using k2),hta];simp);clear k2 hta;go_region_with (first | (go_at_call 82;refine(unhide QS _ xwA).mono ?_;rintro e w9 ⟨rfl,h9,x9⟩;have H9:=hide ((unhide h9).wide (show C≤C+64000 by omega));have X9:=hide x9;clear h9 x9) | (go_at_call 199;refine(unhide QN _ (Ext.refl W8).drew).mono ?_;rintro e wA ⟨rfl,xA⟩;have xwA:=Ext.trans (Ext.refl W8).drew xA;have o0:=xwA.keep d0;have hdA:bd<wA.heap.size:=cell_lt o0;clear xA))
    all_goals
     go_wp2_with fail;go_ret2;exact⟨_,0,0,rfl,.inr (.inr ⟨unhide HK,by rw[←unhide HI];exact unhide HL,by rw[←unhide HI];show shadeH z t=shadeW (setcH x i (keyC (x.c i) c (x.r p))) (x.r p);rw[←unhide HY,←unhide HZ,unhide EW],rfl,rfl⟩),unhide H9,unhide X9⟩
   ·have QN:=hide (fun(W:World)=>find_none yy b W (by simpa using k2));have EW:=hide (show z=shadeW z yy from by unfold shadeW;rw[if_neg (by simpa using k2)]);clear k2;go_region_with (first | (go_at_call 82;refine(sshade_nil b _).mono ?_;rintro e w9 ⟨rfl,rfl⟩) | (go_at_call 199;refine(unhide QN _).mono ?_;rintro e wA ⟨rfl,xA⟩;have xwA:=Ext.trans (Ext.refl W8).drew xA;have o0:=xwA.keep d0;have hdA:bd<wA.heap.size:=cell_lt o0;clear xA))
    all_goals
     go_wp2_with fail;go_ret2;exact⟨_,0,0,rfl,.inr (.inr ⟨unhide HK,by rw[←unhide HI];exact unhide HL,by rw[←unhide HI];show z=shadeW (setcH x i (keyC (x.c i) c (x.r p))) (x.r p);rw[←unhide HY,←unhide HZ];exact unhide EW,rfl,rfl⟩),((unhide H8).wide (show C≤C+64000 by omega)).ext xwA,(unhide X8).trans xwA⟩
  ·obtain⟨bn,kn,cb,co,ap,kp,hc⟩:=h.cel i hi;have CE:=hide hc;have QC:=hide (fun(W:World) (xW:Ext w W)=>half_short ((unhide R).ext xW) ((unhide D).ext xW) ha ((unhide CE).ext xW) hk ea hi (by omega));have HL:=hide (show(x.c i).prs.length≤c by omega);clear h s hd hr hk ea en hI hc st nd hl;go_enter Tryz.func297,Tryz.ntmps297;go_wp2_with fail;refine(unhide QF _ (Ext.refl w)).mono ?_;rintro e w5 ⟨rfl,x5⟩;go_wp2_with fail;refine(unhide QC _ x5).mono ?_;rintro e w6 ⟨rfl,x6⟩;have X6:=hide (x5.trans x6);clear x5 x6;go_wp2_with fail;go_ret2;exact⟨x,3,0,rfl,.inr (.inl ⟨unhide HK,by rw[←unhide HI];exact unhide HL,rfl,rfl,rfl⟩),((unhide H).wide (show C≤C+64000 by omega)).ext (unhide X6),hx.trans (unhide X6)⟩
 ·have HK:=hide hk;have QC:=hide (fun(W:World) (xW:Ext w W)=>half_no ((unhide R).ext xW) ((unhide D).ext xW) ha hk);clear h s hd hr hk;go_enter Tryz.func297,Tryz.ntmps297;go_wp2_with fail;refine(unhide QF _ (Ext.refl w)).mono ?_;rintro e w5 ⟨rfl,x5⟩;go_wp2_with fail;refine(unhide QC _ x5).mono ?_;rintro e w6 ⟨rfl,x6⟩;have X6:=hide (x5.trans x6);clear x5 x6;go_wp2_with fail;go_ret2;exact⟨x,2,0,rfl,.inl ⟨unhide HK,rfl,rfl,rfl⟩,((unhide H).wide (show C≤C+64000 by omega)).ext (unhide X6),hx.trans (unhide X6)⟩
theorem way_8[Inhabited ProtD]{C B:Nat}{w:World}{b bd:Nat}{x:Hp}{a p c:Nat}{n:Int}{rv:Value}(h:SOq C B w b x)(s:Snd x)(hd:(default:ProtD).z bd=some (deedO b 8 a p c n rv))(ha:a<16)(hp:p<16)(v:World)(hv:v.heap.size≤B)(hx:Ext v w):
  Calls Tryz.prog 297 #[.pointer (some ⟨bd,0,none⟩)] w fun e w'=>WayPost C B b x a p c n 8 v e w':=by
 have D:=hide (Deed.of (h.obj hd));have H:=hide h;have S:=hide s;have hdz:=hd;obtain⟨br,kr,hr⟩:=h.regs s;have R:=hide hr;obtain⟨d0,d1,d2,d3,d4,d5,d6⟩:=unhide D;have hdw:bd<w.heap.size:=cell_lt d0;have QF:=hide (fun(W:World) (xW:Ext w W)=>dA_any ((unhide R).ext xW) ((unhide D).ext xW) ha);by_cases hk:(x.r a).k=2
 ·obtain⟨en,ea,hi,st,nd⟩:=s.at a ha hk;obtain⟨i,hI⟩:∃i,i=x.at a:=⟨_,rfl⟩;have HI:=hide hI;rw[←hI] at ea hi st nd;have HK:=hide hk;have ND:=hide nd;by_cases hl:c<(x.c i).prs.length
  ·obtain⟨bn,kn,cb,co,bp,kp,hs,ps⟩:=h.prw i hi c hl;have SP:=hide hs;have PS:=hide ps;have QC:=hide (fun(W:World) (xW:Ext w W)=>half_val ((unhide R).ext xW) ((unhide D).ext xW) ha (SPr.ext (unhide SP) xW) hk ea hi hl (.inr rfl));have QB:=hide (fun(W:World) (xW:Ext w W)=>dB_any ((unhide R).ext xW) ((unhide D).ext xW) hp);obtain⟨yy,hyy⟩:∃y,y=x.r p:=⟨_,rfl⟩;have HY:=hide hyy;obtain⟨r0,r1,r2⟩:=hr.r p hp;rw[←hyy] at r0 r1 r2;have LY:=hide (show Leads x yy False from by rw[hyy];exact s.reg p hp);have hbr:br<w.heap.size:=cell_lt r0;obtain⟨e0,e1,e2,e3,e4,e5⟩:=hs.pr;have fp:=hs.f;have hbB:=hs.lo.1;have hbp:bp<w.heap.size:=cell_lt e0;have HL:=hide hl;clear h s hd hr hk ea en hI hs ps st nd hyy;go_enter Tryz.func297,Tryz.ntmps297;go_wp2_with fail;refine(unhide QF _ (Ext.refl w)).mono ?_;rintro e w5 ⟨rfl,x5⟩;go_wp2_with fail;refine(unhide QC _ x5).mono ?_;rintro e w6 ⟨rfl,x6⟩;have x56:=x5.trans x6;go_wp2_with fail;refine(unhide QB _ x56).mono ?_;rintro e w7 ⟨rfl,x7⟩;have x57:=x56.trans x7;have X7:=hide x57;have k0:=x57.keep r0;have k1:=x57.keep r1;have k2:=x57.keep r2;have l0:=x57.keep e0;have l1:=x57.keep e1;have l2:=x57.keep e2;have l3:=x57.keep e3;have l4:=x57.keep e4;have l5:=x57.keep e5;have lf:=fun m=>((bcell x57).2 bp m hbp).trans (fp m)
   have hb7:br<w7.heap.size:=cell_lt k0;have hp7:bp<w7.heap.size:=cell_lt l0;obtain⟨W8,hW8⟩:∃W,W=wordO w7 bp (c*6+3) yy:=⟨_,rfl⟩;have PS8:=hide (unhide PS 3 yy _ (.inr ⟨rfl,rfl⟩) w7 W8 x57 (by rw[hW8];exact Ext.refl _));have X8:=hide (show Ext v W8 by rw[hW8];exact(wordO_only w7 bp (c*6+3) yy).ext (hx.trans x57) (fun q hq e=>by omega));unfold wordO at hW8;clear x5 x6 x56 x7 x57 r0 r1 r2 e0 e1 e2 e3 e4 e5 d0 d1 d2 d3 d4 d5 d6 fp;have PX:=hide (fun(W2:World) (e8:Ext W8 W2)=>unhide PS 3 yy _ (.inr ⟨rfl,rfl⟩) w7 W2 (unhide X7) (by rw[show wordO w7 bp (c*6+3) yy=W8 from by rw[hW8];rfl];exact e8));obtain⟨z,hz⟩:∃z,z=setcH x i (valC (x.c i) c yy):=⟨_,rfl⟩;have HZ:=hide hz;rw[←hz] at PS8 PX
   have ZB:=hide (show ∀t,shadeB z t=shadeB x t from fun t=>by
    rw[hz];unfold shadeB
    have e:whB ((setcH x i (valC (x.c i) c yy)).c t)=whB (x.c t):=by
     show whB (({ x with cells:=x.cells.set i _ }:Hp).c t)=_;rw[Hp.c_set x i _ hi t];by_cases e:t=i
     ·rw[if_pos e,e];rfl
     ·rw[if_neg e]
    rw[e];rfl)
   clear hz PS;go_wp2_with fail;rw[←hW8];clear hW8 k0 k1 k2 l0 l1 l2 l3 l4 l5 lf hb7 hp7;obtain⟨⟨y0,y1,y2⟩,h8,⟨kn8,n13⟩,_⟩:=unhide PS8;have H8:=hide h8;have d0:=(Deed.of (h8.obj hdz)).d0;have hd8:bd<W8.heap.size:=cell_lt d0;have hp8:bp<W8.heap.size:=cell_lt y0;clear h8 PS8;by_cases k2:yy.k=2
   ·obtain⟨t,ht,hta⟩:∃t:Nat,t<x.cells.length∧yy.a=(t:Int):=by
     have l:=(unhide LY).1;unfold Formed at l;exact⟨yy.a.toNat,by omega,by omega⟩
    have QN:=hide (fun(W:World) (xW:Ext W8 W)=>find_some ⟨yy.k,yy.n,(t:Int)⟩ b x.cells.length bn 0 kn8 t W (by simpa using k2) (xW.keep n13) ht);simp only [Nat.zero_add] at QN;have QS:=hide (fun(W:World) (xW:Ext W8 W)=>(unhide PX W xW).2.2.2 v t ht hv ((unhide X8).trans xW) (fun q=>(gray_fit (unhide S).ok).2 t ht (by rw[←unhide ZB t];exact q)));rw[hta] at y2;have EW:=hide (show shadeH z t=shadeW z yy from by unfold shadeW;rw[if_pos (by simpa using k2),hta];simp);clear k2 hta;go_region_with (first | (go_at_call 82;refine(unhide QS _ xwA).mono ?_;rintro e w9 ⟨rfl,h9,x9⟩;have H9:=hide ((unhide h9).wide (show C≤C+64000 by omega));have X9:=hide x9;clear h9 x9) | (go_at_call 199;refine(unhide QN _ (Ext.refl W8).drew).mono ?_;rintro e wA ⟨rfl,xA⟩;have xwA:=Ext.trans (Ext.refl W8).drew xA;have o0:=xwA.keep d0;have hdA:bd<wA.heap.size:=cell_lt o0;clear xA))
    all_goals
     go_wp2_with fail;go_ret2;exact⟨_,0,0,rfl,.inr (.inr ⟨unhide HK,by rw[←unhide HI];exact unhide HL,by rw[←unhide HI];show shadeH z t=shadeW (setcH x i (valC (x.c i) c (x.r p))) (x.r p);rw[←unhide HY,←unhide HZ,unhide EW],rfl,rfl⟩),unhide H9,unhide X9⟩
   ·have QN:=hide (fun(W:World)=>find_none yy b W (by simpa using k2));have EW:=hide (show z=shadeW z yy from by unfold shadeW;rw[if_neg (by simpa using k2)]);clear k2;go_region_with (first | (go_at_call 82;refine(sshade_nil b _).mono ?_;rintro e w9 ⟨rfl,rfl⟩) | (go_at_call 199;refine(unhide QN _).mono ?_;rintro e wA ⟨rfl,xA⟩;have xwA:=Ext.trans (Ext.refl W8).drew xA;have o0:=xwA.keep d0;have hdA:bd<wA.heap.size:=cell_lt o0;clear xA))
    all_goals
     go_wp2_with fail;go_ret2;exact⟨_,0,0,rfl,.inr (.inr ⟨unhide HK,by rw[←unhide HI];exact unhide HL,by rw[←unhide HI];show z=shadeW (setcH x i (valC (x.c i) c (x.r p))) (x.r p);rw[←unhide HY,←unhide HZ];exact unhide EW,rfl,rfl⟩),((unhide H8).wide (show C≤C+64000 by omega)).ext xwA,(unhide X8).trans xwA⟩
  ·obtain⟨bn,kn,cb,co,ap,kp,hc⟩:=h.cel i hi;have CE:=hide hc;have QC:=hide (fun(W:World) (xW:Ext w W)=>half_short ((unhide R).ext xW) ((unhide D).ext xW) ha ((unhide CE).ext xW) hk ea hi (by omega));have HL:=hide (show(x.c i).prs.length≤c by omega);clear h s hd hr hk ea en hI hc st nd hl;go_enter Tryz.func297,Tryz.ntmps297;go_wp2_with fail;refine(unhide QF _ (Ext.refl w)).mono ?_;rintro e w5 ⟨rfl,x5⟩;go_wp2_with fail;refine(unhide QC _ x5).mono ?_;rintro e w6 ⟨rfl,x6⟩;have X6:=hide (x5.trans x6);clear x5 x6;go_wp2_with fail;go_ret2;exact⟨x,3,0,rfl,.inr (.inl ⟨unhide HK,by rw[←unhide HI];exact unhide HL,rfl,rfl,rfl⟩),((unhide H).wide (show C≤C+64000 by omega)).ext (unhide X6),hx.trans (unhide X6)⟩
 ·have HK:=hide hk;have QC:=hide (fun(W:World) (xW:Ext w W)=>half_no ((unhide R).ext xW) ((unhide D).ext xW) ha hk);clear h s hd hr hk;go_enter Tryz.func297,Tryz.ntmps297;go_wp2_with fail;refine(unhide QF _ (Ext.refl w)).mono ?_;rintro e w5 ⟨rfl,x5⟩;go_wp2_with fail;refine(unhide QC _ x5).mono ?_;rintro e w6 ⟨rfl,x6⟩;have X6:=hide (x5.trans x6);clear x5 x6;go_wp2_with fail;go_ret2;exact⟨x,2,0,rfl,.inl ⟨unhide HK,rfl,rfl,rfl⟩,((unhide H).wide (show C≤C+64000 by omega)).ext (unhide X6),hx.trans (unhide X6)⟩
theorem told_soq[Inhabited ProtD]{C B:Nat}{w:World}{b:Nat}{y:Hp}(h:SOq C B w b y)(s:Snd y)(hB:B≤w.heap.size):
  Calls Tryz.prog 59 #[.pointer (some ⟨b,0,none⟩)] w fun e w'=>∃br kr bcN bgN pb pa pk,e=.returned (y.v (.slice (some ⟨br,0,none⟩) y.regs.length kr) (.slice (some ⟨bcN,0,none⟩) y.cells.length y.cells.length) (.slice (some ⟨bgN,0,none⟩) y.gray.length y.gray.length))∧Hid (HRow B w'.heap.size w' y br kr bcN y.cells.length bgN y.gray.length pb pa pk)∧Ext w w':=by
 obtain⟨ar,kr,a4,n4,k4,a8,m8,k8,br,cB,cO,bn,pb,pa,pk,kn,hd,vf,F,vk,K,role,h,_,_⟩:=h;have h1:=s.r1.gray;have h2:=s.ok.n8;refine(told_any w h s.r5.2.2 s.ok.r16.1 ⟨s.ok.r16.2,h2,by omega,s.ok.p200⟩ hB).mono ?_;rintro e w' ⟨bcN,bgN,rfl,h6,x6⟩;exact⟨br,kr,bcN,bgN,pb,pa,pk,rfl,h6,x6⟩
end Go.Proofs.YtddkhnclmeikfaaGreat
