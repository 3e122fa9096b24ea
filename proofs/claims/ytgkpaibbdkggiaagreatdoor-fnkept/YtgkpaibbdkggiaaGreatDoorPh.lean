import Derived.Test.YtgkpaibbdkggiaaGreatDoorWh3
set_option maxRecDepth 100000
set_option maxHeartbeats 4000000
namespace Go.Proofs.YtgkpaibbdkggiaaGreatDoor
open Go.RowKit Tryz
attribute [local go_sem ↓] Go.wp_at_zero Go.wp_at_succ
theorem c8v[qr]{B:Nat}{w:World}{b:Nat}{x:Hp}{ar:Option Addr}{kr:Nat}{v4 v8:Value}{br bn:Nat}{cB cO:Nat->Nat}{pb:Nat->Nat}{pa:Nat->Option Addr}{pk:Nat->Nat}{kn hd:Nat}{vf:Value}{F:List Int}{vk:Value}{K:List Nat}{role:Nat->Nat}(h:SAt B w b x ar kr v4 v8 br cB cO bn pb pa pk kn hd vf F vk K role)(hp:x.E=5)(i:Nat)(hi:x.I=(i:Int))(d:i<x.A.length)(k:Nat)(hk:x.sub=(k:Int))(u:k<(x.c i).F.length)(q2:R2 x)(F1:uJ ((x.c i).p k).key x.A.length)(F2:uJ ((x.c i).p k).val x.A.length)(a:World)(ha:a.heap.size<=B)(hx:Ext a w):
  Calls prog 279 #[.agg #[pP b]] w λe w'=>e=.returned (yY (dK x).E b)/\Hid (SAt B w' b (dK x) ar kr v4 v8 br cB cO bn pb pa pk kn hd vf F vk K role)/\Ext a w':=by
 have ei:x.I.toNat=i:=by omega
 have E:=uU (show dK x={ x with A:=x.A.set i (zK x (x.c i) k),sub:=(k:Int)+1 } by
  have ek:x.sub.toNat=k:=by omega
  unfold dK;rw[if_neg (by omega),ei,if_pos (by omega),ek,hk])
 have EP:=uU (show(dK x).E=5 by rw[uH E];exact hp);have H:=uU h;have P:=(hO w).alloc (.cells #[pP b] 214);have z:=h.sb.bx.2.2.2.2.2.2.1;rw[hi]at z;have QA:=uU (a0w b x.A.length kn bn i _ (P.keep z) (P.keep h.sb.n13) d);have I:=uU P;have ah:b<w.heap.size:=h.sb.nb.1;have lo:=h.sb.lo.1;have HI:=uU (kG hi hk);have kk:(k:Int)<((x.c i).F.length:Int):=by omega
 have k0:=i0N k;have ae:(x.c i).F.length<=200:=by
  have:=q2.1 i d;unfold cQ qD a2m a5d at this;omega
 have L:=uU (kG q2 (kG F1 F2));clear q2 F1 F2;clear h hp P ei hi z hk;go_in;go_wp21;refine QA.mono ?_;rintro e t ⟨rfl,x1⟩;have r0:t.cell? (aA w.heap.size 0)=some (pP b):=x1.keep (by simp[go_sem]);have X1:=uU (I.trans x1);have n:=uU (H.ext X1);have m1:=(n.sb.nd i d).2;have p7:=n.rw.p7 i d;have z:t.cell? (aA b 6)=some (iv i):=by have:=n.sb.bx.2.2.2.2.2.2.1;rw[HI.1]at this;exact this
 have c7:t.cell? (aA b 7)=some (iv k):=by have:=n.sb.bx.2.2.2.2.2.2.2.1;rw[HI.2]at this;exact this
 have f6:=n.sb.nb.2 6;have f7:=n.sb.nb.2 7;have D:=cLt z;have T:=cLt r0;have af:¬b=w.heap.size:=by omega
 have ai:¬w.heap.size=b:=by omega
 rw[(H.rw.pl i d (H.rw.pw d (by omega))).1]at p7;obtain⟨y0,y1,y2,y3,y4,ad⟩:=n.rw.p i d k u;have fp:=(n.rw.pl i d (n.rw.pw d (by omega))).2.1.2;have V:pb i<t.heap.size:=uQ y0;clear x1 I QA;go_wp21;go_quiet (fail);obtain⟨ac,rfl⟩:∃m,m=nq:=⟨_,rfl⟩;go_wp21;go_quiet (fail);go_wp21;obtain⟨v,y⟩:∃W,W=(t.drewN ac).drewN nq:=⟨_,rfl⟩;have M:Ext t v:=by rw[y];exact((hO t).drewN _).drewN _
 rw[<-y];clear y;have l:=uU (n.ext M);have Y:=uU (M.keep r0);have Z:=uU (hx.trans (X1.trans M));obtain⟨R,z1,U,X,z4,z5⟩:=l.rw.p i d k u;have aa:=cLt Y;have s0:=uH Y;have ab:b<v.heap.size:=kF D M.size;have G:pb i<v.heap.size:=uQ R;obtain⟨s,C⟩:∃r,r=zL x ((x.c i).p k).key:=⟨_,rfl⟩;obtain⟨o,J⟩:∃r,r=zL x ((x.c i).p k).val:=⟨_,rfl⟩;have Q:=uU (kG C J);have FN:=uU (show ∀W,Ext v W->SAt B (yJ W (pb i) (k*6) ⟨s,o⟩) b { x with A:=x.A.set i (zK x (x.c i) k) } ar kr v4 v8 br cB cO bn pb pa pk kn hd vf F vk K role/\Ext a (yJ W (pb i) (k*6) ⟨s,o⟩)/\(yJ W (pb i) (k*6) ⟨s,o⟩).cell? (aA w.heap.size 0)=some (pP b) from λW xw=>by
  have N:=l.ext xw;have g1:=N.setp i d k u ⟨s,o⟩ (a1z W (pb i) (k*6) ⟨s,o⟩) (b4x (N.rw.pl i d (N.rw.pw d (by omega))).2.1.n1 _ _) (b4w W (pb i) (k*6) ⟨s,o⟩ _ (N.rw.p i d k u)) (λj hj=>a7a W (pb i) (k*6) ⟨s,o⟩ j hj);have e:({ x.c i with F:=(x.c i).F.set k ⟨s,o⟩ }:Cl)=zK x (x.c i) k:=by unfold zK;rw[Q.1,Q.2]
  rw[e]at g1;have al:=(l.rw.pl i d (l.rw.pw d (by omega))).2.2.2;have am:pb i<w.heap.size:=(H.rw.pl i d (H.rw.pw d (by omega))).2.1.1;have c0:=xw.keep Y;exact⟨g1,(a1z W (pb i) (k*6) ⟨s,o⟩).ext (Z.trans xw) (λq hq e=>by omega),(cOb w.heap.size 0 ((a1z W (pb i) (k*6) ⟨s,o⟩).block w.heap.size (uQ c0) (by omega))).trans c0⟩)
 unfold yJ at FN;have NB:=uU (show ¬b=pb i from λe=>by have h1:=l.sp.b;have h2:=l.sp.p i d (l.rw.pw d (by omega));rw[e]at h1;omega);clear C J y0 y1 y2 y3 y4 ad z c7 f6 f7 m1 p7 r0 D T V fp;go_cut [] (λS=>Hid (SAt B S b { x with A:=x.A.set i (zK x (x.c i) k) } ar kr v4 v8 br cB cO bn pb pa pk kn hd vf F vk K role)/\Hid (Ext a S)/\Hid (S.cell? (aA w.heap.size 0)=some (pP b)))
 case first=>
  go_region_with (first|(have _:=LK;go_at_call 221;refine(b5p (H3.ext (hO w3)) L.1 ((x.c i).p k).val L.2.2).mono ?_;rintro e w4 ⟨rfl,x4⟩;rw[<-Q.2];have g:=kI X3 x4;have u0:=g.keep R;have u1:=g.keep z1;have u2:=g.keep U;have u3:=g.keep X;have u4:=g.keep z4;have u5:=g.keep z5;have t0:=g.keep s0;have uf:=λm=>((cE g).2 (pb i) m G).trans ((l.rw.pl i d (l.rw.pw d (by omega))).2.1.2 m);have X4:=uU g;clear x4 g)|(go_at_call 221;refine(b5p (l.ext (eDr v)) L.1 ((x.c i).p k).key L.2.1).mono ?_;rintro e w3 ⟨rfl,x3⟩;rw[<-Q.1];have LK:=True.intro;have f:=kI (eDr v) x3;have X3:=uU f;have H3:=uU (l.ext f);have v0:=f.keep R;have v1:=f.keep z1;have v2:=f.keep U;have v3:=f.keep X;have ak:=f.keep z4;have v5:=f.keep z5;have q0:=f.keep s0;clear x3 f))
  all_goals
   go_wp21;go_meet;exact FN _ X4
 case rest=>
  obtain⟨O,A,s3⟩:=hcut;have t0:=uH s3;have d7:wc.cell? (aA b 7)=some (iv k):=by have:=O.sb.bx.2.2.2.2.2.2.2.1;rw[<-HI.2];exact this
  have g7:=O.sb.nb.2 7;have aj:=cLt d7;have ag:=cLt t0;have FM:=uU (O.subs ((k:Int)+1));have XM:=uU (A.sc b 7 (show a.heap.size<=b by omega) (iv ((k:Int)+1)));clear s3 O A s0 aa ab G R z1 U X z4 z5;go_wp21;go_ret;exact⟨by rw[uH EP];rfl,by rw[uH E];exact uH FM,XM⟩
