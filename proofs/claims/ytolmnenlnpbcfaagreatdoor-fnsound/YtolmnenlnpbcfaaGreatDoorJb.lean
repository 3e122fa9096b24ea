import Derived.Test.YtolmnenlnpbcfaaGreatDoorDn3
import Derived.Test.YtolmnenlnpbcfaaGreatDoorQe
set_option maxRecDepth 100000
set_option maxHeartbeats 2000000
namespace Go.Proofs.YtolmnenlnpbcfaaGreatDoor
open Go.RowKit Go.Proofs.Tryz
attribute [local go_sem ↓] Go.wp_at_zero Go.wp_at_succ
variable{x z:Hp}{B b C bd a p c kr br bn kn hd:Nat}{w:World}{n:Int}{rv v4 v8 vf vk:Value}{ar:Option Addr}{cB cO pb pk role:Nat->Nat}{pa:Nat->Option Addr}{F:List Int}{K:List Nat}
def goH(x:Hp)(H:Nat->Bool)(i:Nat)(z:Hp):Hp:={ z with A:=z.A.set i (a7e x H (x.c i)),K:=z.K-eE x H (x.c i) (x.c i).F,sub:=zZ x H i z.sub }
structure ZIs(x z:Hp)(i:Nat):Prop where
 len:z.A.length=x.A.length
 st:∀q,(z.c q).st=(x.c q).st/\(z.c q).to=(x.c q).to
 ci:z.c i=x.c i
 hi:i<x.A.length
 sc:uV z=uV x
 hh:0<=z.I/\z.I<=z.A.length
 hg:∀g,g∈z.D->0<=g/\g<z.A.length
 sb:uV x=(i:Int)->0<=z.sub/\z.sub<=(x.c i).F.length
 us:-2000000<=z.K/\z.K<=2000000
 p2:(x.c i).F.length<=200
theorem d0i[qd](h:SAt B w b z ar kr v4 v8 br cB cO bn pb pa pk kn hd vf F vk K role)(r:Nat)(u:List Nat)(i:Nat)(hm:tD w r bn (u.map (λi=>i*2)))(ap:r<w.heap.size)(hr:r≠b/\(∀j,j<x.A.length->r≠cB j)/\r≠bn/\(0<(x.c i).F.length->r≠pb i))(Z:ZIs x z i)(r2:R2 x)(J:∀k,k<(x.c i).F.length->a0m x ((x.c i).p k).key/\a0m x ((x.c i).p k).val)(ao:(x.c i).F.length<=pk i)(a:World)(ha:a.heap.size<=B)(hx:Ext a w):
  Calls prog 102 #[pP b,ndp bn i,.map (some r)] w λe w'=>Hid (e=.returned (iv (eE x (λi=>decide (i∈u)) (x.c i) (x.c i).F)))/\Hid (SAt B w' b (goH x (λi=>decide (i∈u)) i z) ar kr v4 v8 br cB cO bn pb pa pk kn hd vf F vk K role)/\Hid (tD w' r bn (u.map (λi=>i*2))/\r<w'.heap.size)/\Ext a w':=by
 obtain⟨H,hH⟩:=obE (λi=>decide (i∈u):Nat->Bool);rw[<-hH];have HH:=uU hH;clear hH;have bm:b<w.heap.size:=h.sb.nb.1;have bj:cB i<w.heap.size:=(h.rw.nc i (by rw[Z.len];exact Z.hi)).1.1;have bo:bn<w.heap.size:=h.sb.lo.2.2.1;have ab:0<(x.c i).F.length->pb i<w.heap.size:=λq=>(h.rw.pl i (by rw[Z.len];exact Z.hi) (h.rw.pw (by rw[Z.len];exact Z.hi) (by rw[Z.ci];exact q))).2.1.1
 have X4:Ext w ((((w.alloc (.cells #[pP b] 75)).alloc (.cells #[ndp bn i] 111)).alloc (.cells #[.map (some r)] 136)).alloc (.cells #[.func (.func 166) #[] #[pP w.heap.size,pP (w.heap.size+1+1)]] 186)):=((((eAl w _).alloc _).alloc _).alloc _);have N:=uU (show Bxs ((((w.alloc (.cells #[pP b] 75)).alloc (.cells #[ndp bn i] 111)).alloc (.cells #[.map (some r)] 136)).alloc (.cells #[.func (.func 166) #[] #[pP w.heap.size,pP (w.heap.size+1+1)]] 186)) b r w.heap.size (w.heap.size+1+1) (w.heap.size+1) (w.heap.size+1+1+1) bn i u from
  ⟨by simp[go_sem],by simp[go_sem],by simp[go_sem],by simp[go_sem],hm.block (X4.block r ap),kF ap X4.size⟩)
 have S4:=uU (h.ext X4);have aa:=uU (hx.trans X4);have f:=uU Z;have ag:=uU r2;have HK:=uU J;have EN:=uU (λW=>d4k (bn:=bn) i (b6d Z.hh Z.hg) W);go_in;go_wp21;obtain⟨W4,ai⟩:∃W,W=((((w.alloc (.cells #[pP b] 75)).alloc (.cells #[ndp bn i] 111)).alloc (.cells #[.map (some r)] 136)).alloc (.cells #[.func (.func 166) #[] #[pP w.heap.size,pP (w.heap.size+1+1)]] 186)):=⟨_,rfl⟩;rw[<-ai]at N S4 aa X4 ⊢;clear ai h hm hx Z r2 J;have cs:=N.s;have T:=N.n;have ac:=cLt cs;have U:w.heap.size+1<W4.heap.size:=uZ T;go_cut [18] (λaq O=>aq=.bool (decide (uV x=(i:Int)))/\Hid (SAt B O b z ar kr v4 v8 br cB cO bn pb pa pk kn hd vf F vk K role)/\Hid (Bxs O b r w.heap.size (w.heap.size+1+1) (w.heap.size+1) (w.heap.size+1+1+1) bn i u)/\Hid (Ext a O))
 case first=>
  have en:=uH EN;go_region_with (go_at_call 171;refine(b0x (S4.ext (eDr W4)) f.hh f.hg).mono ?_;rintro e w5 ⟨rfl,q5⟩;have x5:=kI (eDr W4) q5;have dn:=x5.keep T;have cc:w.heap.size+1<w5.heap.size:=uZ dn;clear q5);all_goals
   go_wp21;go_meet;exact⟨by rw[f.sc],S4.ext x5,N.ext x5,aa.trans x5⟩
 case rest=>
  clear cs T ac U S4 N aa EN;obtain⟨rfl,S5,B5,X5⟩:=hcut;obtain⟨W5,az⟩:∃W,W=wc:=⟨_,rfl⟩;subst az;go_upto_if 18 with(fail);go_cut [] (λO=>Hid (SAt B O b { z with sub:=zZ x H i z.sub } ar kr v4 v8 br cB cO bn pb pa pk kn hd vf F vk K role)/\Hid (Bxs O b r w.heap.size (w.heap.size+1+1) (w.heap.size+1) (w.heap.size+1+1+1) bn i u)/\Hid (Ext a O))
  case first=>
   by_cases I:uV x=(i:Int)
   ·rw[decide_eq_true I];have cs:=B5.s;have T:=B5.n;have ac:=cLt cs;have U:w.heap.size+1<W5.heap.size:=uZ T;have d:i<z.A.length:=by rw[f.len];exact f.hi
    have m1:=(S5.sb.nd i d).2;have p7:=S5.rw.p7 i d;rw[f.ci]at p7;have c7:=S5.sb.bx.2.2.2.2.2.2.2.1;have ax:=f.sb I;have an:=f.p2;obtain⟨n,hn⟩:∃n:Nat,z.sub=(n:Int):=⟨z.sub.toNat,by omega⟩;have ak:=uU hn;have bb:=uU (show zZ x H i z.sub=z.sub-eE x H (x.c i) ((x.c i).F.take n) by unfold zZ;rw[if_pos I,hn];simp);rw[hn]at c7;have cf:n<=(x.c i).F.length:=by omega
    have n0:=i0N n;have n1:(n:Int)<=(pk i:Int):=by omega
    have ae:=cLt m1;have al:cB i<W5.heap.size:=uZ p7;have bf:=cLt c7;clear hn I ax;go_wp21;go_quiet (fail);go_wp21;go_loopw [34] (λk wr=>∃j:Nat,j<=n/\k=iv j/\Hid (SAt B wr b { z with sub:=z.sub-eE x H (x.c i) ((x.c i).F.take j) } ar kr v4 v8 br cB cO bn pb pa pk kn hd vf F vk K role)/\Hid (Bxs wr b r w.heap.size (w.heap.size+1+1) (w.heap.size+1) (w.heap.size+1+1+1) bn i u)/\Hid (Ext a wr)) (λk _=>n-(intOf k).toNat)
    case atStart=>exact⟨0,kB _,rfl,by
     have e:({ z with sub:=z.sub-eE x H (x.c i) ((x.c i).F.take 0) }:Hp)=z:=by simp[eE]
     rw[e];exact S5.ext ((hO _).drewN _),B5.ext ((hO _).drewN _),X5.trans ((hO _).drewN _)⟩
    case round=>
     clear cs T ac U m1 p7 c7 ae al bf S5 B5 X5;obtain⟨j,hj,rfl,hS,hB,hX⟩:=hrel;by_cases bp:j<n
     ·have M:j<(x.c i).F.length:=by omega
      have aw:=(hS.rw.pl i d (hS.rw.pw d (by show 0<(z.c i).F.length;rw[f.ci];omega))).1;have pp:=hS.rw.p i d j (by show j<(z.c i).F.length;rw[f.ci];exact M);have A:({ z with sub:=z.sub-eE x H (x.c i) ((x.c i).F.take j) }:Hp).c i=x.c i:=f.ci;rw[A]at pp;obtain⟨y,hy⟩:=obE ((x.c i).p j);rw[<-hy]at pp;obtain⟨e0,e1,V,e3,e4,e5⟩:=pp;have bw:pb i<wr.heap.size:=uZ e0;have ce:=i0N j;have bt:(j:Int)<(n:Int):=by omega
      have xa:=(hO wr).alloc (oPr y);have GA:=uU ((hS.ext xa).goat (hB.ext xa) f.len f.st d (by show(z.c i).T=_;rw[f.ci]));have C:=uU (c3b x y b r _ _ _ _ bn kn i (acB cB cO) u _ GA ag (by rw[hy];exact(HK j M).1) (by rw[hy];exact(HK j M).2));rw[<-uH HH]at C;have GT:=uU (show eE x H (x.c i) ((x.c i).F.take (j+1))=eE x H (x.c i) ((x.c i).F.take j)+if goB x H (x.c i) y=true then 1 else 0 by
       rw[hy,<-Cl.p_eq _ _ M,kj M,c1u,a2x];split <;> simp[eE])
      have GL:=a5w x H (x.c i) ((x.c i).F.take j);have bh:((x.c i).F.take j).length<=200:=by rw[mn];omega
      clear hy A GA;rw[aw];go_wp21;refine C.mono ?_;rintro e w6 ⟨rfl,q6⟩;have x6:=xa.trans q6;have g:=uU (hS.ext x6);have X:=uU (hB.ext x6);have X6:=uU (hX.trans x6);cases t:goB x H (x.c i) y
      ·have G:=uU (show eE x H (x.c i) ((x.c i).F.take (j+1))=eE x H (x.c i) ((x.c i).F.take j) by rw[uH GT,t];simp);clear GT e0 e1 V e3 e4 e5;go_wp21;go_roundw
       case rel=>exact⟨j+1,by omega,by go_num,by rw[uH G];exact uH g,X,X6⟩
       simp[intOf];omega
      have G:=uU (show(eE x H (x.c i) ((x.c i).F.take (j+1)):Int)=(eE x H (x.c i) ((x.c i).F.take j):Int)+1 by rw[uH GT,t];simp);have d7:=g.sb.bx.2.2.2.2.2.2.2.1;have f7:=g.sb.nb.2 7;have ds:=X.s;have cb:=cLt d7;have cg:=cLt ds;have wd:=a5a (z.sub-eE x H (x.c i) ((x.c i).F.take j)-1) (by have:=uH ak;omega) (by have:=uH ak;omega);have R:=uU (show SAt B (w6.setCell (aA b 7) (iv (z.sub-eE x H (x.c i) ((x.c i).F.take j)-1))) b { z with sub:=z.sub-eE x H (x.c i) ((x.c i).F.take (j+1)) } ar kr v4 v8 br cB cO bn pb pa pk kn hd vf F vk K role/\Bxs (w6.setCell (aA b 7) (iv (z.sub-eE x H (x.c i) ((x.c i).F.take j)-1))) b r w.heap.size (w.heap.size+1+1) (w.heap.size+1) (w.heap.size+1+1+1) bn i u/\Ext a (w6.setCell (aA b 7) (iv (z.sub-eE x H (x.c i) ((x.c i).F.take j)-1))) from by
       refine⟨?_,X.blocks (by simp[World.setCell]) (λq hq au=>kP _ _ _ _ (by show q≠b;have:=hr.1;omega)),X6.sc b 7 (kA ha g.sb.lo.1) _⟩;have:=g.subs (z.sub-eE x H (x.c i) ((x.c i).F.take j)-1);have e:({ z with sub:=z.sub-eE x H (x.c i) ((x.c i).F.take (j+1)) }:Hp)={ z with sub:=z.sub-eE x H (x.c i) ((x.c i).F.take j)-1 }:=by rw[uH G];congr 1;omega
       rw[e];exact this)
      clear GT e0 e1 V e3 e4 e5;go_wp21;go_roundw
      case rel=>exact⟨j+1,by omega,by go_num,R.1,R.2.1,R.2.2⟩
      simp[intOf];omega
     have je:j=n:=by omega
     subst je;go_wp21;go_meet;exact⟨by rw[uH bb];exact uH hS,hB,hX⟩
   rw[decide_eq_false I];have E:=uU (show zZ x H i z.sub=z.sub by unfold zZ;rw[if_neg I]);go_wp21;go_meet;exact⟨by rw[uH E];exact uH S5,B5,X5⟩
  case rest=>
   clear S5 B5 X5;obtain⟨g,X,X6⟩:=hcut;obtain⟨v,bc⟩:∃W,W=wc:=⟨_,rfl⟩;subst bc;have T:=X.n;have d:i<z.A.length:=by rw[f.len];exact f.hi
   have m1:=(g.sb.nd i d).2;have p7:=g.rw.p7 i d;have A:({ z with sub:=zZ x H i z.sub }:Hp).c i=x.c i:=f.ci;rw[A]at p7;have an:=f.p2;have U:w.heap.size+1<v.heap.size:=uZ T;have bi:=cLt m1;have bg:cB i<v.heap.size:=uZ p7;have Q:0<(x.c i).F.length->pb i≠b/\pb i≠bn/\∀j,j<x.A.length->pb i≠cB j:=λq=>by
    have q0:0<(({ z with sub:=zZ x H i z.sub }:Hp).c i).F.length:=by rw[A];exact q
    have h1:=g.sp.p i d (g.rw.pw d q0);have h2:=g.sp.b;have h3:=g.sp.n;refine⟨λe=>?_,λe=>?_,λj hj=>(g.rw.pl i d (g.rw.pw d q0)).2.2.1.2 j (by rw[<-f.len]at hj;exact hj)⟩ <;> rw[e]at h1 <;> omega
   have ad:i<x.A.length:=f.hi;have P:0<(x.c i).F.length->pb i≠cB i:=λq=>(Q q).2.2 i ad
   have AN:=uU (show Ans2 (goB x H (x.c i)) (x.c i).F (w.heap.size+1) (w.heap.size+1+1+1) (pb i) (λW=>b7d W b r w.heap.size (w.heap.size+1+1) (w.heap.size+1) (w.heap.size+1+1+1) x (acB cB cO) bn kn u i) from
    ⟨λW hW k J=>by
     have:=c3b x (x.c i).F[k] b r _ _ _ _ bn kn i (acB cB cO) u W hW ag (by rw[Cl.p_eq _ _ J];exact(HK k J).1) (by rw[Cl.p_eq _ _ J];exact(HK k J).2);rw[<-uH HH]at this;exact this,λW W' hW e=>hW.ext e,λh0 W W' hW o=>hW.only ad o (λq hq e=>by
     have h1:=ab h0;have h2:=Q h0;have h3:=hr.2.2.2 h0;obtain h|h|h|h|h|h|h:=hq <;> omega) (λj hj e=>(Q h0).2.2 j hj e.symm)⟩)
   have GD:=uU (show b7d v.drew b r w.heap.size (w.heap.size+1+1) (w.heap.size+1) (w.heap.size+1+1+1) x (acB cB cO) bn kn u i from(g.ext (eDr v)).goat (X.ext (eDr v)) f.len f.st d (by show(z.c i).T=_;rw[f.ci]));have PR:=uU (show yJ v.drew (pb i) (x.c i).F from λk J=>by
    have:=(g.ext (eDr v)).rw.p i d k (by rw[A];exact J);rw[A,<-Cl.p_eq _ _ J]at this;exact this)
   have PN:=uU (show 0<(x.c i).F.length->pa i=some (aA (pb i) 0)/\Nfp (pb i) (pk i) v.drew/\(x.c i).F.length<=pk i from λq=>by
    have:=(g.ext (eDr v)).rw.pl i d (g.rw.pw d (by rw[A];exact q));exact⟨this.1,this.2.1,ao⟩)
   have QD:=uU (c3d (goB x H (x.c i)) (x.c i).F (w.heap.size+1) (w.heap.size+1+1+1) (pb i) _ AN (pa i) (pk i) v.drew GD PR PN an);have D:=uU (g.ext (eDr v));have BD:=uU (X.ext (eDr v));have XD:=uU (X6.trans (eDr v));clear AN GD PR PN g X X6;go_upto_region 11 with(fail);go_cut [] (λO=>Hid (SAt B O b { z with A:=z.A.set i (a7e x H (x.c i)),sub:=zZ x H i z.sub } ar kr v4 v8 br cB cO bn pb pa pk kn hd vf F vk K role)/\Hid (Bxs O b r w.heap.size (w.heap.size+1+1) (w.heap.size+1) (w.heap.size+1+1+1) bn i u)/\Hid (Ext a O))
   case first=>
    go_region_with (go_at_call 172;refine QD.mono ?_;rintro e Y ⟨rfl,af,l,aj⟩;have n7:=l.keep (b:=w.heap.size+1) (o:=0) (λe=>by have h1:=ab e.2;have h2:=e.1;omega) BD.n;have m7:=l.keep (b:=bn) (o:=i*2+1) (λe=>(Q e.2).2.1 e.1.symm) (D.sb.nd i d).2;have q7:=l.keep (b:=cB i) (o:=cO i+7) (λe=>P e.2 e.1.symm) (D.rw.p7 i d);have f7:=(l.frozen (b:=cB i) (o:=cO i+7) (D.rw.nc i d).1.1 (λe=>P e.2 e.1.symm)).trans ((D.rw.nc i d).1.2 _);have bl:w.heap.size+1<Y.heap.size:=uZ n7;have bq:=cLt m7;have av:cB i<Y.heap.size:=uZ q7)
    all_goals
     have R:=uU (show SAt B (Y.setCell (aA (cB i) (cO i+7)) (.slice (pa i) (yC (goB x H (x.c i)) (x.c i).F).length (pk i))) b { z with A:=z.A.set i (a7e x H (x.c i)),sub:=zZ x H i z.sub } ar kr v4 v8 br cB cO bn pb pa pk kn hd vf F vk K role/\Bxs (Y.setCell (aA (cB i) (cO i+7)) (.slice (pa i) (yC (goB x H (x.c i)) (x.c i).F).length (pk i))) b r w.heap.size (w.heap.size+1+1) (w.heap.size+1) (w.heap.size+1+1+1) bn i u/\Ext a (Y.setCell (aA (cB i) (cO i+7)) (.slice (pa i) (yC (goB x H (x.c i)) (x.c i).F).length (pk i))) from by
      have ay:Nf1 (cB i) Y:=⟨av,λj=>(l.frozen (b:=cB i) (o:=j) (D.rw.nc i d).1.1 (λe=>P e.2 e.1.symm)).trans ((D.rw.nc i d).1.2 j)⟩;have kl:=keep_le (goB x H (x.c i)) (x.c i).F;have oo:uQ (λq=>q=cB i\/(q=pb i/\0<(({ z with sub:=zZ x H i z.sub }:Hp).c i).F.length)) v.drew (Y.setCell (aA (cB i) (cO i+7)) (.slice (pa i) (yC (goB x H (x.c i)) (x.c i).F).length (pk i))):=uQ.setCell (l.mono (λq e=>.inr (by rw[A];exact e))) (p:=(aA (cB i) (cO i+7))) (.inl rfl) _;refine⟨?_,?_,?_⟩;have:=D.stayed i d (yC (goB x H (x.c i)) (x.c i).F) (by rw[A];exact kl) oo (ay.set _ _) (λq=>(aj (by rw[A]at q;exact q)).set _ _) (kM _ _ _ q7) (λj hj=>(uC _ (.inr (λe=>hj e.symm))).trans (by
       by_cases h0:0<(x.c i).F.length;exact l.A (cB i) (D.rw.nc i d).1.1 (λe=>P e.2 e.1.symm) j;exact l.A (cB i) (D.rw.nc i d).1.1 (λe=>h0 e.2) j)) (λk J=>by
       have be:0<(x.c i).F.length:=by omega
       exact(af k J).same λj _=>uC _ (.inl (λe=>P be e.symm)))
      rw[A]at this;exact this;refine BD.blocks (oo.size) (λq hq au=>oo.block q hq (λe=>?_));have h1:=hr.2.1 i ad;obtain e|⟨e,V⟩:=e
      ·omega
      rw[A]at V;have h2:=ab V;have h3:=hr.2.2.2 V;omega;refine oo.ext XD (λq hq e=>?_);have hB:=(D.rw.nc i d).2;obtain e|⟨e,V⟩:=e
      ·omega
      have:=(D.rw.pl i d (D.rw.pw d V)).2.2.2;omega)
     clear af l aj;go_wp21;go_meet;exact⟨R.1,R.2.1,R.2.2⟩
   case rest=>
    clear QD D BD XD T m1 p7;obtain⟨S8,B8,X8⟩:=hcut;obtain⟨S,bd⟩:∃W,W=wc:=⟨_,rfl⟩;subst bd;have am:({ z with A:=z.A.set i (a7e x H (x.c i)),sub:=zZ x H i z.sub }:Hp).c i=a7e x H (x.c i):=by
     have:=Hp.c_set z i (a7e x H (x.c i)) d i;rw[if_pos rfl]at this;exact this
    have ah:i<({ z with A:=z.A.set i (a7e x H (x.c i)),sub:=zZ x H i z.sub }:Hp).A.length:=by simpa using d
    have n8:=B8.n;have s8:=B8.s;have m8:=(S8.sb.nd i ah).2;have q8:=S8.rw.p7 i ah;rw[am]at q8;have c8:=S8.sb.bx.2.1;have f8:=S8.sb.nb.2 1;have bu:w.heap.size+1<S.heap.size:=uZ n8;have bk:=cLt s8;have bv:=cLt m8;have cd:cB i<S.heap.size:=uZ q8;have ca:=cLt c8;have sg:=a4z x H (x.c i) (x.c i).F;have us:=f.us;obtain⟨L,hL⟩:=obE ((a7e x H (x.c i)).F.length);have bz:L+eE x H (x.c i) (x.c i).F=(x.c i).F.length:=by rw[hL];exact sg
    rw[<-hL]at q8;have EQ:((x.c i).F.length:Int)-(L:Int)=(eE x H (x.c i) (x.c i).F:Int):=by omega
    have ba:=uU EQ;have bs:L<=(x.c i).F.length:=by omega
    clear EQ;have R:=uU (show SAt B (S.setCell (aA b 1) (iv (z.K-eE x H (x.c i) (x.c i).F))) b (goH x H i z) ar kr v4 v8 br cB cO bn pb pa pk kn hd vf F vk K role/\(tD (S.setCell (aA b 1) (iv (z.K-eE x H (x.c i) (x.c i).F))) r bn (u.map (λi=>i*2))/\r<(S.setCell (aA b 1) (iv (z.K-eE x H (x.c i) (x.c i).F))).heap.size)/\Ext a (S.setCell (aA b 1) (iv (z.K-eE x H (x.c i) (x.c i).F))) from
     ⟨S8.usedTo _,⟨B8.m.block (kP _ _ _ _ (by show r≠b;exact hr.1)),by have:=B8.rl;simpa[World.setCell]using this⟩,X8.sc b 1 (kA ha S8.sb.lo.1) _⟩)
    clear S8 B8 X8 hL sg A am;go_wp21;go_ret;rw[uH ba];exact⟨rfl,R.1,R.2.1,R.2.2⟩
theorem scan_of(r:a2n z x)(d:z.A.length=x.A.length):uV z=uV x:=by
 have⟨_,_,_,b,c,a,_⟩:=r;unfold uV;rw[b,c,a,d]
theorem zis_of(s:Snd x)(H:Nat->Bool)(j:∀i,H i=true↔eJ x i)(k:Nat)(b:k<x.A.length)(l:H k=true):ZIs x (stTo x H k) k:=by
 have a:=a2o x H k;have c:=b6c x H k;have g:=a5d x H s.ok.p200 k (by omega);have t:=s.ok.n8;have⟨_,_,_,n,h,f,_⟩:=a3r x H k;have p:=s.r1.I;have m:0<=x.K/\x.K<=4000:=by have d:=s.r3;have o:=s.r1.M;unfold R3 at d;omega
 refine⟨a,λq=>c7r x H k (by omega) q,?_,b,scan_of (a3r x H k) a,?_,?_,λe=>?_,?_,s.ok.p200 k b⟩;rw[b2i x H k (by omega) k,if_neg (by omega)];rw[h,a];omega;rw[f,a];exact s.r5.2.2;rw[c.2,b2h x H k e k (hT _)];exact b0w s b (((j k).1 l).good s.r2 s.r4).2.1 e;rw[c.1,a9n];omega
theorem b6e[qd](h:SAt B w b x ar kr v4 v8 br cB cO bn pb pa pk kn hd vf F vk K role)(s:Snd x)(a:World)(ha:a.heap.size<=B)(hx:Ext a w):
  Calls prog 43 #[pP b] w λe w'=>∃H:Nat->Bool,Hid (e=.returned (.tuple #[iv (qX x H x.A.length),iv (kL x H x.A.length)]))/\Hid (∀i,H i=true↔eJ x i)/\Hid (SAt B w' b (a1r x H) ar kr v4 v8 br cB cO bn pb pa pk kn hd vf F vk K role)/\Ext a w':=by
 have n8:=s.ok.n8;have p2:=uU s.ok.p200;have QH:=uU (c3i x b w bn 0 (h.vn (by rw[s.r1.B];omega) s.ok.p200) s.r2 s.r4 n8 s.ok.p200 (λJ h1=>a5z x b J bn 0 h1 n8));have y:=uU s;have CP:=uU h.rw.kp;clear s;go_in;go_wp21;refine QH.mono ?_;rintro e J ⟨rfl,o,hm,Y,hh,x1⟩;have W:=h.ext x1;have l:=W.sb.n13;have Z:=cLt l;have⟨H,hH⟩:=obE (λi=>decide (i∈o):Nat->Bool);have HH:=uU hH;have X:=uU (show ∀i,H i=true↔eJ x i from λi=>by rw[hH];show decide (i∈o)=true↔_;rw[decide_eq_true_iff];exact hh i);have M1:=uU (show tD J w.heap.size bn (o.map (λi=>i*2))/\w.heap.size<J.heap.size from by
  refine⟨?_,Y⟩;have:=hm;simp only[Nat.zero_add]at this;exact this)
 have X1:=uU (hx.trans x1);have M:=uU (show b<w.heap.size/\bn<w.heap.size/\(∀q,q<x.A.length->cB q<w.heap.size)/\∀q,q<x.A.length->0<(x.c q).F.length->pb q<w.heap.size from
  ⟨h.sb.nb.1,h.sb.lo.2.2.1,λq Q=>(h.rw.nc q Q).1.1,λq Q hl=>(h.rw.pl q Q (h.rw.pw Q hl)).2.1.1⟩)
 have N:=a5d x H p2;clear hm hh hH x1 h QH hx;go_wp21;go_loopw [2,3,17] (λg d i wr=>∃k:Nat,k<=x.A.length/\i=iv k/\g=iv (qX x H k)/\d=iv (kL x H k)/\Hid (SAt B wr b (stTo x H k) ar kr v4 v8 br cB cO bn pb pa pk kn hd vf F vk K role)/\Hid (tD wr w.heap.size bn (o.map (λi=>i*2))/\w.heap.size<wr.heap.size)/\Hid (Ext a wr)) (λ_ _ i _=>x.A.length-(intOf i).toNat)
 case atStart=>exact⟨0,kB _,rfl,rfl,rfl,W,M1,X1⟩
 case round=>
  clear W M1 X1 l Z;obtain⟨k,hk,rfl,rfl,rfl,I,G,U⟩:=hrel;by_cases f:k<x.A.length
  ·have l:=I.sb.n13;rw[a2o]at l;have aa:=cLt l;have ai:=i0N k;have ad:(k:Int)<(x.A.length:Int):=by omega
   have af:=uH N k (by omega);have ab:=uH N (k+1) (by omega);have ag:=c0a x H k;have m:k<(stTo x H k).A.length:=by rw[a2o];exact f
   go_wp21;refine(a8i w.heap.size bn (k*2) _ _ G.1).mono ?_;rintro e n ⟨rfl,A⟩;rw[(show decide (k*2∈o.map (λi=>i*2))=H k by rw[uH HH,decide_eq_decide];exact c7o)];have r:=I.ext A;have v:tD n w.heap.size bn (o.map (λi=>i*2))/\w.heap.size<n.heap.size:=⟨G.1.block (A.block _ G.2),kF G.2 A.size⟩;have O:=U.trans A;clear I G U A l aa;cases t:H k
   ·have CK:=uU (show(stTo x H k).c k=x.c k by rw[b2i x H k (by omega) k,if_neg (by omega)]);have L:=uU (show qX x H (k+1)=qX x H k by show(if H k=true then _ else _)=_;rw[if_neg (by simp[t])]);have m1:=(r.sb.nd k m).2;have z:=r.rw.s k m;rw[uH CK]at z;have p3:=z.2.2.2.1;have ae:=cLt m1;have ah:cB k<n.heap.size:=uZ p3;cases T:((x.c k).U == 1)
    ·have E:=uU (show stTo x H (k+1)=stTo x H k by show a1d x H k _=_;unfold a1d;rw[if_neg (by simp[t]),if_neg (by simpa using T)]);have C:=uU (show kL x H (k+1)=kL x H k by show(if kX x H k=true then _ else _)=_;rw[if_neg (by simp[kX,T])]);clear z;go_wp21;go_roundw
     case rel=>exact⟨k+1,by omega,by go_num,by rw[uH L],by rw[uH C],uH E▸uH r,v,O⟩
     simp[intOf];omega
    have E:=uU (show stTo x H (k+1)={ stTo x H k with A:=(stTo x H k).A.set k (b5i (x.c k)) } by show a1d x H k _=_;unfold a1d;rw[if_neg (by simp[t]),if_pos (by simpa using T)]);have C:=uU (show kL x H (k+1)=kL x H k+1 by show(if kX x H k=true then _ else _)=_;rw[if_pos (by simp[kX,T,t])]);have nf:=(r.rw.nc k m).1;have f3:=nf.2 (cO k+3);have R:SAt B (n.setCell (aA (cB k) (cO k+3)) (iv 2)) b (stTo x H (k+1)) ar kr v4 v8 br cB cO bn pb pa pk kn hd vf F vk K role/\(tD (n.setCell (aA (cB k) (cO k+3)) (iv 2)) w.heap.size bn (o.map (λi=>i*2))/\w.heap.size<(n.setCell (aA (cB k) (cO k+3)) (iv 2)).heap.size)/\Ext a (n.setCell (aA (cB k) (cO k+3)) (iv 2)):=by
     refine⟨?_,⟨v.1.block (kP _ _ _ _ (by show w.heap.size≠cB k;have:=M.2.2.1 k f;omega)),by have:=v.2;simpa[World.setCell]using this⟩,O.setCell (p:=(aA (cB k) (cO k+3))) (kA ha (r.rw.nc k m).2) _⟩;rw[uH E];refine r.setc m (by rw[uH CK];rfl) (uQ.setCell (S:=λq=>q=cB k) (uQ.refl _ n) (p:=(aA (cB k) (cO k+3))) rfl _) ?_ (λj P=>uC _ (.inr (by omega))) (nf.set _ _);have⟨a0,a1,a2,a3,a4,a5,a6⟩:=z;refine⟨?_,?_,?_,kM _ _ _ a3,?_,?_,?_⟩;rw[uC _ (.inr (by omega))];exact a0;rw[uC _ (.inr (by omega))];exact a1;rw[uC _ (.inr (by omega))];exact a2;rw[uC _ (.inr (by omega))];exact a4;rw[uC _ (.inr (by omega))];exact a5;rw[uC _ (.inr (by omega))];exact a6
    clear z;go_wp21;go_roundw
    case rel=>exact⟨k+1,by omega,by go_num,by rw[uH L],by rw[uH C];go_num,R.1,R.2.1,R.2.2⟩
    simp[intOf];omega
   have L:=uU (show qX x H (k+1)=qX x H k+eE x H (x.c k) (x.c k).F by show(if H k=true then _ else _)=_;rw[if_pos t]);have QL:=uU (d0i r w.heap.size o k v.1 v.2 ⟨by have:=M.1;omega,λj P=>by have:=M.2.2.1 j P;omega,by have:=M.2.1;omega,λq=>by have:=M.2.2.2 k f q;omega⟩ (zis_of y H X k f t) y.r2 (λj P=>a4c y.r2 y.r4 k j (((X k).1 t).good y.r2 y.r4) P) (CP k f) a ha O);rw[<-uH HH]at QL;have ac:qX x H k+eE x H (x.c k) (x.c k).F<=2000000:=by rw[<-uH L];omega
   go_wp21;refine QL.mono ?_;rintro e w3 ⟨rfl,S3,M3,X3⟩;clear r v O QL;go_wp21;go_roundw
   case rel=>exact⟨k+1,by omega,by go_num,by rw[uH L];go_num,by rw[(show kL x H (k+1)=kL x H k by show(if kX x H k=true then _ else _)=_;rw[if_neg (by simp[kX,t])])],by rw[(show stTo x H (k+1)=goH x H k (stTo x H k) by show a1d x H k _=_;unfold a1d;rw[if_pos t];rfl)];exact uH S3,M3,X3⟩
   simp[intOf];omega
  have ke:k=x.A.length:=by omega
  subst ke;rw[a4g]at I;go_wp21;go_ret2;exact⟨H,rfl,X,I,U⟩
theorem SOq.lastS[qd](h:SOq C B w b x)(i:Nat)(a:i<x.A.length):∃bn kn cb co ap kp,b6f C B w b x i bn kn cb co ap kp/\∀(W f:World)(u:Int),Ext w W->Ext (W.setCell (aA cb (co+3)) (iv u)) f->f.cell? (aA bn (i*2+1))=some (pQ cb co)/\f.cell? (aA bn (i*2))=some (iv i)/\S7 f cb co (qN (x.c i) u)/\SOq C B f b (hD x i (qN (x.c i) u))/\
  ∀(v:World),v.heap.size<=B->Ext v f->(eN (hD x i (qN (x.c i) u)) i=true->x.D.length<4000)->Calls prog 227 #[pP b,ndp bn i] f λe w'=>e=.returned (.tuple #[])/\Hid (SOq C B w' b (uK (hD x i (qN (x.c i) u)) i))/\Ext v w':=by
 have⟨ar,V,t,Q,R,a8,N,k8,P,g,r,bn,U,I,H,kn,Z,X,F,vk,K,o,h,v,k⟩:=h;have sm:∀c:Cl,c.st=(x.c i).st->cJ x (hD x i c):=λc hc=>cJ.set x i c hc rfl
 have m:∀(W:World)(u:Int),Ext w W->SAt B (W.setCell (aA (g i) (r i+3)) (iv u)) b (hD x i (qN (x.c i) u)) ar V (.slice t Q R) (.slice a8 N k8) P g r bn U I H kn Z X F vk K o:=λW u e=>by
  have l:=h.ext e;have⟨E,y,A,D,t,G,z⟩:=l.rw.s i a;refine l.setc a rfl (uQ.setCell (S:=λq=>q=g i) (uQ.refl _ W) (p:=(aA (g i) (r i+3))) rfl _) ⟨?_,?_,?_,kM _ _ _ D,?_,?_,?_⟩ (λj hj=>uC _ (.inr (by omega))) ((l.rw.nc i a).1.set _ _);all_goals
   rw[uC _ (.inr (by omega))];assumption
 have d:∀u,i<(hD x i (qN (x.c i) u)).A.length:=λu=>by simp[hD];exact a
 have L:∀u,(hD x i (qN (x.c i) u)).c i=qN (x.c i) u:=λu=>by
  show(({ x with A:=x.A.set i _ }:Hp).c i)=_;rw[Hp.c_set x i _ a i,if_pos rfl]
 refine⟨bn,kn,g i,r i,I i,H i,⟨h.sb.n13,(h.sb.nd i a).1,(h.sb.nd i a).2,h.rw.s i a,h.rw.p7 i a,(h.rw.nc i a).1.2,⟨(h.rw.nc i a).2,(h.rw.nc i a).1.1⟩,λW u e=>?_,λW u e=>⟨_,_,_,_,_,_,_,_,_,_,_,_,_,_,_,_,_,_,_,_,_,_,m W u e,v.alike (sm _ rfl) rfl rfl,k⟩⟩,λW f u e M=>?_⟩
 ·have l:=h.ext e;have⟨E,y,A,D,t,G,z⟩:=l.rw.s i a;refine⟨_,_,_,_,_,_,_,_,_,_,_,_,_,_,_,_,_,_,_,_,_,_,l.setc a rfl (uQ.setCell (S:=λq=>q=g i) (uQ.refl _ W) (p:=(aA (g i) (r i+2))) rfl _) ⟨?_,?_,kM _ _ _ A,?_,?_,?_,?_⟩ (λj hj=>uC _ (.inr (by omega))) ((l.rw.nc i a).1.set _ _),v.alike (sm _ rfl) rfl rfl,k⟩;all_goals
   rw[uC _ (.inr (by omega))];assumption
 have n:=(m W u e).ext M;have J:zH C (hD x i (qN (x.c i) u)) F K:=v.alike (sm _ rfl) rfl rfl;refine⟨(n.sb.nd i (d u)).2,(n.sb.nd i (d u)).1,by have:=n.rw.s i (d u);rw[L u]at this;exact this,⟨_,_,_,_,_,_,_,_,_,_,_,_,_,_,_,_,_,_,_,_,_,_,n,J,k⟩,λvv O hx hg=>?_⟩;refine(b5p i f n (d u) hg vv O hx).mono ?_;rintro e w' ⟨T,Y,h3⟩;exact⟨T,⟨_,_,_,_,_,_,_,_,_,_,_,_,_,_,_,_,_,_,_,_,_,_,Y,J.alike (a5u _ i) (cC _ i).2.2.2.2.2.1 (cC _ i).2.2.2.2.2.2.1,by rw[(cC _ i).1];exact k⟩,h3⟩
theorem way_12[qd](h:SOq C B w b x)(s:Snd x)(hd:(default:uL).z bd=some (tK b 12 a p c n rv))(ha:a<16)(hc1:c<=1)(v:World)(hv:v.heap.size<=B)(hx:Ext v w):
  Calls prog 194 #[.pointer (some ⟨bd,0,none⟩)] w λe w'=>qW C B b x a p c n 12 v e w':=by
 have D:=tH.of (h.obj hd);have H:=uU h;have S:=uU s;have⟨br,kr,hr⟩:=h.B s;have R:=uU hr;have⟨d0,d1,d2,d3,d4,d5,d6⟩:=uH D;have X:=cLt d0;have G:=λW(xW:Ext w W)=>a1w (R.ext xW) (D.ext xW) ha;by_cases hk:(x.r a).k=2
 ·have⟨en,ea,hi,st,nd⟩:=s.at a ha hk;have⟨i,hI⟩:=obE (x.at a);have F:=uU hI;rw[<-hI]at ea hi st nd;have o:=uU hk;have⟨bn,kn,cb,co,ap,kp,hc,ls⟩:=h.lastS i hi;have U:=uU ls;have u:=λW(xW:Ext w W)=>a2f (R.ext xW) (hc.ext xW) (D.ext xW) ha hk ea hi;have y:=hd;clear h s hd hr hk ea en hI st nd ls;go_in;go_wp21;refine(G _ (hO w)).mono ?_;rintro e w5 ⟨rfl,x5⟩;go_wp21;refine(u _ x5).mono ?_;rintro e w6 ⟨rfl,x6⟩;have d:=x5.trans x6;have m:=hc.ext d;have j:=m.m1;have Q:=m.p7;have⟨q0,q1,q2,q3,q4,q5,q6⟩:=m.s;have Z:=m.f;have t:=cLt j;have E:=cLt q0;have L:=(D.ext d).d4;have q:=cLt L;clear x5 x6;obtain⟨W7,hW7⟩:∃W,W=(w6.setCell ⟨cb,co+3,none⟩ (iv c)).drew:=⟨_,rfl⟩;have l:=uU (U w6 W7 c d (hW7▸(eDr _)));have K:=uU (show Ext v W7 by rw[hW7];exact((hx.trans d).setCell (p:=⟨cb,co+3,none⟩) (kA hv m.lo.1) _).drew);go_wp21;go_region;rw[<-hW7];clear hW7 j Q q0 q1 q2 q3 q4 q5 q6 Z t E L q;have⟨j,_,s7,h7,qs⟩:=uH l;have P:=uU h7;have QS:=uU qs;have A:=uU s7;have o7:=(tH.of (h7.obj y)).d0;have N:=cLt o7;have V:=cLt j;clear h7 qs s7 l;go_wp21;refine(b3d (qN (x.c i) c) bn i cb co _ j A).mono ?_;rintro e w8 ⟨rfl,rfl⟩;have⟨c1,hc1'⟩:=obE (kU (qN (x.c i) c):Bool);rw[<-hc1'];have I:=uU (show c1=decide (c=1) by
   rw[hc1'];have:c=0\/c=1:=by omega
   obtain e|e:=this <;> subst e <;> rfl)
  clear hc1';cases c1
  ·go_wp21;go_ret2;exact⟨_,0,0,rfl,.inr ⟨o,by rw[<-uH F];exact⟨by rw[if_neg (show ¬c=1 by have:=uH I;simpa using this)],rfl,rfl⟩⟩,P.wide (by omega),K⟩
  go_wp21;refine(QS v hv K (λhq=>?_)).mono ?_
  ·have g:=(a2h S.ok).2 i hi;refine g ?_;unfold eN whB at hq ⊢;have M:(hD x i (qN (x.c i) c)).c i=qN (x.c i) c:=by
    show(({ x with A:=x.A.set i _ }:Hp).c i)=_;rw[Hp.c_set x i _ hi i,if_pos rfl]
   rw[M]at hq;exact hq
  rintro e w9 ⟨rfl,h9,x9⟩;have H9:=uU (h9.wide (show C<=C+64000 by omega));have Y:=uU x9;clear h9 x9;go_wp21;go_ret2;exact⟨_,0,0,rfl,.inr ⟨o,by rw[<-uH F];exact⟨by rw[if_pos (show c=1 by have:=uH I;simpa using this)],rfl,rfl⟩⟩,H9,Y⟩
 have o:=uU hk;have u:=uU (λW(xW:Ext w W)=>a5e (R.ext xW) (D.ext xW) ha hk);clear h s hd hr hk;go_in;go_wp21;refine(G _ (hO w)).mono ?_;rintro e w5 ⟨rfl,x5⟩;go_wp21;refine(u _ x5).mono ?_;rintro e w6 ⟨rfl,x6⟩;have d:=x5.trans x6;clear x5 x6;go_wp21;go_ret2;exact⟨x,2,0,rfl,.inl ⟨o,rfl,rfl,rfl⟩,(H.wide (show C<=C+64000 by omega)).ext d,hx.trans d⟩
def a8o(x:Hp)(i:Nat)(u:Int)(m:Nat):Hp:={ x with K:=u,A:=x.A.set i (qJ (x.c i) m) }
theorem d1b(x:Hp)(i:Nat)(u:Int)(m:Nat):uV (a8o x i u m)=uV x:=by simp[uV,a8o]
theorem b8w(x:Hp)(i c m:Nat)(a:m=min c (x.c i).F.length):qJ (x.c i) m=qJ (x.c i) c:=by
 unfold qJ;congr 1;obtain q|q:=Nat.le_total c (x.c i).F.length;rw[show m=c by omega];rw[nZ (show(x.c i).F.length<=m by omega),nZ q]
theorem cutZ_no(x:Hp)(i c m:Nat)(u:Int)(d:m=min c (x.c i).F.length)(a:u=x.K-(((x.c i).F.length:Int)-(m:Int)))(b:uV x≠(i:Int)):a8o x i u m=eD x i c:=by
 unfold a8o eD;rw[b8w x i c m d,if_neg (λq=>b q.1),a,show((x.c i).F.length:Int)-(m:Int)=(((x.c i).F.length-c:Nat):Int) by omega]
theorem d5h(x:Hp)(i c m:Nat)(u:Int)(d:m=min c (x.c i).F.length)(a:u=x.K-(((x.c i).F.length:Int)-(m:Int)))(b:uV x=(i:Int))(f:x.sub<=(x.c i).F.length):{ a8o x i u m with sub:=min x.sub (m:Int) }=eD x i c:=by
 have e:min x.sub (m:Int)=if uV x=(i:Int)/\(c:Int)<x.sub then (c:Int) else x.sub:=by
  by_cases q:(c:Int)<x.sub;rw[if_pos ⟨b,q⟩];omega;rw[if_neg (λz=>q z.2)];omega
 unfold a8o eD;rw[b8w x i c m d,<-e,a,show((x.c i).F.length:Int)-(m:Int)=(((x.c i).F.length-c:Nat):Int) by omega]
structure CutP[qd](C B:Nat)(W2:World)(b:Nat)(x:Hp)(i:Nat)(u:Int)(m bn:Nat):Prop where
 so:SOq C B W2 b (a8o x i u m)
 un:Calls prog 171 #[.pointer (some ⟨b,0,none⟩)] W2 λe w'=>Hid (e=.returned (a6j bn x))/\Ext W2 w'
 su:∀(W3:World)(t:Int),Ext W2 W3->SOq C B (W3.setCell ⟨b,7,none⟩ (iv t)) b { a8o x i u m with sub:=t }
 c7:W2.cell? ⟨b,7,none⟩=some (iv x.sub)
 f7:W2.frozen? ⟨b,7,none⟩=false
theorem SOq.cutc[qd](h:SOq C B w b x)(s:Snd x)(i:Nat)(a:i<x.A.length):∃bn kn cb co ap kp,b6f C B w b x i bn kn cb co ap kp/\(x.c i).F.length<=kp/\(B<=b/\cb≠b)/\w.cell? (aA b 1)=some (iv x.K)/\w.frozen? (aA b 1)=false/\
  (∀(u:Int)(W E:World),Ext w W->Ext (W.setCell (aA b 1) (iv u)) E->E.cell? (aA bn (i*2+1))=some (pQ cb co)/\E.cell? (aA cb (co+7))=some (.slice ap (x.c i).F.length kp)/\E.frozen? (aA cb (co+7))=false)/\
  ∀(u:Int)(m:Nat),m<=(x.c i).F.length->∀W W2:World,Ext w W->Ext ((W.setCell (aA b 1) (iv u)).setCell (aA cb (co+7)) (.slice ap m kp)) W2->CutP C B W2 b x i u m bn:=by
 have h0:=h;have⟨ar,kr,a4,X,k4,a8,U,k8,V,f,l,bn,R,D,n,kn,hd,vf,F,vk,K,r,h,v,k⟩:=h;have⟨d,J,cb,co,ap,kp,H⟩:=h0.cel i a;have L:d=bn:=by
  have:=H.n13.symm.trans h.sb.n13;simp at this;exact this.1
 subst L;have I:cb=f i/\co=l i:=by
  have:=H.m1.symm.trans (h.sb.nd i a).2;simp at this;exact this
 obtain⟨rfl,rfl⟩:=I;have M:ap=D i/\kp=n i:=by
  have:=H.p7.symm.trans (h.rw.p7 i a);simp at this;exact this
 obtain⟨rfl,rfl⟩:=M;have P:f i≠b:=λe=>by have h1:=h.sp.c i a;have h2:=h.sp.b;rw[e]at h1;omega
 refine⟨d,J,f i,l i,D i,n i,H,h.rw.kp i a,⟨h.sb.lo.1,P⟩,h.sb.bx.2.1,h.sb.nb.2 1,λu W E e e8=>?_,λu m Y W W2 e T=>?_⟩;have N:=((h.ext e).usedTo u).ext e8;exact⟨(N.sb.nd i a).2,N.rw.p7 i a,(N.rw.nc i a).1.2 _⟩;have g:=(h.ext e).usedTo u;have hc:({ x with K:=u }:Hp).c i=x.c i:=rfl;have o:uQ (λq=>q=f i\/(q=R i/\0<(({ x with K:=u }:Hp).c i).F.length)) (W.setCell (aA b 1) (iv u)) ((W.setCell (aA b 1) (iv u)).setCell (aA (f i) (l i+7)) (.slice (D i) m (n i))):=uQ.setCell (uQ.refl _ _) (p:=(aA (f i) (l i+7))) (.inl rfl) _;have S:((x.c i).F.take m).length=m:=by simp;omega
 have Z:SAt B ((W.setCell (aA b 1) (iv u)).setCell (aA (f i) (l i+7)) (.slice (D i) m (n i))) b (a8o x i u m) ar kr (.slice a4 X k4) (.slice a8 U k8) V f l d R D n kn hd vf F vk K r:=by
  refine g.stayed i a ((x.c i).F.take m) (by rw[S];exact Y) o ((g.rw.nc i a).1.set _ _) (λq=>(g.rw.pl i a (g.rw.pw a q)).2.1.set _ _) (by rw[S];exact kM _ _ _ (g.rw.p7 i a)) (λj hj=>uC _ (.inr (λe=>hj e.symm))) (λq hq=>?_);have A:q<(x.c i).F.length:=by simp at hq;omega
  have:=g.rw.p i a q A;have G:0<(x.c i).F.length:=by omega
  rw[hc,<-Cl.p_eq _ _ A]at this;rw[List.getElem_take];exact this.of λj _=>uC _ (.inl (λe=>((g.rw.pl i a (g.rw.pw a G)).2.2.1.2 i a) e.symm))
 have y:=Z.ext T;have sm:cJ x (a8o x i u m):=cJ.set x i (qJ (x.c i) m) rfl rfl;refine⟨⟨_,_,_,_,_,_,_,_,_,_,_,_,_,_,_,_,_,_,_,_,_,_,y,v.alike sm rfl rfl,k⟩,?_,λW3 t e3=>⟨_,_,_,_,_,_,_,_,_,_,_,_,_,_,_,_,_,_,_,_,_,_,(y.ext e3).subs t,v.alike (z:={ a8o x i u m with sub:=t }) sm rfl rfl,k⟩,y.sb.bx.2.2.2.2.2.2.2.1,y.sb.nb.2 7⟩;have G:(a8o x i u m).A.length=x.A.length:=by simp[a8o]
 have Q:=b0x y (G▸s.r1.I) (G▸s.r5.2.2);have eu:a6j d (a8o x i u m)=a6j d x:=by unfold a6j;rw[d1b]
 rw[eu]at Q;exact Q
theorem way_2[qd](h:SOq C B w b x)(s:Snd x)(hd:(default:uL).z bd=some (tK b 2 a p c n rv))(ha:a<16)(v:World)(hv:v.heap.size<=B)(hx:Ext v w):
  Calls prog 186 #[.pointer (some ⟨bd,0,none⟩)] w λe w'=>qW C B b x a p c n 2 v e w':=by
 have D:=uU (tH.of (h.obj hd));obtain⟨br,kr,hr⟩:=h.B s;have R:=uU hr;obtain⟨d0,d1,d2,d3,d4,d5,d6⟩:=uH D;obtain⟨r0,r1,r2⟩:=hr.r a ha;have f:=hr.f;have hb1:=cLt r0;have hbB:=hr.lo.1;have QA:=uU (λW(xW:Ext w W)=>a1w (R.ext xW) (D.ext xW) ha);have FN:=uU (show ∀W,Ext w W->SOq (C+64000) B (cQ W br (a*3) ⟨1,n,0⟩) b (regTo x a ⟨1,n,0⟩)/\Ext v (cQ W br (a*3) ⟨1,n,0⟩) from λW xW=>⟨(hr.set W a ⟨1,n,0⟩ xW ha).wide (by omega),(cE W br (a*3) ⟨1,n,0⟩).ext (hx.trans xW) (λq hq e=>by omega)⟩);unfold cQ at FN;go_in;go_wp21;go_region_with (go_at_call 222;refine(QA _ (eDr w)).mono ?_;rintro e w5 ⟨rfl,x5⟩;have xw5:=kI (eDr w) x5;have k0:=xw5.keep r0;have k1:=xw5.keep r1;have k2:=xw5.keep r2;have kf:=λm=>((cX xw5).2 br m hb1).trans (f m);have kd0:=xw5.keep d0;have kd5:=xw5.keep d5;have F5:=uU (FN w5 xw5));all_goals
  go_wp21;go_ret2;exact⟨_,0,0,rfl,⟨rfl,rfl,rfl⟩,F5.1,F5.2⟩
theorem way_3[qd](h:SOq C B w b x)(s:Snd x)(hd:(default:uL).z bd=some (tK b 3 a p c n rv))(ha:a<16)(v:World)(hv:v.heap.size<=B)(hx:Ext v w):
  Calls prog 187 #[.pointer (some ⟨bd,0,none⟩)] w λe w'=>qW C B b x a p c n 3 v e w':=by
 have D:=tH.of (h.obj hd);have⟨br,kr,hr⟩:=h.B s;have⟨d0,d1,d2,d3,d4,d5,d6⟩:=uH D;have⟨r0,r1,r2⟩:=hr.r a ha;have f:=hr.f;have hbB:=hr.lo.1;have QA:=λW(xW:Ext w W)=>a1w (hr.ext xW) (D.ext xW) ha;have FN:∀W,Ext w W->SOq (C+64000) B (cQ W br (a*3) Wd0) b (regTo x a Wd0)/\Ext v (cQ W br (a*3) Wd0):=λW xW=>⟨(hr.set W a Wd0 xW ha).wide (by omega),(cE W br (a*3) Wd0).ext (hx.trans xW) (λq hq e=>by omega)⟩;unfold cQ Wd0 at FN;go_in;go_wp21;refine(QA _ (hO w)).mono ?_;rintro e w5 ⟨rfl,x5⟩;have xw5:=x5;have k0:=xw5.keep r0;have k1:=xw5.keep r1;have k2:=xw5.keep r2;have kf:=λm=>((cX xw5).2 br m (cLt r0)).trans (f m)
 have kd0:=xw5.keep d0;have F5:=uH FN w5 xw5;go_wp21;go_ret2;exact⟨_,0,0,rfl,⟨rfl,rfl,rfl⟩,F5.1,F5.2⟩
theorem way_14[qd](h:SOq C B w b x)(s:Snd x)(hd:(default:uL).z bd=some (tK b 14 a p c n rv))(ha:a<16)(v:World)(hx:Ext v w):
  Calls prog 196 #[.pointer (some ⟨bd,0,none⟩)] w λe w'=>qW C B b x a p c n 14 v e w':=by
 have D:=tH.of (h.obj hd);have⟨br,kr,hr⟩:=h.B s;have H:=uU (h.wide (show C<=C+64000 by omega));have⟨d0,d1,d2,d3,d4,d5,d6⟩:=uH D;have⟨r0,r1,r2⟩:=hr.r a ha;have QA:=λW(xW:Ext w W)=>a1w (hr.ext xW) (D.ext xW) ha;go_in;go_wp21;refine(QA _ (hO w)).mono ?_;rintro e w5 ⟨rfl,x5⟩;have k0:=x5.keep r0;go_wp21;go_ret2;exact⟨x,0,(x.r a).k,rfl,⟨rfl,rfl,rfl⟩,H.ext x5,hx.trans x5⟩
theorem way_15[qd](h:SOq C B w b x)(s:Snd x)(hd:(default:uL).z bd=some (tK b 15 a p c n rv))(ha:a<16)(v:World)(hx:Ext v w):
  Calls prog 197 #[.pointer (some ⟨bd,0,none⟩)] w λe w'=>qW C B b x a p c n 15 v e w':=by
 have D:=uU (tH.of (h.obj hd));obtain⟨br,kr,hr⟩:=h.B s;have R:=uU hr;have H:=uU (h.wide (show C<=C+64000 by omega));obtain⟨d0,d1,d2,d3,d4,d5,d6⟩:=uH D;obtain⟨r0,r1,r2⟩:=hr.r a ha;have QA:=uU (λW(xW:Ext w W)=>a1w (R.ext xW) (D.ext xW) ha);cases q:((x.r a).k == 1);have q2:((x.r a).k != 1)=true:=by simpa using q
 have DD:=uU (show(x.r a).k≠1 by simpa using q);go_in;go_wp21;refine(QA _ (hO w)).mono ?_;rintro e w5 ⟨rfl,x5⟩;have k0:=x5.keep r0;go_wp21;go_ret2;exact⟨x,2,0,rfl,⟨rfl,.inl ⟨DD,rfl,rfl⟩⟩,H.ext x5,hx.trans x5⟩;have q2:((x.r a).k != 1)=false:=by simpa using q
 have DD:=uU (show(x.r a).k=1 by simpa using q);go_in;go_wp21;refine(QA _ (hO w)).mono ?_;rintro e w5 ⟨rfl,x5⟩;have k0:=x5.keep r0;go_wp21;refine(QA _ x5).mono ?_;rintro e w6 ⟨rfl,x6⟩;have x56:=x5.trans x6;have l0:=x56.keep r0;have l1:=x56.keep r1;go_wp21;go_ret2;exact⟨x,0,(x.r a).n,rfl,⟨rfl,.inr ⟨DD,rfl,rfl⟩⟩,H.ext x56,hx.trans x56⟩
end Go.Proofs.YtolmnenlnpbcfaaGreatDoor
