import Derived.Test.YtgkpaibbdkggiaaGreatDoorDri
set_option maxRecDepth 100000
set_option maxHeartbeats 4000000
namespace Go.Proofs.YtgkpaibbdkggiaaGreatDoor
open Go.RowKit Go.Proofs.Tryz
attribute [local go_sem ↓] Go.wp_at_zero Go.wp_at_succ
variable{x y:Hp}{W R:World}{B b g k kr kc kg bc n U br bg s l lo C:Nat}{Y:Yt}{z a:Int}{ar ag ac:Option Addr}{pb pk:Nat->Nat}{pa:Nat->Option Addr}{T:TypeId}
theorem dc{α:Type}{I:Nat->α->Prop}{R:Nat->α->α->Prop}(h:∀i a,I i a->∃b,I (i+1) b/\R i a b){a:α}(ha:I 0 a):∃f:Nat->α,f 0=a/\∀i,I i (f i)/\R i (f i) (f (i+1)):=
 let g:(i:Nat)->{a//I i a}:=λi=>Nat.rec ⟨a,ha⟩ (λi p=>⟨(h i p.1 p.2).choose,(h i p.1 p.2).choose_spec.1⟩) i
 ⟨λi=>(g i).1,rfl,λi=>⟨(g i).2,(h i _ (g i).2).choose_spec.2⟩⟩
structure Md(Y:Yt)(B:Nat)(v w:World)(c g k:Nat)(z:Int)(x:Hp):Prop where
 cu:Cu Y v w c k z
 gg:GG (λq=>q=c) B w g x
 vB:v.heap.size<=B
 s:Snd x
theorem Md.read{v w:World}{c:Nat}{y:Int}(h:Md Y B v w c g k z x)(o:uZ (λq=>q=c) w W)(u:Cu Y v W c l y):Md Y B v W c g l y x:=⟨u,h.gg.poke o (λ_ e=>e),h.vB,h.s⟩
theorem Md.ext{v w:World}{c:Nat}(h:Md Y B v w c g k z x)(e:Ext w W):Md Y B v W c g k z x:=h.read (uZ.of_ext e) (h.cu.ext e)
theorem Md.sp{v w:World}{c:Nat}(h:Md Y B v w c g k z x):Sp Y (λq=>q=c) B v w w c g k z x:=⟨rfl,h.vB,h.cu,h.gg,h.s.bns,λ_ _ _=>rfl,λ_ e=>h.gg.lt e,hT _⟩
theorem Md.unit{v w:World}{c:Nat}(h:Md Y B v w c g k z x)(e:x.E≠0):Calls prog 35 #[pP g] w λe w'=>e=.returned (.tuple #[])/\Hid (Md Y B v w' c g k z (cJ x)):=by
 obtain⟨p,j,d⟩:=h.gg.call;exact(a3z B g _ w j h.s e _ (kL.le w B) (kL.ext w B)).mono λ_ w' ⟨f,a,i⟩=>⟨f,h.cu.blk (h.cu.1.low h.vB i) ((d _ _ a).2 c rfl),(d _ _ a).1,h.vB,h.s.unit⟩
theorem Md.begin{v w:World}{c:Nat}(h:Md Y B v w c g k z x)(e:x.E=0):Calls prog 34 #[pP g] w λe w'=>e=.returned (.tuple #[])/\Hid (Md Y B v w' c g k z (dC x 1 0)):=by
 obtain⟨p,j,d⟩:=h.gg.call;exact(a3c B g _ w j _ (kL.le w B) (kL.ext w B)).mono λ_ w' ⟨f,a,i⟩=>⟨f,h.cu.blk (h.cu.1.low h.vB i) ((d _ _ a).2 c rfl),(d _ _ a).1,h.vB,h.s.begin e⟩
def atH(x:Hp):Int:=if x.E=2/\0<x.D.length then x.D.getD 0 0 else if x.E=5/\x.I<x.A.length then x.I else -1
theorem atH_or(s:Snd x):atH x= -1\/∃i:Nat,atH x=i/\i<x.A.length:=by
 unfold atH;split;rename_i h;right;have gx:=s.r5.2.2 _ (k7 h.2);obtain⟨i,hi⟩:=km gx.1;rw[hi]at gx;refine⟨i,?_,by omega⟩;rw[<-hi];simp[List.getD_eq_getElem?_getD,h.2];split
 ·rename_i h;right;obtain⟨i,hi⟩:=km s.r1.I.1;exact⟨i,hi,by omega⟩
 exact .inl rfl
def C1(r:Int)(x:Hp):Prop:=x.E=2+3*r/\0<=atH x/\0<x.sub
structure Mx where
 k:Nat
 z:Int
 x:Hp
 q:Int
 l:Nat
 y:Int
def Ex(r:Int)(a:Mx):Prop:=C1 r a.x/\((a.x.c (atH a.x).toNat).F.length:Int)-a.q<=a.x.sub
def MxI(Y:Yt)(r:Int)(a:Mx):Prop:=a.l<=a.k+2/\Snd a.x/\(C1 r a.x->0<=a.q/\a.q<2/\Tc Y a.k a.z 12 [iv 2] (iv a.q) a.l a.y)/\(¬C1 r a.x->a.l=a.k/\a.y=a.z)
theorem mx(Y:Yt)(r:Int)(k:Nat)(z:Int)(x:Hp)(s:Snd x)(h:k<=999999):∃a:Mx,a.k=k/\a.z=z/\a.x=x/\MxI Y r a:=by
 by_cases c:C1 r x;obtain⟨q,l,y,a,b,d,t⟩:=cV Y k z 2;exact⟨⟨k,z,x,q,l,y⟩,rfl,rfl,rfl,d,s,λ_=>⟨a,b,t⟩,λe=>absurd c e⟩;exact⟨⟨k,z,x,0,k,z⟩,rfl,rfl,rfl,Nat.le_add_right _ _,s,λe=>absurd e c,λ_=>⟨rfl,rfl⟩⟩
structure Mm(Y:Yt)(B:Nat)(v w:World)(c g k:Nat)(z:Int)(x:Hp)(ar:Option Addr)(kr bc kc:Nat)(ag:Option Addr)(kg i:Nat)(pa:Option Addr)(kp:Nat):Prop where
 md:Md Y B v w c g k z x
 bx:Bx w g x ar kr (some (aA bc 0)) kc ag kg
 q7:w.cell? (aA bc (i*8+7))=some (.slice pa (x.c i).F.length kp)
 nb:bc≠c
 nl:bc<w.heap.size
theorem Mm.pick{v w:World}{c:Nat}{y:Int}{i:Nat}{pa:Option Addr}{kp F:Nat}{q:Value}{u:List Value}(h:Mm Y B v w c g k z x ar kr bc kc ag kg i pa kp)(e:Ext w W)(t:Tc Y k z F u q l y):
  Calls prog F (pP c::u).toArray W λe w'=>e=.returned q/\Hid (Mm Y B v w' c g l y x ar kr bc kc ag kg i pa kp):=
 (t.h v W c (h.md.cu.ext e)).mono λ_ _ ⟨a,b⟩=>⟨a,by
  have O:=(uZ.of_ext e).trans b.2;obtain⟨_,_,n,_⟩:=h.md.sp.call;exact⟨h.md.read O b.1,h.bx.only O n,O.keep h.nb h.q7,h.nb,kF h.nl O.size⟩⟩
structure Tm(Y:Yt)(k:Nat)(s:Int)(F:Nat)(y:Hp)(k':Nat)(s':Int):Prop where
 h:∀v w c,Cu Y v w c k s->Calls prog F #[pP c] w λe w'=>∃g B,Hid (e=.returned (pP g)/\v.heap.size<=B)/\Hid (Cu Y v w' c k' s'/\GG (λq=>q=c) B w' g y/\Bnd y)
theorem midst_d(Y:Yt)(k:Nat)(s:Int)(n:Nc Y k s)(hk:k<=9999):∃(y:Hp)(k':Nat)(s':Int),k'<=99999/\Tm Y k s 13 y k' s':=by
 obtain⟨T,tk,_,HT⟩:=d3n Y k s n hk;have s0:Snd T.x:=by obtain⟨B,v,w,b,c,g,h⟩:=‹Ne Y T›;exact h.at.1
 obtain⟨x1,s1,X1⟩:∃x1:Hp,Snd x1/\((T.x.E=0/\x1=dC T.x 1 0)\/(T.x.E≠0/\x1=T.x)):=by
  by_cases e:T.x.E=0;exact⟨_,s0.begin e,.inl ⟨e,rfl⟩⟩;exact⟨_,s0,.inr ⟨e,rfl⟩⟩
 obtain⟨r,k1,z1,r0,r1,_,PR⟩:=cV Y T.k T.z 2;obtain⟨a0,e1,e2,e3,e4⟩:=mx Y r k1 z1 x1 s1 (by omega);obtain⟨f,f0,fn⟩:=dc (I:=λi a=>i<=5000->a.k<=k1+2*i/\MxI Y r a) (R:=λi a b=>i<5000->b.x=cJ a.x/\b.k=a.l/\b.z=a.y) (λi a I=>by
  by_cases l:i<5000;obtain⟨j,I⟩:=I (by omega);obtain⟨b,b1,b2,b3,b4⟩:=mx Y r a.l a.y (cJ a.x) I.2.1.unit (by have:=I.1;omega);exact⟨b,λ_=>⟨by have:=I.1;omega,b4⟩,λ_=>⟨b3,b1,b2⟩⟩;exact⟨a,λe=>by omega,λe=>by omega⟩) (a:=a0) (λ_=>⟨by omega,e4⟩)
 obtain⟨K,kl,kb,ke⟩:=least (p:=λj=>j<5000/\(f j).x.E≠0/\¬Ex r (f j)) 5000 (by omega);have kk:=(fn K).1 kl;obtain⟨y,k',z',k9,E1,E2⟩:∃(y:Hp)(k':Nat)(z':Int),k'<=99999/\Hid (∀j,j<=K->(f j).x.E=0\/5000<=j->(f j).x=y/\(f j).k=k'/\(f j).z=z')/\Hid (∀j,j<=K->j<5000->(f j).x.E≠0->Ex r (f j)->regTo (f j).x 0 ⟨2,0,atH (f j).x⟩=y/\(f j).l=k'/\(f j).y=z'):=by
  have J:∀j,j<=K->(f j).x.E=0\/5000<=j\/Ex r (f j)->j=K:=λj a b=>Classical.byContradiction λe=>by have t:=kb j (by omega);obtain b|b|b:=b;exact t.2.1 b;omega;exact t.2.2 b
  by_cases e:(f K).x.E=0\/5000<=K;exact⟨(f K).x,(f K).k,(f K).z,by have:=kk.1;omega,λj a b=>by cases J j a (by omega);exact⟨rfl,rfl,rfl⟩,λj a b c d=>by cases J j a (.inr (.inr d));omega⟩;exact⟨regTo (f K).x 0 ⟨2,0,atH (f K).x⟩,(f K).l,(f K).y,by have:=kk.1;have:=kk.2.1;omega,λj a b=>by cases J j a (by omega);exact absurd b e,λj a b c d=>by cases J j a (.inr (.inr d));exact⟨rfl,rfl,rfl⟩⟩
 have E3:=uU (show∀j,j<=K->j<5000->(f j).x.E≠0->¬Ex r (f j)->j+1<=K from λj a b c d=>by
  by_cases e:j=K;subst e;exact absurd ⟨b,c,d⟩ ke;omega)
 refine⟨y,k',z',k9,⟨λv w c h=>?_⟩⟩;have CU:=uU h;have FN:=uU fn;have F0:=uU f0;have H4:=uU (show a0.x=x1/\a0.k=k1/\a0.z=z1 from⟨e3,e1,e2⟩);have HP:=uU X1;clear h fn f0 e1 e2 e3 e4 X1 kb ke kk k9;go_in;go_wp21;refine(HT.h v w c CU).mono ?_;rintro e w1 ⟨b,g,B,he,BD⟩;have e2:=uH he;subst e2;clear he CU;have M:=uU (show Md Y B v w1 c g T.k T.z T.x from⟨BD.at.2.2.2,BD.at.2.1,BD.at.2.2.1,s0⟩);have c5:=BD.c5;clear BD;go_upto_if 13 with(fail);go_cut [] (λwx=>Hid (Md Y B v wx c g T.k T.z x1))
 case first=>
  obtain⟨e,e1⟩|⟨e,e1⟩:=HP
  ·have t:(T.x.E == 0)=true:=by simp[e]
   have E:=uU e;have E1:=uU e1;clear e e1;go_wp2_with (go_at_call 34;refine(M.begin E).mono ?_;rintro e w1 ⟨rfl,bd⟩);go_meet;rw[uH E1];exact bd
  have t:(T.x.E == 0)=false:=by simp[e]
  have E1:=uU e1;clear e e1;go_wp21;go_meet;rw[uH E1];exact M
 case rest=>
  clear M c5;have M:=hcut;clear hcut;go_wp2_with (go_at_call 12;refine(PR.h v _ c M.cu).mono ?_;rintro e w1 ⟨rfl,b⟩;have M:=uU (M.read b.2 b.1);clear b);go_loopw [5] (λi wr=>∃j:Nat,j<=K/\i=.int .i64 j/\Hid (Md Y B v wr c g (f j).k (f j).z (f j).x)) (λi _=>5000-(intOf i).toNat)
  case atStart=>exact⟨0,by omega,rfl,by rw[uH F0,H4.1,H4.2.1,H4.2.2];exact uH M⟩
  case round=>
   clear M;obtain⟨j,hj,rfl,M⟩:=hrel;obtain⟨a,ha⟩:=obE (f j);have Q1:=uU (E1 j hj);have Q2:=uU (E2 j hj);have Q3:=uU (E3 j hj);have Q4:=uU ((FN j).1 (by omega)).2;have Q5:=uU (FN j).2;rw[<-ha]at M Q1 Q2 Q3 Q4 Q5;clear ha;obtain⟨ar,kr,ac,kc,ag,kg,X,gl,fz⟩:=M.sp.bx;have Y2:=X;obtain⟨_,_,_,_,d4,d5,d6,d7,d8,_⟩:=Y2;have X:=uU X;have n8:=M.s.bns.2.1;have END:=uU (λ(W:World)(e:Ext wr W)(q:a.x.E=0\/5000<=j)=>show Cu Y v W c k' z'/\GG (λq=>q=c) B W g y/\Bnd y from by obtain⟨t1,t2,t3⟩:=uH Q1 q;have m:=(M.ext e).sp.end_;rw[t1,t2,t3]at m;exact⟨m.1,m.2.2⟩);by_cases hl:(j:Int)<5000
   ·cases hp:(a.x.E != 0)
    ·have z:a.x.E=0:=by simpa using hp
     have z:=uU z;go_wp21;go_ret;exact⟨g,B,⟨rfl,M.vB⟩,uH END _ (hO _) (.inl z)⟩
    go_upto_region 9 with(fail)
    go_cut [43] (λt wx=>t=.bool (a.x.E == 2 && decide (0<a.x.D.length))/\Hid (Ext wr wx))
    case first=>
     cases f2:(a.x.E == 2)
     ·go_wp21;go_meet;exact⟨by simp[f2],hO _⟩
     go_wp21;go_meet;exact⟨by simp[f2],hO _⟩
    case rest=>
     obtain⟨rfl,E⟩:=hcut;have e:=uH E;have d4:=e.keep d4;have d5:=e.keep d5;have d6:=e.keep d6;have d7:=e.keep d7;have d8:=e.keep d8;clear e;obtain⟨A,hA⟩:=obE (atH a.x);have HA:=uU hA;clear hA;go_upto_if 43 with(fail);go_cut [6] (λt wx=>t=iv A/\Hid (Ext wr wx))
     case first=>
      cases t:(a.x.E == 2 && decide (0<a.x.D.length))
      ·have ha:A=if a.x.E=5/\a.x.I<a.x.A.length then a.x.I else -1:=by rw[uH HA];unfold atH;rw[if_neg (by simpa using t)]
       have ha:=uU ha
       cases f5:(a.x.E == 5)
       ·go_wp21;go_quiet (fail);go_wp21;go_meet;exact⟨by rw[uH ha,if_neg (λh=>by simp[h.1]at f5)],Ext.drewN E nq⟩
       by_cases lh:a.x.I<a.x.A.length
       ·go_wp21;go_quiet (fail);go_wp21;go_meet;exact⟨by rw[uH ha,if_pos ⟨by simpa using f5,lh⟩],Ext.drewN E nq⟩
       go_wp21;go_quiet (fail);go_wp21;go_meet;exact⟨by rw[uH ha,if_neg (λh=>by omega)],Ext.drewN E nq⟩
      simp at t;obtain⟨gb,go,rfl,g0,_⟩:=(M.sp.gr X _ (hO _)).1.at 0 t.2;have hh:a.x.D[0]=A:=by rw[uH HA];unfold atH;rw[if_pos t];simp[List.getD_eq_getElem?_getD,t.2]
      rw[hh,kw]at g0;have g0:=E.keep g0;have l:=t.2;clear hh;go_wp21;go_meet;exact⟨rfl,E⟩
     case rest=>
      obtain⟨rfl,F⟩:=hcut;have AO:=uU (show A= -1\/∃i:Nat,A=i/\i<a.x.A.length from uH HA▸atH_or M.s);clear d4 d5 d6 d7 d8 E;obtain⟨_,_,_,d3,d4,d5,d6,d7,_⟩:=X.ext F;go_upto_region 13 with(fail);go_cut [106] (λt wx=>∃q:Bool,t=.bool q/\Hid (q=true↔Ex r a)/\Hid (Md Y B v wx c g a.l a.y a.x)/\Hid (wx.cell? (aA g 5)=some (iv a.x.E)))
      case first=>
       have ME:=uU (M.ext F);have NO:=uU (λ(W:World)(e:Ext _ W)(n:¬C1 r a.x)=>show∃q:Bool,Value.bool false=.bool q/\Hid (q=true↔Ex r a)/\Hid (Md Y B v W c g a.l a.y a.x)/\Hid (W.cell? (aA g 5)=some (iv a.x.E)) from⟨false,rfl,fNo λh=>n h.1,by rw[(Q4.2.2.2 n).1,(Q4.2.2.2 n).2];exact ME.ext e,e.keep d5⟩)
       cases q1:(a.x.E == 2+3*r)
       ·go_quiet (fail);go_wp21;go_meet;exact NO _ (Ext.drewN (hO _) nq) (λh=>by simp[h.1]at q1)
       obtain e|⟨i,e,hi⟩:=uH AO
       ·have E9:=uU (show¬C1 r a.x from λh=>by have:=h.2.1;rw[<-uH HA]at this;omega);subst e;go_quiet (fail);go_wp21;go_meet;exact NO _ (Ext.drewN (hO _) nq) E9
       have HI:=uU (show atH a.x=i from HA▸e);subst e;have i0:=i0N i;have i1:(i:Int)<(a.x.A.length:Int):=by omega
       by_cases q2:a.x.sub>0
       ·have c1:=uU (show C1 r a.x from⟨by simpa using q1,by rw[uH HI];omega,q2⟩);obtain⟨q0,q9,PK⟩:=(uH Q4).2.2.1 (uH c1);have hc:=(uH M).s.bns;obtain⟨bc,pa,kp,rfl,_,p7,nn,fc⟩:=(uH ME).sp.cel ((uH X).ext (uH F)) i hi;have l2:=hc.2.2.1 i hi;have WR:=uU (show IntKind.i64.wrap (((a.x.c i).F.length:Int)-a.q)=((a.x.c i).F.length:Int)-a.q from by rw[nF];omega);have MM:=uU (show Mm Y B v _ c g a.k a.z a.x ar kr bc kc ag kg i pa kp from⟨uH ME,(uH X).ext (uH F),p7,λe=>fc c rfl e.symm,nn.1⟩);have KP:=uU (λ(w W:World)(n:Nat)(z:Int)(h:Mm Y B v w c g n z a.x ar kr bc kc ag kg i pa kp)(e:Ext w W)=>show W.cell? (aA g 4)=some (.slice (some (aA bc 0)) a.x.A.length kc)/\W.cell? (aA g 5)=some (iv a.x.E)/\W.cell? (aA g 7)=some (iv a.x.sub)/\W.cell? (aA bc (i*8+7))=some (.slice pa (a.x.c i).F.length kp) from⟨e.keep h.bx.2.2.2.2.1,e.keep h.bx.2.2.2.2.2.1,e.keep h.bx.2.2.2.2.2.2.2.1,e.keep h.q7⟩);clear ME d3 d6 F X hp gl fz hl hc p7 nn fc NO;go_region_held3 (λW=>W.cell? (aA g 4)=some (.slice (some (aA bc 0)) a.x.A.length kc)/\W.cell? (aA g 5)=some (iv a.x.E)/\W.cell? (aA g 7)=some (iv a.x.sub)/\W.cell? (aA bc (i*8+7))=some (.slice pa (a.x.c i).F.length kp)) ((with_reducible refine uH KP _ _ _ _ (uH MM) ?_;with_reducible (first|exact hO _|exact eDr _|exact(eDr _).trans (eDr _)|exact((eDr _).trans (eDr _)).trans (eDr _))))
          ((go_at_call 12;refine(MM.pick (F:=12) (by first|exact hO _|exact eDr _|exact(eDr _).trans (eDr _)|exact((eDr _).trans (eDr _)).trans (eDr _)) PK).mono ?_;rintro e w3 ⟨rfl,N⟩;clear MM;have MM:=N;clear N))
        go_wp21;go_meet;exact⟨_,rfl,by simp only[Ex,uH HI,Int.toNat_natCast,uH c1,true_and,decide_eq_true_eq,uH WR];exact trivial,MM.md,(KP _ _ _ _ MM (hO _)).2.1⟩
       go_quiet (fail);go_wp21;go_meet;exact NO _ (Ext.drewN (hO _) nq) (λh=>by have:=h.2.2;omega)
      case rest=>
       obtain⟨q,rfl,QE,M5,c5⟩:=hcut;have j5:j<5000:=by omega
       have hp:a.x.E≠0:=by simpa using hp
       have hp:=uU hp
       cases q
       ·have NE:=uU (show¬Ex r a from λh=>by have:=QE.2 h;cases this);go_wp2_with (go_at_call 35;refine((M5.ext (by first|exact hO _|exact eDr _|exact(eDr _).trans (eDr _)|exact((eDr _).trans (eDr _)).trans (eDr _))).unit hp).mono ?_;rintro e w2 ⟨rfl,bd⟩);go_roundw
        ·exact⟨j+1,uH Q3 j5 hp NE,by go_num,by obtain⟨t1,t2,t3⟩:=uH Q5 j5;rw[t1,t2,t3];exact uH bd⟩
        simp[intOf];omega
       have EX:=uU (QE.1 rfl);obtain⟨ar,kr,ac,kc,ag,kg,X5,_,_⟩:=M5.sp.bx;obtain⟨br,rfl,h16,hw,zf,hb,FR⟩:=M5.sp.reg X5;have FR:=uU FR;obtain⟨k0,k1,k2⟩:=hw 0 (by omega);obtain⟨_,_,_,d3,_⟩:=X5;clear hw;go_wp21;go_ret;obtain⟨t1,t2,t3⟩:=uH Q2 j5 hp EX;have m:=uH FR _ 0 ⟨2,0,A⟩ (hO _) (by omega);rw[<-uH HA]at t1;rw[t1,t2,t3,nJ]at m;exact⟨g,B,⟨rfl,M.vB⟩,m.1,m.2.2⟩
   go_wp21;go_ret;exact⟨g,B,⟨rfl,M.vB⟩,uH END _ (hO _) (.inr (by omega))⟩
theorem pZ:∃i:Inhabited uL,Hid (∀q,(@default uL i).z q=none):=⟨⟨⟨λ_=>none⟩⟩,λ_=>rfl⟩
theorem eA2(w:World)(a b:Obj):Ext w ((w.alloc a).alloc b):=(eAl w a).alloc b
theorem eA3(w:World)(a b c:Obj):Ext w (((w.alloc a).alloc b).alloc c):=(eA2 w a b).alloc c
abbrev s0:Value:=.slice none 0 0
def Zb(R:World)(b:Nat):Prop:=cK R b Hp0 s0 s0 s0/\(∀o,R.frozen? (aA b o)=false)/\b<R.heap.size
theorem Zb.ext{S:World}(h:Zb R b)(a:Ext R S):Zb S b:=⟨h.1.ext a,λo=>((cE a).2 b o h.2.2).trans (h.2.1 o),kF h.2.2 a.size⟩
theorem zB{w:World}{A:Array Value}{L:List Value}(t:Ext (w.alloc (.cells A T)) R)(g:A.toList=hbL Hp0 s0 s0 s0++L)(h:w.heap.size=b):Hid (Zb R b/\∀o v,A.toList[o]?=some v->R.cell? (aA b o)=some v):=by
 subst h;have k:∀o v,A.toList[o]?=some v->(w.alloc (.cells A T)).cell? (aA w.heap.size o)=some v:=λo v q=>by simpa[go_sem]using q
 exact⟨Zb.ext ⟨cK.iff.2 λo v q=>k o v (by rw[g];exact ms (List.getElem?_eq_some_iff.1 q).1▸q),λo=>by simp[go_sem],by simp⟩ t,λo v e=>t.keep (k o v e)⟩
structure He where
 z:Hp
 ar:Option Addr
 kr:Nat
 ac:Option Addr
 kc:Nat
 ag:Option Addr
 kg:Nat
abbrev He.c(e:He):Array Value:=#[iv e.z.M,iv e.z.K,iv e.z.born,.slice e.ar e.z.B.length e.kr,.slice e.ac e.z.A.length e.kc,iv e.z.E,iv e.z.I,iv e.z.sub,.slice e.ag e.z.D.length e.kg,iv e.z.per,iv e.z.V,iv e.z.Q,iv e.z.S]
abbrev He.v(e:He):Value:=.agg e.c
abbrev He.c1(e:He)(a:Int):Array Value:=#[iv e.z.M,iv e.z.K,iv e.z.born,.slice e.ar e.z.B.length e.kr,.slice e.ac e.z.A.length e.kc,iv e.z.E,iv e.z.I,iv e.z.sub,.slice e.ag e.z.D.length e.kg,iv e.z.per,iv e.z.V,iv e.z.Q,iv e.z.S,iv a]
abbrev He.c2(e:He)(a b:Int):Array Value:=#[iv e.z.M,iv e.z.K,iv e.z.born,.slice e.ar e.z.B.length e.kr,.slice e.ac e.z.A.length e.kc,iv e.z.E,iv e.z.I,iv e.z.sub,.slice e.ag e.z.D.length e.kg,iv e.z.per,iv e.z.V,iv e.z.Q,iv e.z.S,iv a,iv b]
abbrev He.v1(e:He)(a:Int):Value:=.agg (e.c1 a)
abbrev He.v2(e:He)(a b:Int):Value:=.agg (e.c2 a b)
def He.rd(e:He)(w:World):Prop:=HRd w e.z e.ar e.kr e.ac e.kc e.ag e.kg
def He.at(e:He)(w:World):Prop:=HV w e.z e.ar e.kr e.ac e.kc e.ag e.kg
theorem He.rde{e:He}{w:World}(h:e.rd w)(x:Ext w W):e.rd W:=HRd.ext h x
theorem He.ate{e:He}{w:World}(h:e.at w)(x:Ext w W):e.at W:=⟨h.1.ext x,h.2.extS h.1.2.1 x⟩
theorem He.z0(w:World):He.at ⟨Hp0,none,0,none,0,none,0⟩ w:=⟨HRd.zero w,λi e=>by simp[Hp0]at e⟩
theorem b0u.at{w:World}(h:b0u B U w x br kr bc kc bg kg pb pa pk):He.at ⟨x,some (aA br 0),kr,some (aA bc 0),kc,some (aA bg 0),kg⟩ w:=⟨⟨h.r,h.cs,h.g⟩,by
 intro i e f o ad l c a b;simp only[Option.some.injEq,Addr.mk.injEq]at a;obtain⟨rfl,rfl,_⟩:=a;rw[kO,h.p7 i e]at b;simp only[Option.some.injEq,Value.slice.injEq]at b;obtain⟨_,rfl,rfl⟩:=b;exact .inl (h.k i e)⟩
theorem b0u.w{w:World}(h:b0u B U w x br kr bc kc bg kg pb pa pk):Hid (∀W,uZ (λq=>q<B) w W->He.at ⟨x,some (aA br 0),kr,some (aA bc 0),kc,some (aA bg 0),kg⟩ W):=λ_ o=>(h.only o λ_ _ _ _=>by omega).at
theorem sndI{e:He}{w:World}(h:e.at w)(s:Snd e.z)(x:Ext w W):Calls prog 20 #[e.v] W λr R=>∃b an kn,r=.returned (.tuple #[pP b,.bool true])/\Hid (VAt R b e.z e.ar e.kr e.ac e.kc e.ag e.kg an kn)/\Ext W R:=(b7t e.z W (SlW.ext x h.1.1) (SlC.ext x h.1.2.1) (SlI.ext x h.1.2.2) (h.2.extS h.1.2.1 x)).mono λ_ _ ⟨l,j⟩=>have⟨_,b,a,k,c,d,_⟩:=j.resolve_left λh=>h.1 s.ok;⟨b,a,k,c,d,l⟩
theorem ownI[qr](hz:∀q,(default:uL).z q=none){w:World}{an:Option Addr}{kn:Nat}(h:VAt w b x ar kr ac kc ag kg an kn)(s:Snd x):Calls prog 21 #[pP b] w λe w'=>∃s,e=.returned (pP s)/\Hid (SOq 24000 w.heap.size w' s x)/\Ext w w':=(c9n hz x b w h s.ok.all.1 s.ok.all.2.1 s.ok.r5 (a2d s.ok).1).mono λ_ _ ⟨a,b,c,d⟩=>⟨a,b,c.soq hz s,d⟩
theorem copyS[qr](hz:∀q,(default:uL).z q=none){e:He}{w:World}(h:e.rd w)(s:Snd e.z)(x:Ext w W):Calls prog 15 #[e.v] W λr R=>∃g,r=.returned (pP g)/\Hid (GOk W.heap.size R g e.z)/\Ext W R:=
 have a:=s.r1.B;have b:=a2d s.ok;b3z hz e.z W (SlW.ext x h.1) (SlC.ext x h.2.1) (SlI.ext x h.2.2) (by omega) (by omega) s.ok.n8 s.ok.p200 (by omega)
theorem GOk.w[qr](hz:∀q,(default:uL).z q=none){w:World}(h:GOk B w g y)(s:Snd y):∃d:He,d.z=y/\B<=g/\cK w g y (.slice d.ar y.B.length d.kr) (.slice d.ac y.A.length d.kc) (.slice d.ag y.D.length d.kg)/\Hid (∀W,uZ (λq=>q<B) w W->d.rd W):=by
 obtain⟨A,t,r,u,V,_,_,_,_,_,_,p⟩:=h;obtain⟨D,I,rfl⟩:=p.gr.form;exact⟨⟨y,A,t,r,u,D,I⟩,rfl,p.lo,p.bx,λW o=>(GAt.low hz p o (λq e=>e)).rd (by rw[s.r1.B];omega) (by have:=s.ok.n8;omega) (λq l=>s.ok.p200 q l) (by have:=s.r1.D;have:=s.ok.n8;omega)⟩
def SpIs(x:Hp)(n:Nat)(y:Hp):Prop:=∃k,a2f (stepH x n) n k/\y=itU k (stepH x n)
theorem SpIs.snd(h:SpIs x n y)(s:Snd x):Snd y:=by obtain⟨k,a,b⟩:=h;rw[b];exact(s.stepH _).itU k
def SlIs(x y:Hp):Prop:=∃H:Nat->Bool,(∀i,H i=true↔qX x i)/\y=a1u x H
theorem SlIs.snd(h:SlIs x y)(s:Snd x):Snd y:=by obtain⟨H,_,b⟩:=h;rw[b];exact s.settle H
theorem aB{w:World}{o c:Obj}{p b d n:Int}(t:Ext (((w.alloc o).alloc (.cells #[iv p,iv a,iv b,iv d,iv n] T)).alloc c) R):Hid (R.cell? (aA (w.heap.size+1) 0)=some (iv p)/\R.cell? (aA (w.heap.size+1) 1)=some (iv a)/\R.cell? (aA (w.heap.size+1) 2)=some (iv b)/\R.cell? (aA (w.heap.size+1) 3)=some (iv d)/\R.cell? (aA (w.heap.size+1) 4)=some (iv n)):=by refine⟨?_,?_,?_,?_,?_⟩ <;> exact t.keep (by simp[go_sem])
def Opw(b n s:Nat)(w:World):Prop:=Nf1 b w/\∀i,i<n->∀j,j<s->∃v,w.cell? (aA b (i*s+j))=some v
theorem Opw.blk{w:World}(h:Opw b n s w)(e:W.heap[b]?=w.heap[b]?):Opw b n s W:=⟨a5m h.1 e,λj l r m=>have⟨v,i⟩:=h.2 j l r m;⟨v,(dE e).trans i⟩⟩
structure Sw(P:Nat->Nat->Prop)(w W:World):Prop where
 n:∀b,Nf1 b w->Nf1 b W
 e:∀b o v,w.cell? (aA b o)=some v->∃u,W.cell? (aA b o)=some u
 k:∀b o,b<w.heap.size->¬P b o->W.cell? (aA b o)=w.cell? (aA b o)
 x:uZ (λq=>∃o,P q o) w W
theorem Sw.refl(P:Nat->Nat->Prop)(w:World):Sw P w w:=⟨λ_ h=>h,λ_ _ v h=>⟨v,h⟩,λ_ _ _ _=>rfl,uZ.refl _ _⟩
theorem Sw.set{P:Nat->Nat->Prop}{w:World}(h:Sw P w W)(b o:Nat)(p:P b o)(v:Value):Sw P w (W.setCell (aA b o) v):=⟨λq i=>(h.n q i).set _ _,λq r u i=>have⟨_,j⟩:=h.e q r u i;cell?_setCell_some j,λq r l n=>by
 rw[<-h.k q r l n];refine uC _ (Classical.byContradiction λe=>?_);have t:b=q/\o=r:=by omega
 rw[t.1,t.2]at p;exact n p,h.x.setCell ⟨o,p⟩ v⟩
theorem Sw.mono{P Q:Nat->Nat->Prop}{w:World}(h:Sw P w W)(m:∀b o,P b o->Q b o):Sw Q w W:=⟨h.n,h.e,λb o l n=>h.k b o l (λp=>n (m b o p)),h.x.mono λ_ ⟨o,p⟩=>⟨o,m _ o p⟩⟩
theorem Sw.opw{P:Nat->Nat->Prop}{w:World}(h:Sw P w W)(o:Opw b n s w):Opw b n s W:=⟨h.n b o.1,λj l r m=>have⟨v,i⟩:=o.2 j l r m;h.e b _ v i⟩
def Ovp(lo hi:Nat)(w:World)(bc i:Nat):Prop:=∃pa n k,w.cell? (aA bc (i*8+7))=some (.slice pa n k)/\n<=200/\(0<n->∃b,pa=some (aA b 0)/\b≠bc/\lo<=b/\b<hi/\Opw b n 6 w)
structure Ovh(lo hi:Nat)(w:World)(e:He):Prop where
 l:e.z.B.length<=100/\e.z.A.length<=8000/\e.z.D.length<=8000
 r:0<e.z.B.length->∃b,e.ar=some (aA b 0)/\lo<=b/\b<hi/\Opw b e.z.B.length 3 w/\∀c,e.ac=some (aA c 0)->b≠c
 g:0<e.z.D.length->∃b,e.ag=some (aA b 0)/\lo<=b/\b<hi/\Opw b e.z.D.length 1 w/\∀c,e.ac=some (aA c 0)->b≠c
 c:0<e.z.A.length->∃b,e.ac=some (aA b 0)/\lo<=b/\b<hi/\Opw b e.z.A.length 8 w/\∀i,i<e.z.A.length->Ovp lo hi w b i
theorem Ovh.blk{hi:Nat}{w:World}{e:He}(h:Ovh lo hi w e)(k:∀q,lo<=q->q<hi->W.heap[q]?=w.heap[q]?):Ovh lo hi W e:=
 ⟨h.l,λl=>have⟨b,a,c,d,o,n⟩:=h.r l;⟨b,a,c,d,o.blk (k b c d),n⟩,λl=>have⟨b,a,c,d,o,n⟩:=h.g l;⟨b,a,c,d,o.blk (k b c d),n⟩,λl=>have⟨b,a,c,d,o,n⟩:=h.c l;⟨b,a,c,d,o.blk (k b c d),λi j=>have⟨p,m,q,r,s,t⟩:=n i j;⟨p,m,q,(dE (k b c d)).trans r,s,λl=>have⟨b,a,e,c,d,o⟩:=t l;⟨b,a,e,c,d,o.blk (k b c d)⟩⟩⟩⟩
def He0:He:=⟨Hp0,none,0,none,0,none,0⟩
theorem Ovh.z0(lo hi:Nat)(w:World):Ovh lo hi w He0:=⟨by simp[He0,Hp0],λl=>by simp[He0,Hp0]at l,λl=>by simp[He0,Hp0]at l,λl=>by simp[He0,Hp0]at l⟩
theorem Ovh.w{w:World}{e:He}(h:Ovh B w.heap.size w e)(o:uZ (λq=>q<B) w W)(l:lo<=B):Ovh lo W.heap.size W e:=
 have s:=o.size;have k:=h.blk (W:=W) λq a b=>o.block q b (by omega)
 ⟨k.l,λl=>have⟨b,a,c,d,r⟩:=k.r l;⟨b,a,by omega,by omega,r⟩,λl=>have⟨b,a,c,d,r⟩:=k.g l;⟨b,a,by omega,by omega,r⟩,λl=>have⟨b,a,c,d,r,t⟩:=k.c l;⟨b,a,by omega,by omega,r,λi j=>have⟨p,m,q,u,v,t⟩:=t i j;⟨p,m,q,u,v,λl=>have⟨b,a,e,c,d,r⟩:=t l;⟨b,a,e,by omega,by omega,r⟩⟩⟩⟩
theorem sndN{e:He}{w:World}(h:e.at w)(H:¬qU e.z 0)(x:Ext w W):Calls prog 20 #[e.v] W λr R=>r=.returned (.tuple #[.pointer none,.bool false])/\Ext W R:=(b7t e.z W (SlW.ext x h.1.1) (SlC.ext x h.1.2.1) (SlI.ext x h.1.2.2) (h.2.extS h.1.2.1 x)).mono λ_ _ ⟨l,j⟩=>⟨(j.resolve_right λh=>H h.1).2,l⟩
theorem yH.opw{α:Type}{at_:Nat->Nat->α->Prop}{xs:List α}{w:World}(h:yH at_ s (.slice (some (aA b 0)) n k) xs)(m:Nf1 b w)(g:∀o x,at_ b o x->∀j,j<s->∃v,w.cell? (aA b (o+j))=some v):Opw b xs.length s w:=⟨m,λi l j q=>by
 obtain⟨ad,c,e,_,f⟩:=h;cases e;obtain⟨_,_,e,t⟩:=f i l;cases e;have:=g _ _ t j q;rwa[kO]at this⟩
theorem b0u.ov{w:World}(h:b0u B U w x br kr bc kc bg kg pb pa pk):Ovh B U w ⟨x,some (aA br 0),kr,some (aA bc 0),kc,some (aA bg 0),kg⟩:=by
 refine⟨⟨h.l.1,h.l.2.1,h.l.2.2.1⟩,λ_=>⟨br,rfl,h.b.1.1,h.b.1.2,yH.opw h.r h.nr λo x t j l=>?_,λc e=>by cases e;exact h.d.1⟩,λ_=>⟨bg,rfl,h.b.2.2.1,h.b.2.2.2,yH.opw h.g h.ng λo x t j l=>?_,λc e=>by cases e;exact h.d.2.2.symm⟩,λ_=>⟨bc,rfl,h.b.2.1.1,h.b.2.1.2,⟨h.nc,λi l j m=>?_⟩,λi l=>⟨pa i,_,pk i,h.p7 i l,h.l.2.2.2 i l,λn=>?_⟩⟩⟩;obtain rfl|rfl|rfl:=(by omega:j=0\/j=1\/j=2);exact⟨_,t.1⟩;exact⟨_,t.2.1⟩;exact⟨_,t.2.2⟩;obtain rfl:=(by omega:j=0);exact⟨_,t⟩;obtain⟨a,b,c,d,e,f,g⟩:=h.s i l;obtain rfl|rfl|rfl|rfl|rfl|rfl|rfl|rfl:=(by omega:j=0\/j=1\/j=2\/j=3\/j=4\/j=5\/j=6\/j=7);exact⟨_,a⟩;exact⟨_,b⟩;exact⟨_,c⟩;exact⟨_,d⟩;exact⟨_,e⟩;exact⟨_,f⟩;exact⟨_,g⟩;exact⟨_,h.p7 i l⟩;obtain⟨a,b,c,d⟩:=h.pl i l n;have q:=h.p i l;rw[a]at q;refine⟨pb i,a,c.2.1,d.1,d.2,yH.opw q b λo x t j l=>?_⟩;obtain⟨a,b,c,d,e,f⟩:=t;obtain rfl|rfl|rfl|rfl|rfl|rfl:=(by omega:j=0\/j=1\/j=2\/j=3\/j=4\/j=5);exact⟨_,a⟩;exact⟨_,b⟩;exact⟨_,c⟩;exact⟨_,d⟩;exact⟨_,e⟩;exact⟨_,f⟩
theorem roK{e:He}{w:World}(h:e.at w):Calls prog 11 #[e.v] w λr W=>∃d:He,r=.returned d.v/\Hid (Ovh w.heap.size W.heap.size W d)/\Ext w W:=by
 by_cases H:qU e.z 0;rotate_left
 ·obtain⟨x,ar,kr,ac,kc,ag,kg⟩:=e;go_in;go_wp21;refine(sndN h H (eA2 w _ _)).mono ?_;rintro e m ⟨rfl,l⟩;have Z:=zB l rfl (b:=w.heap.size+1) (by simp);have x2:=(eA2 w _ _).trans l;obtain⟨⟨e0,e1,e2,e3,e4,e5,e6,e7,e8,e9,R,U,L⟩,F,d⟩:=Z.1;go_wp21;refine bodyPost_ret (v:=He.v He0) (by simp[results,results11,go_sem,He0,Hp0,e0,e1,e2,e3,e4,e5,e6,e7,e8,e9,R,U,L]) rfl ⟨He0,rfl,Ovh.z0 _ _ _,?_⟩;refine(λ(F:uZ (λq=>q=w.heap.size+1) m _)=>F.ext x2 (λq k e=>by omega)) ?_;repeat (first|refine uZ.setCell ?_ (by simp) _|exact uZ.refl _ _)
 obtain⟨x,ar,kr,ac,kc,ag,kg⟩:=e;obtain⟨_,HZ⟩:=pZ;have H:=uU H.snd;have A:=uU h;go_in;go_wp21;refine(sndI A H (eA2 w _ _)).mono ?_;rintro e m ⟨b,_,_,rfl,V,l⟩;have Z:=zB l rfl (b:=w.heap.size+1) (by simp);have x2:=(eA2 w _ _).trans l;have d:=Z.1.2.2;go_wp21;refine(ownI HZ V H).mono ?_;rintro e w4 ⟨s,rfl,ST,x4⟩;go_wp21;refine(b2e ST (by omega) H m (hT _) x4).mono ?_;rintro e w5 ⟨z,y,rfl,r,h5,x5⟩;have IS:=uU (show a9y x y from⟨z,r⟩);have QT:=uU (b6h h5 (IS.snd H) x5.size);go_wp21;refine QT.mono ?_;rintro e w6 ⟨br,E,t,C,_,_,_,rfl,h6,x6⟩;have a:=x5.trans x6;have X6:=x2.trans a;obtain⟨⟨e0,e1,e2,e3,e4,e5,e6,e7,e8,e9,R,U,L⟩,F,_⟩:=Z.1.ext a;have RW:=uU h6.ov;go_wp2;refine bodyPost_ret (v:=y.v (sS br y.B.length E) (sS t y.A.length y.A.length) (sS C y.D.length y.D.length)) (by simp[results,results11,go_sem,e0,e1,e2,e3,e4,e5,e6,e7,e8,e9,R,U,L]) rfl ⟨⟨y,_,_,_,_,_,_⟩,rfl,?_⟩;refine(λ(F:uZ (λq=>q=w.heap.size+1) w6 _)=>⟨RW.w (F.mono λq e=>by omega) (by omega),F.ext X6 (λq l e=>by omega)⟩) ?_;repeat (first|refine uZ.setCell ?_ (by simp) _|exact uZ.refl _ _)
theorem stK{e:He}{w:World}(h:e.at w)(n:Nat)(k:n<=100000):Calls prog 9 #[e.v,iv n] w λr W=>∃(d:He)(a:Nat),r=.returned (d.v1 a)/\Hid (Ovh w.heap.size W.heap.size W d)/\Ext w W:=by
 by_cases H:qU e.z 0;rotate_left
 ·obtain⟨x,ar,kr,ac,kc,ag,kg⟩:=e;go_in;go_wp21;refine(sndN h H (eA2 w _ _)).mono ?_;rintro e m ⟨rfl,l⟩;have Z:=zB l rfl (b:=w.heap.size+1) (by simp);have x2:=(eA2 w _ _).trans l;have e13:=Z.2 13 _ rfl;obtain⟨⟨e0,e1,e2,e3,e4,e5,e6,e7,e8,e9,R,U,L⟩,F,d⟩:=Z.1;clear l h;go_wp21;refine bodyPost_ret (v:=He.v1 He0 (0:Nat)) (by simp[results,results9,go_sem,He0,Hp0,e0,e1,e2,e3,e4,e5,e6,e7,e8,e9,R,U,L,e13]) rfl ⟨He0,0,rfl,Ovh.z0 _ _ _,?_⟩;refine(λ(F:uZ (λq=>q=w.heap.size+1) m _)=>F.ext x2 (λq k e=>by omega)) ?_;repeat (first|refine uZ.setCell ?_ (by simp) _|exact uZ.refl _ _)
 obtain⟨x,ar,kr,ac,kc,ag,kg⟩:=e;obtain⟨_,HZ⟩:=pZ;have H:=uU H.snd;have A:=uU h;clear h;go_in;go_wp21;refine(sndI A H (eA2 w _ _)).mono ?_;rintro e m ⟨b,_,_,rfl,V,l⟩;have Z:=zB l rfl (b:=w.heap.size+1) (by simp);have x2:=(eA2 w _ _).trans l;have d:=Z.1.2.2;clear l;go_wp21;refine(b7c (n:Int) 0 100000 _ (by omega) (by omega)).mono ?_;rintro e X ⟨rfl,rfl⟩;go_wp21;refine(ownI HZ V H).mono ?_;rintro e w4 ⟨s,rfl,ST,x4⟩;go_wp21;refine(c2g n ST (by omega) H k X (hT _) x4).mono ?_;rintro e w5 ⟨k,rfl,st,h5,x5⟩;obtain⟨y,hy⟩:=obE (itU k (stepH x n));have IS:=uU (show SpIs x n y from⟨k,st,hy⟩);rw[<-hy]at h5;have QT:=uU (b6h h5 (IS.snd H) x5.size);clear hy st ST;go_wp21;refine QT.mono ?_;rintro e w6 ⟨br,E,t,C,_,_,_,rfl,h6,x6⟩;have a:=x5.trans x6;have X6:=x2.trans a;have e13:=a.keep (Z.2 13 _ rfl);obtain⟨⟨e0,e1,e2,e3,e4,e5,e6,e7,e8,e9,R,U,L⟩,F,_⟩:=Z.1.ext a;have RW:=uU h6.ov;go_wp21;refine bodyPost_ret (v:=He.v1 ⟨y,some (aA br 0),E,some (aA t 0),y.A.length,some (aA C 0),y.D.length⟩ k) (by simp[results,results9,go_sem,e0,e1,e2,e3,e4,e5,e6,e7,e8,e9,R,U,L,e13]) rfl ⟨⟨y,_,_,_,_,_,_⟩,k,rfl,?_⟩;refine(λ(F:uZ (λq=>q=w.heap.size+1) w6 _)=>⟨RW.w (F.mono λq e=>by omega) (by omega),F.ext X6 (λq l e=>by omega)⟩) ?_;repeat (first|refine uZ.setCell ?_ (by simp) _|exact uZ.refl _ _)
theorem seK{e:He}{w:World}(h:e.at w):Calls prog 8 #[e.v] w λr W=>∃(d:He)(a b:Nat),r=.returned (d.v2 a b)/\Hid (Ovh w.heap.size W.heap.size W d)/\Ext w W:=by
 by_cases H:qU e.z 0;rotate_left
 ·obtain⟨x,ar,kr,ac,kc,ag,kg⟩:=e;go_in;go_wp21;refine(sndN h H (eA2 w _ _)).mono ?_;rintro e m ⟨rfl,l⟩;have Z:=zB l rfl (b:=w.heap.size+1) (by simp);have x2:=(eA2 w _ _).trans l;have e13:=Z.2 13 _ rfl;have e14:=Z.2 14 _ rfl;obtain⟨⟨e0,e1,e2,e3,e4,e5,e6,e7,e8,e9,R,U,L⟩,F,d⟩:=Z.1;clear l h;go_wp21;refine bodyPost_ret (v:=He.v2 He0 (0:Nat) (0:Nat)) (by simp[results,results8,go_sem,He0,Hp0,e0,e1,e2,e3,e4,e5,e6,e7,e8,e9,R,U,L,e13,e14]) rfl ⟨He0,0,0,rfl,Ovh.z0 _ _ _,?_⟩;refine(λ(F:uZ (λq=>q=w.heap.size+1) m _)=>F.ext x2 (λq k e=>by omega)) ?_;repeat (first|refine uZ.setCell ?_ (by simp) _|exact uZ.refl _ _)
 obtain⟨x,ar,kr,ac,kc,ag,kg⟩:=e;obtain⟨_,HZ⟩:=pZ;have H:=uU H.snd;have A:=uU h;clear h;go_in;go_wp21;refine(sndI A H (eA2 w _ _)).mono ?_;rintro e m ⟨b,_,_,rfl,V,l⟩;have Z:=zB l rfl (b:=w.heap.size+1) (by simp);have x2:=(eA2 w _ _).trans l;have d:=Z.1.2.2;clear l;go_wp21;refine(ownI HZ V H).mono ?_;rintro e w4 ⟨s,rfl,ST,x4⟩;obtain⟨_,K,_,_,_,_,_,_,br,_,_,_,_,_,_,_,_,_,_,_,_,_,Q,_⟩:=uH ST;have Q:=uU Q;clear ST;go_wp21;refine(b6e Q H m (hT _) x4).mono ?_;rintro e w5 ⟨J,rfl,hH,h5,x5⟩;obtain⟨gn,O⟩:=obE (qJ x J x.A.length);obtain⟨dn,P⟩:=obE (kE x J x.A.length);obtain⟨y,hy⟩:=obE (a1u x J);have IS:=uU (show SlIs x y from⟨J,hH,hy⟩);rw[<-hy]at h5;rw[<-O,<-P];have SY:=uU (IS.snd H);have QT:=uU (c3e w5 h5 SY.r5.2.2 SY.ok.r16.1 ⟨SY.ok.r16.2,SY.ok.n8,by have:=a2d SY.ok;omega,SY.ok.p200⟩ x5.size);clear hy O P hH Q h5;go_wp21;refine QT.mono ?_;rintro e w6 ⟨t,C,rfl,h6,x6⟩;have a:=x5.trans x6;have X6:=x2.trans a;have e13:=a.keep (Z.2 13 _ rfl);have e14:=a.keep (Z.2 14 _ rfl);obtain⟨⟨e0,e1,e2,e3,e4,e5,e6,e7,e8,e9,R,U,L⟩,F,_⟩:=Z.1.ext a;have RW:=uU h6.ov;clear QT h6;go_wp21;refine bodyPost_ret (v:=He.v2 ⟨y,some (aA br 0),K,some (aA t 0),y.A.length,some (aA C 0),y.D.length⟩ gn dn) (by simp[results,results8,go_sem,e0,e1,e2,e3,e4,e5,e6,e7,e8,e9,R,U,L,e13,e14]) rfl ⟨⟨y,_,_,_,_,_,_⟩,gn,dn,rfl,?_⟩;refine(λ(F:uZ (λq=>q=w.heap.size+1) w6 _)=>⟨RW.w (F.mono λq e=>by omega) (by omega),F.ext X6 (λq l e=>by omega)⟩) ?_;repeat (first|refine uZ.setCell ?_ (by simp) _|exact uZ.refl _ _)
theorem d4z(p:Inhabited uL){a q c:Nat}{n:Int}{v:World}(s:Snd x)(hC:C+64000<=1000000000)(hv:v.heap.size<=B):
  ∀k:Nat,1<=k->k<=24->(a:Int)<=a6y k->(q:Int)<=kJ k->(c:Int)<=gH k->d4r p C B b x a q c n k v:=by
 intro k h1 h2 ha hq hc p1 ba bs za zs _ p2 bd W g zd sub xv;obtain _|_|_|_|_|_|_|_|_|_|_|_|_|_|_|_|_|_|_|_|_|_|_|_|_|k:=k;all_goals try omega
 all_goals
  simp[a6y,kJ,gH]at ha hq hc;first|exact way_2 g s zd (by omega) v hv xv|exact way_3 g s zd (by omega) v hv xv|exact way_19 g s zd (by omega) v hv xv|exact way_10 g s zd (by omega) v hv xv|exact way_14 g s zd (by omega) v xv|exact way_15 g s zd (by omega) v xv|exact way_4 g s zd (by omega) (by omega) v hv xv|exact way_5 _ _ (by decide) g s zd (by omega) (by omega) v hv xv|exact way_7 _ _ (by decide) g s zd (by omega) (by omega) v hv xv|exact way_16 _ _ _ (by decide) g s zd (by omega) v (λ_=>hv) xv|exact way_12 g s zd (by omega) (by omega) v hv xv|exact way_13 g s zd (by omega) (by omega) v xv|exact way_18 g s zd v hv xv|exact d4g _ _ _ _ _ (.inl ⟨rfl,rfl,rfl,rfl,rfl⟩) g s zd v xv|exact d4g _ _ _ _ _ (.inr ⟨rfl,rfl,rfl,rfl,rfl⟩) g s zd v xv|exact way_22 g s zd hC (by omega) v hv xv|exact way_23 g zd v hv xv|exact way_24 g s zd hC v hv xv|exact way_9 g s zd (sub ba _ za) (sub bs _ zs) hC (by omega) (by omega) v hv xv|exact way_1 g s zd (sub ba _ za) (sub bs _ zs) hC (by omega) (by omega) (by omega) v hv xv
theorem c5v[p:qr]{w:World}(h:SOq C B w b x)(s:Snd x)(H:C+64000<=1000000000)(op a q c n:Int)(v:World)(G:v.heap.size<=B)(l:Ext v w)(o:v.cell? (aA 0 0)=some (rty 112)):
  Calls prog 22 #[pP b,yU op a q c n] w λe w'=>∃(y:Hp)(i j:Int),Hid (e=.returned (tD i j))/\Hid (gU x op a q c n y i j)/\Hid (SOq (C+64000) B w' b y)/\Ext v w':=by
 cases g:zC op a q c n
 refine(d0h b op a q c n w (noWay op a q c n g) (l.keep o)).mono ?_;rintro e w' ⟨F,m⟩;exact⟨x,1,0,F,.inl ⟨g,rfl,rfl,rfl⟩,(h.ext m).wide (by omega),l.trans m⟩;have f:=a5n g;have E:(n != 0)=false\/((n != 0)=true/\(op != 2)=false):=by
  have:=g;unfold zC at this;simp only[Bool.and_eq_true,decide_eq_true_eq]at this;obtain z|z:=this.1.2;exact .inl (by simp[z])
  cases e:(n != 0)
  ·exact .inl rfl
  exact .inr ⟨rfl,by simp[z]⟩
 obtain⟨k,rfl⟩:∃k:Nat,op=k:=⟨op.toNat,by omega⟩;obtain⟨a,rfl⟩:∃k:Nat,a=k:=⟨a.toNat,by omega⟩;obtain⟨q,rfl⟩:∃k:Nat,q=k:=⟨q.toNat,by omega⟩;obtain⟨c,rfl⟩:∃k:Nat,c=k:=⟨c.toNat,by omega⟩;refine(d0g h (k:=k) (by omega) (by omega) E (by simp only[Bool.and_eq_true,decide_eq_true_eq];exact⟨f.2.1,f.2.2.1,f.2.2.2⟩) v l o (λy i j d=>by rw[d.M];have:=s.r1.M;omega) (λt _=>d4z t s H G k (by omega) (by omega) f.2.1.2 f.2.2.1.2 f.2.2.2.2)).mono ?_;rintro e w' ⟨y,i,j,u,A,r,D⟩;exact⟨y,i,j,u,.inr ⟨g,by simpa using uH A⟩,r,D⟩
theorem dkN{e:He}{w:World}(h:e.at w)(H:¬qU e.z 0)(op a q c n:Int):Calls prog 5 #[e.v,yU op a q c n] w λr W=>r=.returned (He.v2 He0 0 0)/\Ext w W:=by
 obtain⟨x,ar,kr,ac,kc,ag,kg⟩:=e;go_in;go_wp21;refine(sndN h H (eA3 w _ _ _)).mono ?_;rintro e m ⟨rfl,l⟩;have Z:=zB l rfl (b:=w.heap.size+2) (by simp);have x2:=(eA3 w _ _ _).trans l;have e13:=Z.2 13 _ rfl;have e14:=Z.2 14 _ rfl;obtain⟨⟨e0,e1,e2,e3,e4,e5,e6,e7,e8,e9,R,U,L⟩,F,d⟩:=Z.1;go_wp21;refine bodyPost_ret (v:=He.v2 He0 0 0) (by simp[results,results5,go_sem,He0,Hp0,e0,e1,e2,e3,e4,e5,e6,e7,e8,e9,R,U,L,e13,e14]) rfl ⟨rfl,?_⟩;refine(λ(F:uZ (λq=>q=w.heap.size+2) m _)=>F.ext x2 (λq k e=>by omega)) ?_;repeat (first|refine uZ.setCell ?_ (by simp) _|exact uZ.refl _ _)
theorem dkI{e:He}{w:World}(h:e.at w)(H:Snd e.z)(op a q c n:Int)(hg:w.cell? (aA 0 0)=some (rty 112)):Calls prog 5 #[e.v,yU op a q c n] w λr W=>∃(d:He)(i j:Int),r=.returned (d.v2 i j)/\Hid (gU e.z op a q c n d.z i j)/\Hid (d.at W)/\Hid (Ovh w.heap.size W.heap.size W d)/\Ext w W:=by
 obtain⟨x,ar,kr,ac,kc,ag,kg⟩:=e;obtain⟨_,HZ⟩:=pZ;have H:=uU H;have A:=uU h;have G:=uU hg;clear h hg;go_in;go_wp21;refine(sndI A H (eA3 w _ _ _)).mono ?_;rintro e l ⟨b,_,_,rfl,V,k⟩;have Z:=zB k rfl (b:=w.heap.size+2) (by simp);have Q:=aB k;have x2:=(eA3 w _ _ _).trans k;have d:=Z.1.2.2;have G:=uU (x2.keep G);clear k;go_wp21;refine(ownI HZ V H).mono ?_;rintro e w4 ⟨s,rfl,ST,L⟩;have a0:=L.keep Q.1;have a1:=L.keep Q.2.1;have a2:=L.keep Q.2.2.1;have a3:=L.keep Q.2.2.2.1;have a4:=L.keep Q.2.2.2.2;have am:w.heap.size+1<w4.heap.size:=uQ a0;have QN:=uU (c5v ST H (by omega) op a q c n l (hT _) L G);go_wp21;refine QN.mono ?_;rintro e t ⟨y,i,j,he,hd,h5,x5⟩;have e2:=uH he;subst e2;have QT:=uU (λW(xW:Ext t W)=>b6h (h5.ext xW) (gU.snd H hd) (kA x5.size xW.size));clear he h5 QN a0 a1 a2 a3 a4 am ST;go_wp21;obtain⟨M,m⟩:=obE (t.alloc (.cells #[iv i,iv j] 33));have I:Ext t M:=by rw[m];exact(hO _).alloc _
 have z0:M.cell? (aA t.heap.size 0)=some (iv i):=by rw[m];simp[go_sem]
 have z1:M.cell? (aA t.heap.size 1)=some (iv j):=by rw[m];simp[go_sem]
 have bc:=cLt z0;have bh:w.heap.size+3<=t.heap.size:=kA d x5.size;have au:=uU (x5.trans I);rw[<-m];clear m;have O:=uU I;clear I;go_region_with (go_at_call 23;refine(QT _ (by first|exact O.drew|exact O)).mono ?_;rintro e w7 ⟨br,T,R,X,pb,pa,pk,rfl,h7,x7⟩;have p:Ext M w7:=(by first|exact kI (eDr M) x7|exact x7);have d:=au.trans p;have al:=p.keep z0;have bb:=p.keep z1;have be:=cLt al;have e13:=d.keep (Z.2 13 _ rfl);have e14:=d.keep (Z.2 14 _ rfl);obtain⟨⟨e0,e1,e2,e3,e4,e5,e6,e7,e8,e9,ak,ae,aq⟩,F,ba⟩:=Z.1.ext d;have RW:=h7.w;have OV:=uU h7.ov;have XX:=uU (x2.trans d);clear h7 x7 p d);all_goals
  go_wp21;refine bodyPost_ret (v:=He.v2 ⟨y,some (aA br 0),T,some (aA R 0),y.A.length,some (aA X 0),y.D.length⟩ i j) (by simp[results,results5,go_sem,e0,e1,e2,e3,e4,e5,e6,e7,e8,e9,ak,ae,aq,e13,e14]) rfl ⟨⟨y,_,_,_,_,_,_⟩,i,j,rfl,uH hd,?_⟩;refine(λ(F:uZ (λq=>q=w.heap.size+2) w7 _)=>⟨uH RW _ (F.mono λq e=>by omega),(uH OV).w (F.mono λq e=>by omega) (by omega),F.ext (uH XX) (λq k e=>by omega)⟩) ?_;repeat (first|(with_reducible refine uZ.setCell ?_ (by simp) _)|(with_reducible exact uZ.refl _ _)|(with_reducible refine uZ.drew ?_))
theorem dkS{e:He}{w:World}(h:e.rd w)(H:Snd e.z)(op a q c n:Int):Calls prog 7 #[e.v,yU op a q c n] w λr W=>∃(d:He)(i j:Int),r=.returned (d.v2 i j)/\Hid (gU e.z op a q c n d.z i j)/\Hid (d.rd W)/\Ext w W:=by
 obtain⟨x,ar,kr,ac,kc,ag,kg⟩:=e;obtain⟨_,HZ⟩:=pZ;have H:=uU H;have A:=uU h;have HB:=uU (λT b c=>(cK.new w x (.slice ar x.B.length kr) (.slice ac x.A.length kc) (.slice ag x.D.length kg) T).ext (eA2 _ b c));go_in;go_wp21;refine(a6o x _ (SlW.ext (eA3 w _ _ _) A.1) (SlC.ext (eA3 w _ _ _) A.2.1) (SlI.ext (eA3 w _ _ _) A.2.2)).mono ?_;rintro e m ⟨k,rfl,B,l⟩;cases B.uniq H.ok;have Z:=zB l rfl (b:=w.heap.size+2) (by simp);have Q:=aB l;have x2:=(eA3 w _ _ _).trans l;obtain⟨b0,b1,b2,b3,b4,b5,b6,b7,b8,b9,ba,bb,bc⟩:=(HB _ _ _).ext l;have d:=Z.1.2.2;have hb0:=cLt b4;go_wp21;refine(copyS HZ (e:=⟨x,ar,kr,ac,kc,ag,kg⟩) A H x2).mono ?_;rintro e w3 ⟨g,rfl,hg,q3⟩;have QD:=uU (c2b m.heap.size g x op a q c n w3 hg H m (hT _) q3);have a0:=q3.keep Q.1;have a1:=q3.keep Q.2.1;have a2:=q3.keep Q.2.2.1;have a3:=q3.keep Q.2.2.2.1;have a4:=q3.keep Q.2.2.2.2;have ha3:w.heap.size+1<w3.heap.size:=uQ a0;go_wp21;refine QD.mono ?_;rintro e w4 ⟨y,i,j,he,hd,h4,c⟩;have e2:=uH he;subst e2;obtain⟨⟨y,A,E,t,C,D,I⟩,rfl,az,⟨d0,d1,d2,d3,d4,d5,d6,d7,d8,d9,da,db,dc⟩,RD⟩:=GOk.w HZ h4 (gU.snd H hd);have X4:=x2.trans c;have hg4:=cLt d0;have ng:¬g=w.heap.size+2:=by omega
 have ng2:¬w.heap.size+2=g:=by omega
 have e13:=c.keep ((uH Z).2 13 _ rfl);have e14:=c.keep ((uH Z).2 14 _ rfl);obtain⟨⟨e0,e1,e2,e3,e4,e5,e6,e7,e8,e9,R,U,L⟩,F,hr4⟩:=(uH Z).1.ext c;go_wp21;go_region;go_wp21;refine bodyPost_ret (v:=He.v2 ⟨y,A,E,t,C,D,I⟩ i j) (by simp[results,results7,go_sem,e0,e1,e2,e3,e4,e5,e6,e7,e8,e9,R,U,L,e13,e14,hr4]) rfl ⟨⟨y,_,_,_,_,_,_⟩,i,j,rfl,uH hd,?_⟩;refine(λ(F:uZ (λq=>q=w.heap.size+2) w4 _)=>⟨uH RD _ (F.mono λq e=>by omega),F.ext X4 (λq l e=>by omega)⟩) ?_;with_reducible refine uZ.drew ?_;with_reducible refine uZ.trans ?_ (uZ.of_ext (eAl _ _));repeat (first|(with_reducible refine uZ.setCell ?_ (by simp) _)|(with_reducible exact uZ.refl _ _))
theorem dkSN{e:He}{w:World}(h:e.rd w)(H:¬qU e.z 0)(op a q c n:Int):Calls prog 7 #[e.v,yU op a q c n] w λr W=>r=.returned (He.v2 He0 0 0)/\Ext w W:=by
 obtain⟨x,ar,kr,ac,kc,ag,kg⟩:=e;go_in;go_wp21;refine(a6o x _ (SlW.ext (eA3 w _ _ _) h.1) (SlC.ext (eA3 w _ _ _) h.2.1) (SlI.ext (eA3 w _ _ _) h.2.2)).mono ?_;rintro e m ⟨k,rfl,B,l⟩;have t:(k != 0)=true:=by simp;exact λe=>H (e▸B)
 have Z:=zB l rfl (b:=w.heap.size+2) (by simp);have x2:=(eA3 w _ _ _).trans l;have e13:=Z.2 13 _ rfl;have e14:=Z.2 14 _ rfl;obtain⟨⟨e0,e1,e2,e3,e4,e5,e6,e7,e8,e9,R,U,L⟩,F,d⟩:=Z.1;go_wp21;refine bodyPost_ret (v:=He.v2 He0 0 0) (by simp[results,results7,go_sem,He0,Hp0,e0,e1,e2,e3,e4,e5,e6,e7,e8,e9,R,U,L,e13,e14]) rfl ⟨rfl,?_⟩;refine(λ(F:uZ (λq=>q=w.heap.size+2) m _)=>F.ext x2 (λq k e=>by omega)) ?_;repeat (first|refine uZ.setCell ?_ (by simp) _|exact uZ.refl _ _)
def DoK(x:Hp)(op a q c n:Int)(y:Hp):Prop:=(qU x 0/\∃i j,gU x op a q c n y i j)\/(¬qU x 0/\y=Hp0)
theorem DoK.uniq{z:Hp}{op q c n:Int}(h:DoK x op a q c n y)(g:DoK x op a q c n z):z=y:=by
 obtain⟨s,_,_,d⟩|⟨s,d⟩:=h <;> obtain⟨t,_,_,f⟩|⟨t,f⟩:=g
 exact(d.uniq s f).1.symm;exact absurd s t;exact absurd t s;rw[d,f]
theorem doK{e:He}{w:World}(h:e.at w)(op a q c n:Int)(hg:w.cell? (aA 0 0)=some (rty 112)):Calls prog 5 #[e.v,yU op a q c n] w λr W=>∃(d:He)(i j:Int),r=.returned (d.v2 i j)/\Hid (DoK e.z op a q c n d.z)/\Hid (d.at W)/\Hid (Ovh w.heap.size W.heap.size W d)/\Ext w W:=by
 by_cases H:qU e.z 0;exact(dkI h H.snd op a q c n hg).mono λ_ _ ⟨d,i,j,e,f,r⟩=>⟨d,i,j,e,.inl ⟨H,i,j,f⟩,r⟩
 exact(dkN h H op a q c n).mono λ_ W ⟨e,r⟩=>⟨He0,0,0,e,.inr ⟨H,rfl⟩,He.z0 W,Ovh.z0 _ _ _,r⟩
theorem doSK{e:He}{w:World}(h:e.rd w)(op a q c n:Int):Calls prog 7 #[e.v,yU op a q c n] w λr W=>∃(d:He)(i j:Int),r=.returned (d.v2 i j)/\Hid (DoK e.z op a q c n d.z)/\Hid (d.rd W)/\Ext w W:=by
 by_cases H:qU e.z 0;exact(dkS h H.snd op a q c n).mono λ_ _ ⟨d,i,j,e,f,r⟩=>⟨d,i,j,e,.inl ⟨H,i,j,f⟩,r⟩
 exact(dkSN h H op a q c n).mono λ_ W ⟨e,r⟩=>⟨He0,0,0,e,.inr ⟨H,rfl⟩,(He.z0 W).1,r⟩
theorem c5x(x:Hp)(w:World){ar' ac' ag':Option Addr}{kr' kc' kg':Nat}(h:HRd w x ar kr ac kc ag kg)(h':HRd w x ar' kr' ac' kc' ag' kg'):
  Calls prog 6 #[x.v (.slice ar x.B.length kr) (.slice ac x.A.length kc) (.slice ag x.D.length kg),x.v (.slice ar' x.B.length kr') (.slice ac' x.A.length kc') (.slice ag' x.D.length kg')] w λe w'=>e=.returned (.bool true)/\Ext w w':=by
 obtain⟨W,hW⟩:=nM ((w.alloc (.cells #[iv x.M,iv x.K,iv x.born,.slice ar x.B.length kr,.slice ac x.A.length kc,iv x.E,iv x.I,iv x.sub,.slice ag x.D.length kg,iv x.per,iv x.V,iv x.Q,iv x.S] 27)).alloc (.cells #[iv x.M,iv x.K,iv x.born,.slice ar' x.B.length kr',.slice ac' x.A.length kc',iv x.E,iv x.I,iv x.sub,.slice ag' x.D.length kg',iv x.per,iv x.V,iv x.Q,iv x.S] 27));have xW:Ext w W:=by rw[hW];exact((hO w).alloc _).alloc _
 have s:=uU (cK.new w x (.slice ar x.B.length kr) (.slice ac x.A.length kc) (.slice ag x.D.length kg) 27);have t:=uU (cK.new (w.alloc (.cells #[iv x.M,iv x.K,iv x.born,.slice ar x.B.length kr,.slice ac x.A.length kc,iv x.E,iv x.I,iv x.sub,.slice ag x.D.length kg,iv x.per,iv x.V,iv x.Q,iv x.S] 27)) x (.slice ar' x.B.length kr') (.slice ac' x.A.length kc') (.slice ag' x.D.length kg') 27);have s:=uU (s.ext ((hO _).alloc (.cells #[iv x.M,iv x.K,iv x.born,.slice ar' x.B.length kr',.slice ac' x.A.length kc',iv x.E,iv x.I,iv x.sub,.slice ag' x.D.length kg',iv x.per,iv x.V,iv x.Q,iv x.S] 27)));have e1:(w.alloc (.cells #[iv x.M,iv x.K,iv x.born,.slice ar x.B.length kr,.slice ac x.A.length kc,iv x.E,iv x.I,iv x.sub,.slice ag x.D.length kg,iv x.per,iv x.V,iv x.Q,iv x.S] 27)).heap.size=w.heap.size+1:=by simp[go_sem]
 rw[<-hW]at s t;rw[e1]at t;have S:=uU (h.ext xW);have Z:=uU (h'.ext xW);obtain⟨p,hp⟩:=nM w.heap.size;clear h h' e1;go_enter func6,ntmps6;go_upto_region 1 with(fail);rw[<-hW,<-hp];rw[<-hp]at s t;obtain⟨r,N,I,B,C,M,G,L,H,Q,d,m,g⟩:=uH s;obtain⟨q,R,O,J,K,P,E,D,z,F,j,l,c⟩:=uH t;have f:p<W.heap.size:=uQ r;have n:p+1<W.heap.size:=uQ q;have XW:=uU xW;clear hW hp xW;go_wp21;refine(c3q x.B _ _ _ S.1 Z.1).mono ?_;rintro e T ⟨rfl,A⟩;have s:=uU (s.ext A);have t:=uU (t.ext A);have S:=uU (S.ext A);have Z:=uU (Z.ext A);have XW:=uU (XW.trans A);clear r N I B C M G L H Q d m g q R O J K P E D z F j l c A f n;obtain⟨r,N,I,B,C,M,G,L,H,Q,d,m,g⟩:=uH s;obtain⟨q,R,O,J,K,P,E,D,z,F,j,l,c⟩:=uH t;have f:p<T.heap.size:=uQ r;have n:p+1<T.heap.size:=uQ q;go_wp21;go_loopw [5,6,7,47] (λ_a _b _c i wr=>∃k:Nat,k<=x.A.length/\i=iv k/\Ext T wr) (λ_ _ _ i _=>x.A.length-(intOf i).toNat)
 case atStart=>exact⟨0,kB _,rfl,hO _⟩
 case round=>
  obtain⟨k,hk,rfl,a⟩:=hrel;have B3:=uU (s.ext a);have B4:=uU (t.ext a);clear r N I B C M G L H Q d m g q R O J K P E D z F j l c f n;obtain⟨r,N,I,B,C,M,G,L,H,Q,d,m,g⟩:=uH B3;obtain⟨q,R,O,J,K,P,E,D,z,F,j,l,c⟩:=uH B4;have f:p<wr.heap.size:=uQ r;have n:p+1<wr.heap.size:=uQ q;by_cases X:k<x.A.length;obtain⟨_,_,ea,_,hx⟩:=S.2.1;obtain⟨_,_,eb,_,V⟩:=Z.2.1;obtain⟨b,o,rfl,vp,p0,p1,p2,p3,p4,p5,p6,p7,hP⟩:=hx k X;obtain⟨b',o',rfl,vq,q0,q1,q2,q3,q4,q5,q6,q7,hQ⟩:=V k X;cases ea;cases eb;obtain⟨ap,kp,rfl,U⟩:=hP;obtain⟨aq,kq,rfl,Y⟩:=hQ;have hP:SlP T (.slice ap (x.A[k]).F.length kp) (x.A[k]).F:=⟨ap,kp,rfl,U⟩;have hQ:SlP T (.slice aq (x.A[k]).F.length kq) (x.A[k]).F:=⟨aq,kq,rfl,Y⟩;clear U Y;have e0:=a.keep p0;have e1:=a.keep p1;have e2:=a.keep p2;have e3:=a.keep p3;have e4:=a.keep p4;have e5:=a.keep p5;have e6:=a.keep p6;have e7:=a.keep p7;have f0:=a.keep q0;have f1:=a.keep q1;have f2:=a.keep q2;have f3:=a.keep q3;have f4:=a.keep q4;have f5:=a.keep q5;have f6:=a.keep q6;have f7:=a.keep q7;have HP:=uU (SlP.ext a hP);have HQ:=uU (SlP.ext a hQ);have hb:b<wr.heap.size:=uQ e0;have ad:b'<wr.heap.size:=uQ f0;clear p0 p1 p2 p3 p4 p5 p6 p7 q0 q1 q2 q3 q4 q5 q6 q7 hx V hP hQ;have ab:(0:Int)<=(k:Int):=by omega
  have aa:(k:Int)<(x.A.length:Int):=by omega
  obtain⟨y,V⟩:=nM (x.A[k]);rw[<-V]at e0 e1 e2 e3 e4 e5 e6 e7 f0 f1 f2 f3 f4 f5 f6 f7 HP HQ;clear V;go_wp21;refine(c3r y.F _ _ _ (SlP.ext (((hO wr).alloc _).alloc _) HP) (SlP.ext (((hO wr).alloc _).alloc _) HQ)).mono ?_;rintro e w3 ⟨rfl,u⟩;have X3:=uU (a.trans (kI (((hO wr).alloc _).alloc _) u));clear u;go_wp21;go_roundw;exact⟨k+1,by omega,by go_num,X3⟩;simp[intOf];omega;go_wp21;refine(c5w x.D _ _ _ (SlI.ext a S.2.2) (SlI.ext a Z.2.2)).mono ?_;rintro e w3 ⟨rfl,u⟩;have B5:=uU (B3.ext u);have B6:=uU (B4.ext u);have X3:=uU ((XW.trans a).trans u);clear r N I B C M G L H Q d m g q R O J K P E D z F j l c f n u;obtain⟨r,N,I,B,C,M,G,L,H,Q,d,m,g⟩:=uH B5;obtain⟨q,R,O,J,K,P,E,D,z,F,j,l,c⟩:=uH B6;have f:p<w3.heap.size:=uQ r;have n:p+1<w3.heap.size:=uQ q;go_wp21;go_ret;exact⟨rfl,X3⟩
