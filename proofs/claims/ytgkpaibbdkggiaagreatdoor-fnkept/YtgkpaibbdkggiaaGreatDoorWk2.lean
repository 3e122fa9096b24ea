import Derived.Test.YtgkpaibbdkggiaaGreatDoorSg
import Derived.Test.YtgkpaibbdkggiaaGreatDoorImpB6
set_option maxRecDepth 100000
set_option maxHeartbeats 4000000
namespace Go.Proofs.YtgkpaibbdkggiaaGreatDoor
open Go.RowKit Tryz
attribute [local go_sem ↓] Go.wp_at_zero Go.wp_at_succ
variable{x z:Hp}{w w' w1 w2:World}{F F' G:List Int}{bn kr b B br hd kn C bw r1 n kc on bv kg base g i bc hd' j m cap:Nat}{K Mt St:List Nat}{ar ac ag:Option Addr}{pb pk role cB cO:Nat->Nat}{pa:Nat->Option Addr}{vf v4 v8 vk v:Value}
theorem b7e{y:Wd}(h:uJ y n)(e:y.k=2):0<=y.a/\y.a<n:=by grind[uJ]
theorem b8q(r:R4 x):∀i,i<x.A.length->∀k,k<(x.c i).F.length->uJ ((x.c i).p k).key x.A.length/\uJ ((x.c i).p k).val x.A.length:=λi b k e=>by
 have a:=(r.2 i b).2 k e;by_cases d:uW x i;exact a.1 d;exact⟨(a.2 d).1.1,(a.2 d).2.1⟩
def spB(x:Hp)(k:Nat):Bool:=(((x.c k).U == 1) || ((x.c k).U == 2)) && ((x.c k).J == 0) && ((x.E == 2) || decide ((k:Int)<x.I))
theorem c6d{k:Nat}:spB x k=true↔(dH (x.c k)/\(x.c k).J=0/\(x.E=2\/(k:Int)<x.I)):=by simp[spB,dH,and_assoc]
def wok(x:Hp)(k l:Nat):Prop:=¬eQ x ((x.c k).p l).key/\¬eQ x ((x.c k).p l).val
theorem c7j(r1:R1 x)(f:R6 x)(k:Nat):eZ x k<=(x.c k).F.length:=by
 unfold eZ;split;omega;split
 ·rename_i q;have e:=(f.2.1 q.1).2.2 q.2.1;unfold Hp.g0 at e;rw[q.2.2]at e;have:=r1.sub;simp at e;omega
 omega
theorem c0i(x:Hp)(b:Nat)(w:World)(h:HAt w b x ar kr ac kc ag kg)(r1:R1 x)(d:R4 x)(f:R6 x):
  Calls prog 64 #[.pointer (some ⟨b,0,none⟩)] w λe w'=>∃r:Bool,e=.returned (.bool r)/\(r=true↔R7 x)/\Ext w w':=by
 have c4:=h.c4;have c5:=h.c5;have lc:=h.lc;have FO:=uU (b8q d);have LK:=uU (c7j r1 f);have SB:=uU r1.sub.1;clear d f r1;go_enter func64,ntmps64;go_upto_region 1 with fail;go_cut [19] from 8 to 18 (λv wx=>v=.bool ((x.E != 1) && (x.E != 2))/\w=wx)
 case first=>
  cases p:(x.E != 1) <;> cases q:(x.E != 2) <;> (go_wp21;go_meet;exact⟨by simp[p,q],rfl⟩)
 case rest=>
 obtain⟨rfl,rfl⟩:=hcut;cases mk:((x.E != 1) && (x.E != 2));rotate_left
 ·have Y:=uU (show R7 x from λm=>by obtain m|m:=m <;> simp[m]at mk);go_wp2;go_ret;first|(exact kz ⟨rfl,Y,hO _⟩)|(exact⟨true,rfl,⟨λ_=>uH Y,λ_=>rfl⟩,hO _⟩)
 have MK:=uU (show uD x by unfold uD;simp at mk;omega);clear mk;go_wp21;go_loopw [25] (λi wr=>∃k:Nat,k<=x.A.length/\i=.int .i64 k/\Hid (∀j,j<k->spB x j=false/\∀l,l<eZ x j->wok x j l)/\Ext w wr) (λi _=>x.A.length-(intOf i).toNat)
 case atStart=>exact⟨0,kB _,rfl,λj h=>by omega,hO _⟩
 case round=>
 obtain⟨k,hk,rfl,HA,A⟩:=hrel;by_cases t:k<x.A.length;rotate_left
 ·have Y:=uU (show R7 x from λ_ i hi=>⟨λq=>(by have:=(HA i (by omega)).1;rw[c6d.2 q]at this;cases this),(HA i (by omega)).2⟩);go_wp2;go_ret;first|(exact kz ⟨rfl,Y,A⟩)|(exact⟨true,rfl,⟨λ_=>uH Y,λ_=>rfl⟩,A⟩)
 have y:=h.ext A;obtain⟨b',o,F,C,rfl,p0,p1,p2,p3,p4,p5,p6,p7,lp,P⟩:=y.cell k t;have HP:=uU P;have e5:=y.c5;have e6:=y.c6;have e7:=y.c7;have e8:=y.c8;have G:=uU y.G;have al:=cLt p0;have D:=cLt e8;have aj:=i0N k;have ae:(k:Int)<(x.A.length:Int):=by omega
 obtain⟨V,hV⟩:=obE (wr.alloc (oCl (x.c k) (.slice F (x.c k).F.length C)));have L:=uU (show Ext wr V by rw[hV];exact(hO wr).alloc _);have HV:=uU hV;clear hV P y;go_upto_region 6 with fail;go_cut [5] from 30 to 37 (λv wx=>∃u:Bool,v=.bool u/\Hid (u=(((x.c k).U == 1) || ((x.c k).U == 2)))/\V=wx)
 case first=>cases l1:((x.c k).U == 1) <;> cases l2:((x.c k).U == 2) <;> (go_wp21;go_meet;exact⟨_,rfl,by show _=_;rw[l1,l2];rfl,HV⟩)
 case rest=>
 obtain⟨u,rfl,U,rfl⟩:=hcut;have r3:V.cell? ⟨wr.heap.size,5,none⟩=some (.int .i64 (x.c k).J):=by rw[uH HV];simp[go_sem]
 have r7:V.cell? ⟨wr.heap.size,7,none⟩=some (.slice F (x.c k).F.length C):=by rw[uH HV];simp[go_sem]
 have rs:=cLt r3;have f5:=L.keep e5;have f6:=L.keep e6;have f7:=L.keep e7;have f8:=L.keep e8;go_upto_region 7 with fail;go_cut [58] from 38 to 57 (λv wx=>v=.bool (spB x k)/\V=wx)
 case first=>
  cases u <;> cases c0:((x.c k).J == 0) <;> cases p2:(x.E == 2) <;> by_cases kh:(k:Int)<x.I <;> (go_wp21;go_meet;exact⟨by simp only[spB,<-uH U,c0,p2,kh];first|rfl|simp[kh],rfl⟩)
 case rest=>
 obtain⟨rfl,rfl⟩:=hcut;cases sb:spB x k;rotate_left
 ·have N:=uU (show ¬R7 x from λr=>(r MK k t).1 (c6d.1 sb));go_wp2;go_ret;first|(exact kj ⟨rfl,N,A.trans L⟩)|(exact⟨false,rfl,fNo N,A.trans L⟩)
 have S0:=uU sb;clear sb;go_upto_region 10 with fail;go_cut [61] from 59 to 60 (λv wx=>∃u,Hid (v=.bool u)/\Hid (u=((x.c k).J == 2))/\V=wx)
 case first=>go_wp21;go_meet;exact⟨_,rfl,rfl,rfl⟩
 case rest=>
 obtain⟨u,e,cv,rfl⟩:=hcut;go_upto_region 11 with fail;go_cut [6] from 62 to 91 (λv wx=>v=.int .i64 (eZ x k)/\V=wx)
 case first=>
  have e:=uH e;subst e;by_cases gl:0<x.D.length
  ·obtain⟨bg,og,rfl,g0⟩:=uH G 0 gl;unfold a8e at g0;simp only[Nat.zero_mul,Nat.add_zero]at g0;have g1:=L.keep g0;have g2:=cLt g1;have g3:(0:Int)<(x.D.length:Int):=by omega
   cases u <;> cases p2:(x.E == 2) <;> cases gk:(x.D[0] == (k:Int)) <;> (go_wp21;go_meet;exact⟨by have c2:=uH cv;simp at c2 p2 gk;simp[eZ,c2,p2,gk,gl,List.length_pos_iff.1 gl] <;> (have:=uH SB;omega),rfl⟩)
  have g3:¬(0:Int)<(x.D.length:Int):=by omega
  cases u <;> cases p2:(x.E == 2) <;> (go_wp21;go_meet;exact⟨by have c2:=uH cv;simp at c2 p2;simp[eZ,c2,p2,show x.D.length=0 by omega],rfl⟩)
 case rest=>
 obtain⟨rfl,rfl⟩:=hcut;have lk:=uH LK k;obtain⟨n,hn⟩:=obE (eZ x k);rw[<-hn]at lk;have HN:=uU hn;rw[<-hn];clear hn;go_wp21;go_loopw [7] (λi m=>∃l:Nat,l<=n/\i=.int .i64 l/\Hid (∀j,j<l->wok x k j)/\Hid (Ext V m)) (λi _=>n-(intOf i).toNat)
 case atStart=>exact⟨0,kB _,rfl,λj h=>by omega,hO _⟩
 case round=>
 obtain⟨l,hl,rfl,HB,J⟩:=hrel;by_cases ln:l<n
 ·obtain⟨b2,o2,rfl,q0,q1,q2,q3,q4,q5⟩:=uH HP l (by omega);have E:=L.trans J;have g0:=E.keep q0;have g1:=E.keep q1;have g2:=E.keep q2;have g3:=E.keep q3;have g4:=E.keep q4;have g5:=E.keep q5;have g7:=J.keep r7;have l0:=i0N l;have l1:(l:Int)<(n:Int):=by omega
  have l2:(l:Int)<((x.c k).F.length:Int):=by omega
  have K:=uU (FO k t l (by omega));go_wp21;refine(b2o x b ((x.c k).p l).key _ (h.ext (A.trans E)) (λe=>b7e K.1 e)).mono ?_;rintro e w3 ⟨rfl,m⟩;have u7:=m.keep g7;have u3:=m.keep g3;have u4:=m.keep g4;have u5:=m.keep g5;have B:=uU (E.trans m);cases tk:a5h x ((x.c k).p l).key
  ·go_wp21;refine(b2o x b ((x.c k).p l).val _ (h.ext (A.trans B)) (λe=>b7e K.2 e)).mono ?_;rintro e w4 ⟨rfl,m4⟩;cases tv:a5h x ((x.c k).p l).val
   ·have S:=uU (show ∀j,j<l+1->wok x k j from λj hj=>by
     by_cases e:j=l;subst e;exact by simp[wok,<-a8s,tk,tv]
     exact HB j (by omega))
    go_wp2;go_roundw
    case rel=>exact⟨l+1,by omega,by go_num,S,(J.trans m).trans m4⟩
    simp[intOf];omega
   have N:=uU (show ¬R7 x from λr=>((r MK k t).2 l (by rw[<-uH HN];omega)).2 (a8s.1 tv));go_wp2;go_ret;first|(exact kj ⟨rfl,N,(A.trans B).trans m4⟩)|(exact⟨false,rfl,fNo N,(A.trans B).trans m4⟩)
  have N:=uU (show ¬R7 x from λr=>((r MK k t).2 l (by rw[<-uH HN];omega)).1 (a8s.1 tk));go_wp2;go_ret;first|(exact kj ⟨rfl,N,A.trans B⟩)|(exact⟨false,rfl,fNo N,A.trans B⟩)
 have S:=uU (show ∀j,j<k+1->spB x j=false/\∀l,l<eZ x j->wok x j l from λj hj=>by
  by_cases e:j=k;subst e;exact⟨S0,λi hi=>uH HB i (by rw[<-uH HN]at hi;omega)⟩;exact HA j (by omega))
 have l1:¬(l:Int)<(n:Int):=by omega
 go_wp2;go_roundw
 case rel=>exact⟨k+1,by omega,by go_num,S,(A.trans L).trans J⟩
 simp[intOf];omega
def eK(w:World)(b o:Nat)(c:Cl)(v:Value):World:=(((((((w.setCell ⟨b,o,none⟩ (iv c.st)).setCell ⟨b,o+1,none⟩ (iv c.kind)).setCell ⟨b,o+2,none⟩ (iv c.T)).setCell ⟨b,o+3,none⟩ (iv c.U)).setCell ⟨b,o+4,none⟩ (iv c.born)).setCell ⟨b,o+5,none⟩ (iv c.J)).setCell ⟨b,o+6,none⟩ (iv c.to)).setCell ⟨b,o+7,none⟩ v
theorem b4v(w:World)(b o:Nat)(c:Cl)(v:Value):(eK w b o c v).drew=eK w.drew b o c v:=by
 have a:∀(W:World)(p:Addr)(u:Value),(W.setCell p u).drew=W.drew.setCell p u:=λ_ _ _=>rfl
 unfold eK;simp only[a]
theorem a0a(w:World)(b o:Nat)(c:Cl)(v:Value):uZ (λq=>q=b) w (eK w b o c v):=
 uZ.setCell (S:=λq=>q=b) (uZ.setCell (S:=λq=>q=b) (uZ.setCell (S:=λq=>q=b) (uZ.setCell (S:=λq=>q=b) (uZ.setCell (S:=λq=>q=b) (uZ.setCell (S:=λq=>q=b) (uZ.setCell (S:=λq=>q=b) (tJ w b o _) (p:=(aA b (o+1))) rfl _) (p:=(aA b (o+2))) rfl _) (p:=(aA b (o+3))) rfl _) (p:=(aA b (o+4))) rfl _) (p:=(aA b (o+5))) rfl _) (p:=(aA b (o+6))) rfl _) (p:=(aA b (o+7))) rfl _
theorem a3b(h:Nf1 b w)(o:Nat)(c:Cl)(v:Value):Nf1 b (eK w b o c v):=(((((((h.set _ _).set _ _).set _ _).set _ _).set _ _).set _ _).set _ _).set _ _
theorem a1k(w:World)(b o:Nat)(c:Cl)(v:Value)(k:Nat)(a:k<o\/o+8<=k):(eK w b o c v).cell? (aA b k)=w.cell? (aA b k):=by
 unfold eK;iterate 8 rw[uC _ (.inr (by omega))]
theorem a3y(w:World)(b o:Nat)(c d:Cl)(v u:Value)(h:S7 w b o d)(l:w.cell? (aA b (o+7))=some u):S7 (eK w b o c v) b o c/\(eK w b o c v).cell? (aA b (o+7))=some v:=by
 have⟨f,g,i,a,k,e,j⟩:=h;unfold eK;refine⟨⟨?_,?_,?_,?_,?_,?_,?_⟩,?_⟩
 ·iterate 7 rw[uC _ (.inr (by omega))]
  exact dJ f
 ·iterate 6 rw[uC _ (.inr (by omega))]
  exact dJ ((uC _ (.inr (by omega))).trans g)
 ·iterate 5 rw[uC _ (.inr (by omega))]
  refine dJ (u:=iv d.T) ?_;iterate 2 rw[uC _ (.inr (by omega))]
  exact i
 ·iterate 4 rw[uC _ (.inr (by omega))]
  refine dJ (u:=iv d.U) ?_;iterate 3 rw[uC _ (.inr (by omega))]
  exact a
 ·iterate 3 rw[uC _ (.inr (by omega))]
  refine dJ (u:=iv d.born) ?_;iterate 4 rw[uC _ (.inr (by omega))]
  exact k
 ·iterate 2 rw[uC _ (.inr (by omega))]
  refine dJ (u:=iv d.J) ?_;iterate 5 rw[uC _ (.inr (by omega))]
  exact e
 ·rw[uC _ (.inr (by omega))];refine dJ (u:=iv d.to) ?_;iterate 6 rw[uC _ (.inr (by omega))]
  exact j
 refine dJ (u:=u) ?_;iterate 7 rw[uC _ (.inr (by omega))]
 exact l
def b3i(x:Hp)(t f:Nat):Hp:={ x with A:=(x.A.set t (x.c f)).set f (mvC t) }
theorem c4i[qr]{vg:Value}(h:GAt B w g x ar kr ac kc vg br bc pb pa pk role)(t f:Nat)(e:t≠f)(i:t<x.A.length)(d:f<x.A.length):
  ∃pb' pa' pk' role',GAt B (zD (eK w bc (t*8) (x.c f) (.slice (pa f) (x.c f).F.length (pk f))) bc (f*8) 2 t) g (b3i x t f) ar kr ac kc vg br bc pb' pa' pk' role':=by
 have r:0<x.A.length:=by omega
 have⟨p,n⟩:=a3y w bc (t*8) (x.c f) (x.c t) (.slice (pa f) (x.c f).F.length (pk f)) _ (h.rw.s t i) (h.rw.p7 t i);have a:=a1k w bc (t*8) (x.c f) (.slice (pa f) (x.c f).F.length (pk f));have v:S7 (eK w bc (t*8) (x.c f) (.slice (pa f) (x.c f).F.length (pk f))) bc (f*8) (x.c f):=(h.rw.s f d).of λj l=>a _ (by omega)
 have⟨u,o⟩:=a4v (eK w bc (t*8) (x.c f) (.slice (pa f) (x.c f).F.length (pk f))) bc (f*8) 2 t _ _ v ((a (f*8+7) (by omega)).trans (h.rw.p7 f d));have b:=a3x (eK w bc (t*8) (x.c f) (.slice (pa f) (x.c f).F.length (pk f))) bc (f*8) 2 t;refine h.move t f e i d ((a0a _ _ _ _ _).trans (a0c _ _ _ _ _)) (a9z (a3b (h.rw.nc r).1 _ _ _) _ _ _) ?_ ?_ u o (λq A C z k y=>?_) (λj l=>by rw[b _ (by omega),a _ (by omega)]);exact p.of λj l=>b _ (by omega)
 rw[b _ (by omega)];exact n;rw[b _ (by omega),a _ (by omega)]
theorem mvd_c(x:Hp)(t f:Nat)(b:t<x.A.length)(a:f<x.A.length)(q:Nat):(b3i x t f).c q=if q=f then mvC t else if q=t then x.c f else x.c q:=by grind[b3i,Hp.c,mvC,Hp.c_set]
def kX(x:Hp)(t f j:Nat):Hp:={ b3i x t f with B:=(x.B.take j).map (mvW t f)++x.B.drop j }
theorem res_mv(x:Hp)(t f j:Nat)(m:t<x.A.length)(l:f<x.A.length)(p:(x.c t).st=0)(r:Wd)(d:hE x r False):zL (kX x t f j) r=mvW t f r:=by
 have i:∀q,(kX x t f j).c q=(b3i x t f).c q:=λ_=>rfl
 unfold zL mvW;rw[i,mvd_c x t f m l];by_cases b:r.k=2;have n:(x.c r.a.toNat).st=1:=by
  obtain h|h:=d.2 b;exact h.2.elim;exact h.1
 have o:0<=r.a:=by have:=d.1;unfold uJ at this;omega
 by_cases e:r.a.toNat=f;have g:r.a=(f:Int):=by omega
 rw[if_pos e,if_pos ⟨b,rfl⟩,if_pos ⟨b,g⟩];rfl;grind[Grw.at,Hp.c,hE,zL,kX,mvW];grind[Hp.c,hE,zL,kX,mvW]
theorem mvdR_at(x:Hp)(t f j:Nat)(a:j<x.B.length):∃h:j<(kX x t f j).B.length,(kX x t f j).B[j]=x.B[j]:=by grind[kX]
theorem c7s(x:Hp)(t f j:Nat)(a:j<x.B.length):({ kX x t f j with B:=(kX x t f j).B.set j (mvW t f x.B[j]) }:Hp)=kX x t f (j+1):=by
 have:(kX x t f j).B.set j (mvW t f x.B[j])=(kX x t f (j+1)).B:=by
  simp only[kX];rw[List.set_append_right _ _ (by simp;omega),kx a,mr];simp only[List.length_map,List.length_take,Nat.min_eq_left (Nat.le_of_lt a),Nat.sub_self];rw[nX a];simp only[List.set_cons_zero,List.map_cons,List.map_nil,List.append_assoc,List.singleton_append]
 rw[this];rfl
theorem c7t(x:Hp)(t f:Nat):kX x t f 0=b3i x t f:=by simp[kX,b3i]
theorem d1d(x:Hp)(t f:Nat):kX x t f x.B.length=qK x t f:=by simp[kX,b3i,qK]
def cX(w:World)(b o:Nat)(y:Wd):World:=((w.setCell ⟨b,o,none⟩ (iv y.k)).setCell ⟨b,o+1,none⟩ (iv y.n)).setCell ⟨b,o+2,none⟩ (iv y.a)
theorem a1m(w:World)(b o:Nat)(y z:Wd)(h:yD w b o z):yD (cX w b o y) b o y:=by
 have⟨e,d,c⟩:=h;unfold cX;refine⟨by grind[uC,dJ,yD,cX],by grind[uC,dJ,yD,cX],?_⟩;refine dJ (u:=iv z.a) ?_;iterate 2 rw[uC _ (.inr (by omega))]
 exact c
theorem cD(w:World)(b o:Nat)(y:Wd):uZ (λq=>q=b) w (cX w b o y):=
 uZ.setCell (S:=λq=>q=b) (uZ.setCell (S:=λq=>q=b) (tJ w b o _) (p:=(aA b (o+1))) rfl _) (p:=(aA b (o+2))) rfl _
theorem a2g(h:Nf1 b w)(o:Nat)(y:Wd):Nf1 b (cX w b o y):=((h.set _ _).set _ _).set _ _
theorem dL(w:World)(b o:Nat)(y:Wd)(k:Nat)(a:k<o\/o+3<=k):(cX w b o y).cell? (aA b k)=w.cell? (aA b k):=by grind[cX,eX.cell,HAt.cell,uC]
theorem c4j[qr](B g:Nat)(x:Hp)(w:World)(h:GOk B w g x)(s:Snd x)(a:World)(ha:a.heap.size<=B)(hx:Ext a w):
  Calls prog 89 #[pP g] w λe w'=>e=.returned (.tuple #[])/\GOk B w' g (unit4 x)/\Ext a w':=by
 have⟨ar,kr,ac,kc,vg,J,k,pb,pa,pk,am,h⟩:=h;have H:=uU h;have n8:=s.ok.n8;have lo:=h.lo;have S:=uU s;have c4:=h.bx.2.2.2.2.1;have FT:=a0i x;have⟨t,ht⟩:=obE (uE x);have HT:=uU ht;have EU:=uU (show unit4 x=if a0x x x.A.length<=(t:Int) then dC x 5 0 else qK x t (a0x x x.A.length).toNat by unfold unit4;rw[<-ht]);have QF:=uU (b4u h n8);rw[<-ht]at QF FT;have ad:wrap64 ((x.A.length:Int)-1)=(x.A.length:Int)-1:=a1e _ (by omega) (by omega);have LU:=a1y x;have r0:0<x.B.length:=by have:=s.r1.B;omega
 have aq:x.B.length<=16:=by have:=s.r1.B;omega
 clear h s ht;go_in;go_wp21;refine QF.mono ?_;rintro e w1 ⟨rfl,x1⟩;have R:=H.ext x1;have L:=x1.keep c4;have ae:=cLt L;have X1:=hx.trans x1;clear c4 QF H hx x1;go_wp21;go_loopw [3] (λfr wr=>∃m:Nat,m<=x.A.length/\fr=iv ((m:Int)-1)/\Hid (∀q,m<=q->q<x.A.length->(x.c q).st≠1)/\Ext w1 wr) (λfr _=>(intOf fr+1).toNat)
 case atStart=>exact⟨x.A.length,hT _,rfl,(λq K V=>by omega),hO _⟩
 case round=>
  obtain⟨m,hm,rfl,D,d⟩:=hrel;cases m with
  | zero=>
   have Y:=d.keep L;have tn:((t:Int)≥-1)=True:=by simp
   have O:=uU (show a0x x x.A.length = -1 by
    obtain⟨e,_⟩|⟨f,_,hf,K,_⟩:=LU x.A.length;exact e;exact absurd K (D f (kB _) hf))
   clear L;have X:=uU (show unit4 x=dC x 5 0 by rw[uH EU,if_pos (by rw[uH O];omega)]);go_wp21;refine(a0v B g x 5 0 _ ⟨_,_,_,_,_,_,_,_,_,_,_,R.ext d⟩ a ha (X1.trans d)).mono ?_;rintro e w3 ⟨rfl,T,x3⟩;have H3:=uU T;clear T;go_wp21;try simp only[Exit.inBlock,Exit.then]
   refine bodyPost_ret (results_none rfl _ _ _) rfl ?_;exact⟨rfl,uH X▸uH H3,x3⟩
  | succ f=>
   have z:f<x.A.length:=by omega
   have P:0<x.A.length:=by omega
   have ef:(((f+1:Nat):Int)-1)=(f:Int):=by omega
   rw[ef];have Y:=d.keep L;rw[R.hc P]at Y;have e0:=((R.ext d).rw.s f z).1;have E:=cLt Y;have ah:=cLt e0;have f0:=i0N f;have f1:(f:Int)<(x.A.length:Int):=by omega
   clear L;cases q:((x.c f).st == 1)
   ·have qb:((x.c f).st != 1)=true:=by simpa using q
    go_wp21;go_roundw
    case rel=>exact⟨f,by omega,by go_num,(show ∀q,f<=q->q<x.A.length->(x.c q).st≠1 from λq K V=>by
     by_cases e:q=f;rw[e];simpa using ‹((x.c f).st == 1)=false›;exact D q (by omega) V),d⟩
    simp[intOf]
   have qb:((x.c f).st != 1)=false:=by simpa using q
   have O:=uU (show a0x x x.A.length=(f:Int) by
    obtain⟨_,K⟩|⟨f',e,hf,K,V⟩:=LU x.A.length;exact absurd (by simpa using q) (K f z);obtain e2|e2|e2:=nY f' f
    ·exact absurd (by simpa using q) (V f e2 z)
    rw[e,e2];exact absurd K (D f' (by omega) hf))
   by_cases af:(t:Int)≥(f:Int);have X:=uU (show unit4 x=dC x 5 0 by rw[uH EU,if_pos (by rw[uH O];omega)]);go_wp21;refine(a0v B g x 5 0 _ ⟨_,_,_,_,_,_,_,_,_,_,_,R.ext d⟩ a ha (X1.trans d)).mono ?_;rintro e w3 ⟨rfl,T,x3⟩;have H3:=uU T;clear T;go_wp21;try simp only[Exit.inBlock,Exit.then]
   refine bodyPost_ret (results_none rfl _ _ _) rfl ?_;exact⟨rfl,by rw[uH X];exact uH H3,x3⟩;have X:=uU (show unit4 x=qK x t f by rw[uH EU,if_neg (by rw[uH O];omega),uH O];rfl);have C:=uU (R.ext d);have M:t<x.A.length:=by omega
   have⟨a0,a1,a2,a3,a4,a5,a6⟩:=C.rw.s f z;have a7:=C.rw.p7 f z;have⟨b0,b1,b2,b3,b4,b5,b6⟩:=C.rw.s t M;have b7:=C.rw.p7 t M;have fc:=(C.rw.nc P).1.2;have t0:=i0N t;have t1:(t:Int)<(x.A.length:Int):=by omega
   have XR:=X1.trans d;have Z:=uU (show ¬g=k from λe=>by have K:=C.sp.g;have V:=C.sp.c P;rw[e]at K;omega);have an:¬g=k:=uH Z;have ao:¬k=g:=λe=>uH Z e.symm
   have ab:¬f*8=t*8:=by omega
   clear e0 d R D;go_wp21;go_region;all_goals
    have⟨n,G⟩:∃W,W=(eK wr k (t*8) (x.c f) (.slice (pa f) (x.c f).F.length (pk f))).drew:=⟨_,rfl⟩;have l:=uU (show n=eK wr.drew k (t*8) (x.c f) (.slice (pa f) (x.c f).F.length (pk f)) by rw[G,b4v]);have I:=a1k wr.drew k (t*8) (x.c f) (.slice (pa f) (x.c f).F.length (pk f));have L:n.cell? (aA g 4)=some (sS k x.A.length kc):=by
     rw[uH l,cOb g 4 ((a0a wr.drew k (t*8) (x.c f) _).block g (by simpa using E) (by omega))];exact Y
    have g3:n.cell? (aA g 3)=some (sS J x.B.length kr):=by
     rw[uH l,cOb g 3 ((a0a wr.drew k (t*8) (x.c f) _).block g (by simpa using E) (by omega))];have:=C.bx.2.2.2.1;rw[C.ha r0]at this;exact this
    have d0:n.cell? (aA k (f*8))=some (iv (x.c f).st):=by rw[uH l,I _ (by omega)];exact a0
    have d1:n.cell? (aA k (f*8+1))=some (iv (x.c f).kind):=by rw[uH l,I _ (by omega)];exact a1
    have d2:n.cell? (aA k (f*8+2))=some (iv (x.c f).T):=by rw[uH l,I _ (by omega)];exact a2
    have d3:n.cell? (aA k (f*8+3))=some (iv (x.c f).U):=by rw[uH l,I _ (by omega)];exact a3
    have ai:n.cell? (aA k (f*8+4))=some (iv (x.c f).born):=by rw[uH l,I _ (by omega)];exact a4
    have d5:n.cell? (aA k (f*8+5))=some (iv (x.c f).J):=by rw[uH l,I _ (by omega)];exact a5
    have d6:n.cell? (aA k (f*8+6))=some (iv (x.c f).to):=by rw[uH l,I _ (by omega)];exact a6
    have d7:n.cell? (aA k (f*8+7))=some (.slice (pa f) (x.c f).F.length (pk f)):=by rw[uH l,I _ (by omega)];exact a7
    have aj:∀j,n.frozen? (aA k j)=false:=uH l▸(a3b (w:=wr.drew) (uY (C.rw.nc P).1 rfl (by simp)) _ _ _).2;have al:=cLt L;have ak:=cLt d0;have X5:Ext a n:=by rw[uH l];exact(a0a wr.drew k (t*8) (x.c f) _).ext XR.drew (λq hq e=>by have:=(C.rw.nc P).2;omega)
    unfold eK at G;rw[<-G];clear G I a0 a1 a2 a3 a4 a5 a6 a7 b0 b1 b2 b3 b4 b5 b6 b7 fc Y E ah XR q qb ef hm ab O EU LU HT ad ae X1 n8 lo t0 f0;have ag:=uU FT;have A:=uU (show t<x.A.length/\f<x.A.length/\t≠f by omega);clear FT af M z;have T0:(x.c t).st=0:=ag.2.2 A.1;have G6:Hid (∃o u p b,GAt B (zD n k (f*8) 2 t) g (kX x t f 0) ar kr ac kc vg J k o u p b):=by
     rw[c7t,uH l];exact c4i (C.ext (eDr wr)) t f A.2.2 A.1 A.2.1
    have X6:Ext a (zD n k (f*8) 2 t):=(a0c n k (f*8) 2 t).ext X5 (λq hq e=>by have:=(C.rw.nc P).2;omega);have⟨W6,F⟩:∃W,W=zD n k (f*8) 2 t:=⟨_,rfl⟩;rw[<-F]at G6 X6;unfold zD at F;go_wp21;rw[<-F];clear F d0 d1 d2 d3 L ai d5 d6 d7 aj al ak g3 X5;go_loopw [59] (λi wr=>∃j:Nat,j<=x.B.length/\i=iv j/\Hid (∃o u p b,GAt B wr g (kX x t f j) ar kr ac kc vg J k o u p b)/\Ext a wr) (λi _=>x.B.length-(intOf i).toNat)
    case atStart=>exact⟨0,kB _,rfl,G6,X6⟩
    case round=>
     obtain⟨j,hj,rfl,y,d⟩:=hrel;by_cases N:j<x.B.length
     ·have⟨o,u,p,b,y⟩:=uH y;have⟨hl,er⟩:=mvdR_at x t f j N;have HJ:=uU y;have c3:=y.bx.2.2.2.1;rw[y.ha (by omega),(show(kX x t f j).B.length=x.B.length by simp[kX];omega)]at c3;have⟨w0,w1,w2⟩:=y.rw.r j hl;rw[er]at w0 w1 w2;have LD:=S.r4.1 j N;have RS:=res_mv x t f j A.1 A.2.1 T0 x.B[j] LD;have fb:=(y.rw.nr (by omega)).1.2;have E:=cLt c3;have ap:=(y.rw.nr (by omega)).2;have j0:=i0N j;have j1:(j:Int)<(x.B.length:Int):=by omega
      clear y er;have⟨rr,U⟩:∃r,r=mvW t f x.B[j]:=⟨_,rfl⟩;have SU:=c7s x t f j N;rw[<-U]at RS SU;clear U;have FN:∀W,Ext wr W->Hid (∃o u p b,GAt B (cX W J (j*3) rr) g (kX x t f (j+1)) ar kr ac kc vg J k o u p b)/\Ext a (cX W J (j*3) rr):=λW xW=>by
       have g1:=HJ.ext xW;refine⟨⟨o,u,p,b,?_⟩,(cD W J (j*3) rr).ext (d.trans xW) (λq hq e=>by omega)⟩;rw[<-uH SU];exact g1.setr j hl rr (cD _ _ _ _) (a2g (g1.rw.nr (by omega)).1 _ _) (a1m _ _ _ _ _ (g1.rw.r j hl)) (λm hm=>dL _ _ _ _ m hm)
      unfold cX at FN;go_wp21;go_region_with (go_at_call 127;refine(a6z x.B[j] _ (HJ.ext (eDr wr)) (by rw[(show(kX x t f j).A.length=x.A.length by simp[kX,b3i])];exact LD.1)).mono ?_;rintro e w5 ⟨rfl,x5⟩;rw[uH RS];have v:=kI (eDr wr) x5;have k3:=v.keep c3;have k0:=v.keep w0;have k1:=v.keep w1;have k2:=v.keep w2;have kf:=λm=>((cE v).2 J m (cLt w0)).trans (fb m);clear x5);all_goals
       go_wp21;go_roundw
       case rel=>exact⟨j+1,by omega,by go_num,(FN w5 v).1,(FN w5 v).2⟩
       simp[intOf];omega
     have je:j=x.B.length:=by omega
     subst je;rw[d1d]at y;go_wp21;go_end0;exact⟨rfl,by
      rw[uH X];have⟨o,u,p,b,y⟩:=uH y;exact⟨_,_,_,_,_,_,_,_,_,_,_,y⟩,d⟩
theorem b8x[qr](B g:Nat)(x:Hp)(w:World)(h:GOk B w g x)(s:Snd x)(a:World)(ha:a.heap.size<=B)(hx:Ext a w)(i:Nat)(hi:x.I=(i:Int)+1):
  Calls prog 91 #[pP g] w λe w'=>e=.returned (.tuple #[])/\GOk B w' g (dX x)/\Ext a w':=by
 obtain⟨Q,X,ac,C,T,br,l,V,R,Y,r,h⟩:=h;have H:=uU h;have t:=h.bx.2.2.2.2.1;have y:=h.bx.2.2.2.2.2.2.1;have aa:=cLt t;have lo:=h.lo;have n8:=s.ok.n8;have j:i<x.A.length:=by have:=s.r1.I;omega
 have z:0<x.A.length:=by omega
 rw[h.hc z]at t;rw[hi]at y;have v:=(h.rw.s i j).1;have o:=cLt v;have f6:=h.nf.2 6;have L:=uU (show dX x=tZ (dV x i) i by
  have e:(x.I-1).toNat=i:=by omega
  unfold dX;rw[if_neg (by omega),e])
 have O:=uU (show ¬g=l from λe=>by have h1:=h.sp.g;have h2:=h.sp.c z;rw[e]at h1;omega);have ab:¬g=l:=uH O;have ae:¬l=g:=λe=>uH O e.symm
 have ad:(((i:Int)+1) == 0)=false:=by simp;omega
 have i0:=i0N i;have i1:(i:Int)<(x.A.length:Int):=by omega
 have d:=uU (show GAt B (w.setCell (aA g 6) (iv i)) g { x with I:=(i:Int) } Q X ac C T br l V R Y r from h.boxed (x':={ x with I:=(i:Int) }) (tJ w g 6 _) (h.nf.set _ _) rfl rfl rfl (h.bx.set6 _));have U:=uU (hx.sc g 6 (show a.heap.size<=g by omega) (iv i));clear h s hi;go_in;go_wp21;obtain⟨D,N⟩:∃W,W=w.setCell (aA g 6) (iv i):=⟨_,rfl⟩;rw[<-N]at d U ⊢;clear N t y v f6 o;have t:=d.bx.2.2.2.2.1;rw[H.hc z]at t;have y:D.cell? (aA g 6)=some (iv i):=d.bx.2.2.2.2.2.2.1;have v:D.cell? (aA l (i*8))=some (iv (x.c i).st):=(d.rw.s i j).1;have F:=cLt y;have o:=cLt v;have P:=d.nf.2 4;cases q2:((x.c i).st == 2)
 ·have I:=uU (show({ x with I:=(i:Int) }:Hp)=dV x i by unfold dV;rw[if_neg (by intro e;simp[e]at q2)]);go_quiet (fail);obtain⟨b,f⟩:∃W,W=D.drewN nq:=⟨_,rfl⟩;have m:=uU (show GAt B b g (dV x i) Q X ac C T br l V R Y r by rw[f,<-uH I];exact d.ext ((hO D).drewN _));have J:=uU (show Ext a b by rw[f];exact U.drewN _);have u:=uU (show(dV x i).A.length=x.A.length by rw[<-uH I]);have SZ:=uU (show((dV x i).c i).st=(x.c i).st by rw[<-uH I];rfl);go_wp21;rw[<-f];clear f t y v F o P;have t:=m.bx.2.2.2.2.1;rw[H.hc z,uH u]at t;have y:b.cell? (aA g 6)=some (iv i):=m.bx.2.2.2.2.2.2.1;have v:b.cell? (aA l (i*8))=some (iv (x.c i).st):=by have:=(m.rw.s i (by rw[uH u];exact j)).1;rw[uH SZ]at this;exact this
  have P:=m.nf.2 4;have F:=cLt y;have o:=cLt v;cases G:((i:Int) == (x.A.length:Int)-1);have E:=uU (show dX x=dV x i by rw[uH L];unfold tZ;rw[if_neg];intro e;have:=e.1;rw[uH u]at this;simp at G;omega);go_quiet (fail);go_wp21;go_end0;exact⟨rfl,by rw[uH E];exact⟨_,_,_,_,_,_,_,_,_,_,_,m.ext ((hO b).drewN _)⟩,J.drewN _⟩
  cases q0:((x.c i).st == 0)
  ·have E:=uU (show dX x=dV x i by rw[uH L];unfold tZ;rw[if_neg];intro e;have:=e.2;rw[uH SZ]at this;simp[this]at q0);go_quiet (fail);go_wp21;go_end0;exact⟨rfl,by rw[uH E];exact⟨_,_,_,_,_,_,_,_,_,_,_,m.ext ((hO b).drewN _)⟩,J.drewN _⟩
  have Z:=uU (show((dV x i).c i).st=0 by rw[uH SZ];simpa using q0);have E:=uU (show dX x={ dV x i with A:=(dV x i).A.take i } by rw[uH L];unfold tZ;rw[if_pos ⟨by rw[uH u];simp at G;omega,Z⟩]);have M:=uU (show ∀n,GOk B ((b.drewN n).setCell (aA g 4) (sS l i C)) g { dV x i with A:=(dV x i).A.take i }/\Ext a ((b.drewN n).setCell (aA g 4) (sS l i C)) from λn=>by
   have A:=(m.ext ((hO b).drewN n)).drop i (by rw[uH u];simp at G;omega);rw[H.hc z]at A;exact⟨A,(J.drewN n).sc g 4 (show a.heap.size<=g by omega) _⟩)
  have kl:(i:Int)<=(C:Int):=by have:=H.kl;omega
  go_quiet (fail);go_wp21;go_region;all_goals
   go_wp21;go_end0;exact⟨rfl,by rw[uH E];exact(M _).1,(M _).2⟩
 obtain⟨r0,r1,r2,r3,r4,r5,r6⟩:=d.rw.s i j;have r7:=d.rw.p7 i j;have fc:=(d.rw.nc z).1.2;go_quiet (fail);go_wp21;go_region;all_goals
  obtain⟨b,f⟩:∃W,W=zD (D.drewN (nq+1)) l (i*8) 0 0:=⟨_,rfl⟩;have I:=uU (show({ x with A:=x.A.set i ⟨0,0,0,0,0,0,0,[]⟩,I:=(i:Int) }:Hp)=dV x i by unfold dV;rw[if_pos (by simpa using q2)];rfl);have m:=uU (show GAt B b g (dV x i) Q X ac C T br l V (λq=>if q=i then none else R q) (λq=>if q=i then 0 else Y q) r by
   have A:=d.ext ((hO D).drewN (nq+1));obtain⟨k1,k2⟩:=a4v (D.drewN (nq+1)) l (i*8) 0 0 _ _ (A.rw.s i j) (A.rw.p7 i j);rw[f,<-uH I];exact A.clear i j _ rfl (a0c _ _ _ _ _) (a9z (A.rw.nc z).1 _ _ _) k1 k2 (λk hk=>a3x _ _ _ _ _ k hk))
  have J:=uU (show Ext a b by rw[f];exact(a0c _ _ _ _ _).ext (U.drewN _) (λq hq e=>by have:=(H.rw.nc z).2;omega));have u:=uU (show(dV x i).A.length=x.A.length by rw[<-uH I];simp);have K:=uU (show((dV x i).c i).st=0 by
   have:=Hp.c_set x i ⟨0,0,0,0,0,0,0,[]⟩ j i;rw[<-uH I];have e2:({ x with A:=x.A.set i ⟨0,0,0,0,0,0,0,[]⟩,I:=(i:Int) }:Hp).c i=({ x with A:=x.A.set i ⟨0,0,0,0,0,0,0,[]⟩ }:Hp).c i:=rfl;rw[e2,this,if_pos rfl])
  unfold zD at f;go_wp21;rw[<-f];clear f t y v F o P r0 r1 r2 r3 r4 r5 r6 r7 fc;have t:=m.bx.2.2.2.2.1;rw[H.hc z,uH u]at t;have y:b.cell? (aA g 6)=some (iv i):=m.bx.2.2.2.2.2.2.1;have v:b.cell? (aA l (i*8))=some (iv 0):=by have:=(m.rw.s i (by rw[uH u];exact j)).1;rw[uH K]at this;exact this
  have P:=m.nf.2 4;have F:=cLt y;have o:=cLt v;cases G:((i:Int) == (x.A.length:Int)-1);have E:=uU (show dX x=dV x i by rw[uH L];unfold tZ;rw[if_neg];intro e;have:=e.1;rw[uH u]at this;simp at G;omega);go_quiet (fail);go_wp21;go_end0;exact⟨rfl,by rw[uH E];exact⟨_,_,_,_,_,_,_,_,_,_,_,m.ext ((hO b).drewN _)⟩,J.drewN _⟩;skip;have E:=uU (show dX x={ dV x i with A:=(dV x i).A.take i } by rw[uH L];unfold tZ;rw[if_pos ⟨by rw[uH u];simp at G;omega,K⟩]);have M:=uU (show ∀n,GOk B ((b.drewN n).setCell (aA g 4) (sS l i C)) g { dV x i with A:=(dV x i).A.take i }/\Ext a ((b.drewN n).setCell (aA g 4) (sS l i C)) from λn=>by
   have A:=(m.ext ((hO b).drewN n)).drop i (by rw[uH u];simp at G;omega);rw[H.hc z]at A;exact⟨A,(J.drewN n).sc g 4 (show a.heap.size<=g by omega) _⟩)
  have kl:(i:Int)<=(C:Int):=by have:=H.kl;omega
  go_quiet (fail);go_wp21;go_region;all_goals
   go_wp21;go_end0;exact⟨rfl,by rw[uH E];exact(M _).1,(M _).2⟩
theorem c0t[qr](B g:Nat)(x:Hp)(w:World)(h:GOk B w g x)(s:Snd x)(a:World)(c:a.heap.size<=B)(b:Ext a w):
  Calls prog 91 #[pP g] w λe w'=>e=.returned (.tuple #[])/\GOk B w' g (dX x)/\Ext a w':=by
 by_cases d:x.I=0;exact c0s B g x w h s a c b d;exact b8x B g x w h s a c b (x.I-1).toNat (by have:=s.r1.I;omega)
theorem c4k[qr](B g:Nat)(x:Hp)(w:World)(h:GOk B w g x)(s:Snd x)(hp:x.E=5)(a:World)(A:a.heap.size<=B)(t:Ext a w):
  Calls prog 90 #[pP g] w λe w'=>e=.returned (.tuple #[])/\GOk B w' g (dK x)/\Ext a w':=by
 have r:=h;have⟨O,Z,ac,V,R,br,T,U,Q,pk,y,h⟩:=h;have K:=h.bx.2.2.2.2.1;have M:=h.bx.2.2.2.2.2.2.1;have D:=h.bx.2.2.2.2.2.2.2.1;have lo:=h.lo;have L:=s.ok.n8;have hh:=s.r1.I;have hs:=s.r1.sub;by_cases f:x.I=x.A.length;have E:=uU (show dK x=dC x 6 x.A.length by unfold dK;rw[if_pos f]);go_in;go_wp21;go_quiet (fail);go_wp21;refine(a0v B g x 6 x.A.length _ (r.ext ((hO w).drewN _)) a A (t.drewN _)).mono ?_;rintro e S ⟨rfl,I,F⟩;go_wp21;try simp only[Exit.inBlock,Exit.then]
 refine bodyPost_ret (results_none rfl _ _ _) rfl ?_;exact⟨rfl,by rw[uH E];exact I,F⟩;have⟨i,l⟩:∃i:Nat,x.I=(i:Int):=⟨x.I.toNat,by omega⟩;have b:i<x.A.length:=by omega
 have z:x.I.toNat=i:=by omega
 have⟨k,j⟩:∃k:Nat,x.sub=(k:Int):=⟨x.sub.toNat,by omega⟩;have H:x.sub.toNat=k:=by omega
 by_cases u:k<(x.c i).F.length;have E:dK x={ x with A:=x.A.set i (zK x (x.c i) k),sub:=(k:Int)+1 }:=by
  unfold dK;rw[if_neg f,z,if_pos (by omega),H,j]
 have J:¬uW x i:=λd=>by have:=d.1;omega
 have P:=((s.r4.2 i b).2 k u).2 J;rw[E];exact c0u B g x w r L a A t i l b k j u (s.ok.p200 i b) P.1.1 P.2.1;have E:dK x={ x with I:=x.I+1,sub:=0 }:=by
  unfold dK;rw[if_neg f,z,if_neg (by omega)]
 have o:(x.I == (x.A.length:Int))=false:=by simpa using f
 have N:0<x.A.length:=by omega
 rw[h.hc N]at K;have p7:=h.rw.p7 i b;have Y:=h.nf.2 6;have f7:=h.nf.2 7;rw[l]at o M;rw[j]at D;have i0:=i0N i;have X:(i:Int)<(x.A.length:Int):=by omega
 have v:∀n,GOk B (((w.drewN n).setCell (aA g 6) (iv ((i:Int)+1))).setCell (aA g 7) (iv 0)) g { x with I:=(i:Int)+1,sub:=0 }/\Ext a (((w.drewN n).setCell (aA g 6) (iv ((i:Int)+1))).setCell (aA g 7) (iv 0)):=λn=>⟨((r.ext ((hO w).drewN n)).set6 _).set7 0,((t.drewN n).sc g 6 (by omega:a.heap.size<=g) _).sc g 7 (by omega:a.heap.size<=g) _⟩;rw[l]at E;go_in;go_wp21;go_quiet (fail);obtain⟨W,rfl⟩:∃m,m=nq:=⟨_,rfl⟩;go_wp21;go_quiet (fail);go_wp21;go_end0;exact⟨rfl,uH E▸(v _).1,(v _).2⟩
theorem c1q(x:Hp)(w:World)(c:Option Addr)(d:Nat)(h:Option Addr)(g:Nat)(e:Option Addr)(f:Nat):
  ∀o v,#[iv x.M,iv x.K,iv x.born,.slice c x.B.length d,.slice h x.A.length g,iv x.E,iv x.I,iv x.sub,.slice e x.D.length f,iv x.per,iv x.V,iv x.Q,iv x.S][o]?=some v->((w.alloc (.cells #[iv x.M,iv x.K,iv x.born,.slice c x.B.length d,.slice h x.A.length g,iv x.E,iv x.I,iv x.sub,.slice e x.D.length f,iv x.per,iv x.V,iv x.Q,iv x.S] 27)).alloc (.cells #[iv x.M,iv x.K,iv x.born,.slice c x.B.length d,.slice h x.A.length g,iv x.E,iv x.I,iv x.sub,.slice e x.D.length f,iv x.per,iv x.V,iv x.Q,iv x.S,.slice none 0 0,.slice none 0 0] 96)).cell? (aA (w.heap.size+1) o)=some v:=λo v a=>by
 have i:o<13:=by
  obtain b|b:=ky o 13;exact b;rw[mp (by simpa using b)]at a;cases a
 match o,i with
 | 0,_|1,_|2,_|3,_|4,_|5,_|6,_|7,_|8,_|9,_|10,_|11,_|12,_=>simp[go_sem];exact Option.some.inj a
theorem SlC.nth(h:SlC w (.slice ac x.A.length kc) x.A)(k:Nat)(e:k<x.A.length):∃bc oc,ac=some (aA bc oc)/\bc<w.heap.size/\b9v w bc (oc+k*8) (x.c k):=by
 obtain⟨_,_,v,_,C⟩:=h;obtain⟨b,d,a,p⟩:=C k e;rw[Hp.c_eq]at p;simp only[Value.slice.injEq]at v;exact⟨b,d,v.1.trans a,let ⟨_,p0,_⟩:=p;uQ p0,p⟩
theorem Opn.V(z:Array Value)
  (a:Ext ((w.alloc (.cells #[iv x.M,iv x.K,iv x.born,.slice ar x.B.length kr,.slice ac x.A.length kc,iv x.E,iv x.I,iv x.sub,.slice ag x.D.length kg,iv x.per,iv x.V,iv x.Q,iv x.S] 27)).alloc (.cells #[iv x.M,iv x.K,iv x.born,.slice ar x.B.length kr,.slice ac x.A.length kc,iv x.E,iv x.I,iv x.sub,.slice ag x.D.length kg,iv x.per,iv x.V,iv x.Q,iv x.S,.slice none 0 0,.slice none 0 0] 96)) w1) :
  Opn w ((w1.alloc (.cells (madeCells z (x.A.length*2)) 107)).setCell (aA (w.heap.size+1) 13) (sS w1.heap.size x.A.length x.A.length)) x w.heap.size (w.heap.size+1) w1.heap.size 0 0 ar kr ac kc ag kg (.slice none 0 0) []:=by
 have m:Ext w ((w.alloc (oHp x (.slice ar x.B.length kr) (.slice ac x.A.length kc) (.slice ag x.D.length kg))).alloc (.cells #[iv x.M,iv x.K,iv x.born,.slice ar x.B.length kr,.slice ac x.A.length kc,iv x.E,iv x.I,iv x.sub,.slice ag x.D.length kg,iv x.per,iv x.V,iv x.Q,iv x.S,.slice none 0 0,.slice none 0 0] 96)):=(eAl w _).alloc _;have l:w.heap.size+2<=w1.heap.size:=by have:=a.size;simp at this;omega
 have b:∀o v,w1.cell? (aA (w.heap.size+1) o)=some v->o≠13->((w1.alloc (.cells (madeCells z (x.A.length*2)) 107)).setCell (aA (w.heap.size+1) 13) (sS w1.heap.size x.A.length x.A.length)).cell? (aA (w.heap.size+1) o)=some v:=λo v h n=>by
  rw[uC _ (.inr (λe=>n e.symm))];exact(eAl w1 _).keep h
 have g:(w1.alloc (.cells (madeCells z (x.A.length*2)) 107)).cell? (aA (w.heap.size+1) 13)=some (.slice none 0 0):=(eAl w1 _).keep (a.keep (by simp[go_sem]));have d:w1.cell? (aA (w.heap.size+1) 14)=some (.slice none 0 0):=a.keep (by simp[go_sem]);have f:w1.frozen? (aA (w.heap.size+1) 14)=false:=by
  rw[a.frozen (p:=(aA (w.heap.size+1) 14)) (by simp)];simp[go_sem]
 refine⟨((m.trans a).alloc _).setCell (by show _<=w.heap.size+1;omega) _,⟨hT _,by omega,by omega,by simp[World.setCell]⟩,?_,λo v c=>b o v (a.keep (c1q x w ar kr ac kc ag kg o v c)) ?_,kM _ _ _ g,λi q=>by omega,λj k=>(a7u _ _ _ _ _ k).set _ _,eX.nil (b 14 _ d (by omega)) ?_,Ho.nil,nE _⟩;rw[uC _ (.inl (by omega))];exact(eAl w1 _).keep (a.keep (by simp[go_sem]));intro e;rw[e]at c;simp at c;rw[ki,(eAl w1 _).frozen (p:=(aA (w.heap.size+1) 14)) (by show w.heap.size+1<w1.heap.size;omega)];exact f
theorem c1r(x:Hp)(w:World)(hR:SlW w (.slice ar x.B.length kr) x.B)(Q:SlC w (.slice ac x.A.length kc) x.A)(Z:SlI w (.slice ag x.D.length kg) x.D):
  Calls prog 48 #[x.v (.slice ar x.B.length kr) (.slice ac x.A.length kc) (.slice ag x.D.length kg)] w λe w'=>∃b,Hid (e=.returned (pP b))/\Ext w w'/\Hid ((¬R1 x/\HAt w' b x ar kr ac kc ag kg)\/(R1 x/\∃bx bn vf F,Opn w w' x bx b bn x.A.length x.A.length ar kr ac kc ag kg vf F)):=by
 have j:=uU (kG hR (kG Q Z));have lc:x.A.length<=35184372088832:=let ⟨_,_,_,l,_⟩:=Q;l;clear hR Q Z;go_in;go_wp21;have s:Ext w ((w.alloc (oHp x (.slice ar x.B.length kr) (.slice ac x.A.length kc) (.slice ag x.D.length kg))).alloc (.cells #[iv x.M,iv x.K,iv x.born,.slice ar x.B.length kr,.slice ac x.A.length kc,iv x.E,iv x.I,iv x.sub,.slice ag x.D.length kg,iv x.per,iv x.V,iv x.Q,iv x.S,.slice none 0 0,.slice none 0 0] 96)):=(eAl w _).alloc _;have y:=d2d x _ (w.heap.size+1) (c1q x w ar kr ac kc ag kg) (SlW.ext s j.1) (SlC.ext s j.2.1) (SlI.ext s j.2.2);refine(a4e x (w.heap.size+1) _ y).mono ?_;rintro e d ⟨r,rfl,A,g⟩;have X1:=uU (s.trans g);cases r
 ·have N:=uU (show ¬R1 x from λr=>by have:=A.2 r;simp at this);have H1:=uU (y.ext g);clear A g y s;go_wp21;go_ret;exact⟨w.heap.size+1,rfl,X1,.inl ⟨N,H1⟩⟩
 have Y:=uU (A.1 rfl);have ab:x.A.length<=8000:=by have:=Y.M;have:=Y.A;omega
 have ah:w.heap.size+2<=d.heap.size:=by have:=g.size;simp at this;omega
 have ad:w.heap.size<d.heap.size:=by omega
 have H:w.heap.size+1<d.heap.size:=by omega
 obtain⟨z,J⟩:=mkNodes x.A.length (by omega) d;have q:=Opn.V z g;rw[qo _ _ _ _ H]at q;have S0:=uU q;clear q;have b4:d.cell? (aA w.heap.size 4)=some (.slice ac x.A.length kc):=g.keep (by simp[go_sem]);have O:d.cell? (aA (w.heap.size+1) 13)=some (.slice none 0 0):=g.keep (by simp[go_sem]);have I:d.frozen? (aA (w.heap.size+1) 13)=false:=by
  rw[g.frozen (p:=(aA (w.heap.size+1) 13)) (by simp)];simp[go_sem]
 clear A y s g;go_wp21;go_loopw [22] (λi wr=>∃(k:Nat)(vf:Value)(F:List Int),k<=x.A.length/\i=iv k/\Opn w wr x w.heap.size (w.heap.size+1) d.heap.size k k ar kr ac kc ag kg vf F) (λi _=>x.A.length-(intOf i).toNat)
 case atStart=>exact⟨0,_,_,kB _,rfl,S0⟩
 case round=>
  clear S0 b4 O I J;obtain⟨k,vf,F,hk,rfl,a⟩:=hrel;have HO:=uU a;by_cases n:k<x.A.length
  ·obtain⟨bc,oc,h,af,vp,t,_⟩:=SlC.nth j.2.1 k n;have P0:=uU t;clear t;have V:=a.x4;have B:=a.n13;rw[h]at V;obtain⟨⟨u1,v1⟩,f1⟩:=a.o (k*2) (by omega);obtain⟨⟨u2,v2⟩,f2⟩:=a.o (k*2+1) (by omega);have ae:=i0N k;have aa:(k:Int)<(x.A.length:Int):=by omega
   have M:d.heap.size<wr.heap.size:=a.hb.2.2.2;have X:=uU (a.lay h n);have L:=uU h;clear a h;go_wp21;go_region;generalize u:((wr.setCell (aA d.heap.size (k*2)) (iv k)).setCell (aA d.heap.size (k*2+1)) (pQ bc (oc+k*8))).drew=W2;have m:=uU (X.same (w':=W2) (by rw[<-u];rfl) (by rw[<-u];rfl) (by rw[<-u];rfl) (by rw[<-u];rfl));have P:=m.x4;rw[uH L]at P;have p0:=m.e.keep P0;have W:F.length<=1000000000:=by have:=m.len;omega
   have K:d.heap.size+1<=W2.heap.size:=m.hb.2.2.2;clear u X V B v1 v2 f1 f2 M;cases q:((x.c k).st == 0)
   ·have C:=uU (m.skip q);go_wp21;go_roundw
    case rel=>exact⟨k+1,vf,F,by omega,by go_num,C⟩
    simp[intOf];omega
   go_wp21;refine(b4h _ (d.heap.size+1) (w.heap.size+1) 14 vf F (k:Int) m.f K m.fo (by omega)).mono ?_;rintro e w3 ⟨rfl,v3,F3,T,S,U,R⟩;have C:=uU (m.put q T S U R);clear T S U R;go_wp21;go_roundw
   case rel=>exact⟨k+1,v3,F3,by omega,by go_num,C⟩
   simp[intOf];omega
  have G:k=x.A.length:=by omega
  subst G;have D:=uU a;have E:=uU a.e;clear a hk n;go_wp21;go_ret;exact⟨w.heap.size+1,rfl,E,.inr ⟨Y,_,_,_,_,D⟩⟩
theorem d2e(x:Hp)(w:World)(d:SlW w (.slice ar x.B.length kr) x.B)(a:SlC w (.slice ac x.A.length kc) x.A)(c:SlI w (.slice ag x.D.length kg) x.D):
  Calls prog 48 #[x.v (.slice ar x.B.length kr) (.slice ac x.A.length kc) (.slice ag x.D.length kg)] w λe w'=>∃b,Hid (e=.returned (pP b))/\Ext w w'/\Hid ((¬R1 x/\HAt w' b x ar kr ac kc ag kg)\/(R1 x/\∃an kn base vf F,VAt w' b x ar kr ac kc ag kg an kn/\FAt w' b x base vf F/\Hid (∃bn on,an=some (aA bn on)))):=
 (c1r x w d a c).mono λ_ _ ⟨b,g,j,h⟩=>⟨b,g,j,by
  obtain h|⟨i,k,bn,vf,F,f⟩:=h;exact .inl h;exact .inr ⟨i,_,_,_,_,_,(f.done d a c).1,(f.done d a c).2,⟨_,_,rfl⟩⟩⟩
theorem SAt.ring[qr](h:SAt B w b x ar kr v4 v8 br cB cO bn pb pa pk kn hd vf F vk K role)(r:RAt w' b bn hd' G)(o:uZ (λq=>q=b) w w')(n:Nf1 b w')(c:∀k,(k<15\/k=4017)->w'.cell? (aA b k)=w.cell? (aA b k)):
  SAt B w' b { x with D:=G } ar kr v4 v8 br cB cO bn pb pa pk kn hd' vf F vk K role:=by
 have g:∀q,q<w.heap.size->role q≠0->w'.heap[q]?=w.heap[q]?:=λq i t=>o.block q i (λe=>t (e▸h.sp.b))
 have m:=g bn h.sb.lo.2.2.1 (by rw[h.sp.n];omega);refine⟨⟨h.sb.bx.of λk l=>c k (by omega),h.sb.ha,(c 13 (by omega)).trans h.sb.n13,λk l=>⟨(cOb bn _ m).trans (h.sb.nd k l).1,(cOb bn _ m).trans (h.sb.nd k l).2⟩,⟨(c 14 (by omega)).trans h.sb.fr.hd,n.2 14,uN h.sb.fr.own (λq i=>g q (h.sb.fr.own.lt q i).2 (by rw[h.sp.f q i];omega)),h.sb.fr.apart⟩,r,(c 4017 (by omega)).trans h.sb.k0,uN h.sb.kp (λq i=>g q (h.sb.kp.lt q i).2 (by rw[h.sp.k q i];omega)),n,⟨h.sb.lo.1,h.sb.lo.2.1,h.sb.lo.2.2.of m o.size⟩⟩,?_,⟨h.sp.b,h.sp.n,h.sp.r,h.sp.c,h.sp.f,h.sp.k,h.sp.p⟩,h.pr.of (λq i u=>g q i (by rw[u];omega)) (λ_ _ h=>h)⟩;have:=h.rw.same o.size (λj=>g br (h.rw.nr j).1.1 (by rw[h.sp.r j];omega)) (λq i=>g (cB q) (h.rw.nc q i).1.1 (by rw[h.sp.c q i];omega)) (λq i j=>g (pb q) (h.rw.pl q i j).2.1.1 (by rw[h.sp.p q i j];omega));exact⟨this.r,this.s,this.p7,this.p,this.pl,this.nr,this.nc,this.d,this.dp,this.dc,this.kp⟩
theorem SAt.V[qr]{bx b2:Nat}{Z:Array Value}{T:TypeId}(hz:∀q,(default:uL).z q=none)
  (ho:Opn w1 w2 x bx b2 bn x.A.length x.A.length ar kr ac kc ag kg vf F) (hrw:Rws B w1 x br bc pb pa pk) (hB:B<=w1.heap.size) (har:0<x.B.length->ar=some ⟨br,0,none⟩) (hac:0<x.A.length->ac=some ⟨bc,0,none⟩) (hr:0<x.B.length)
  (hZ:Z.size=4018/\(Z[0]?=some (iv x.M)/\Z[1]?=some (iv x.K)/\Z[2]?=some (iv x.born)/\Z[3]?=some (.slice ar x.B.length kr)/\Z[4]?=some (.slice ac x.A.length kc)/\Z[5]?=some (iv x.E)/\Z[6]?=some (iv x.I)/\Z[7]?=some (iv x.sub)/\Z[8]?=some (.slice ag x.D.length kg)/\Z[9]?=some (iv x.per)/\Z[10]?=some (iv x.V)/\Z[11]?=some (iv x.Q)/\Z[12]?=some (iv x.S)/\Z[13]?=some (.slice (some ⟨bn,0,none⟩) x.A.length x.A.length)/\Z[14]?=some vf)/\Z[4015]?=some (iv 0)/\Z[4016]?=some (iv 0)/\Z[4017]?=some (.slice none 0 0)) :
  ∃role,SAt B (w2.alloc (.cells Z T)) w2.heap.size { x with D:=[] } ar kr (.slice ac x.A.length kc) (.slice ag x.D.length kg) br (λ_=>bc) (λq=>q*8) bn pb pa pk x.A.length 0 vf F (.slice none 0 0) [] role:=by
 have⟨hZs,⟨z0,z1,z2,z3,z4,z5,z6,z7,z8,z9,z10,z11,z12,z13,z14⟩,y0,y1,y2⟩:=hZ;have⟨hb1,hb2,hb3,hb4⟩:=ho.hb;have xe:Ext w1 (w2.alloc (.cells Z T)):=ho.e.alloc _;have x2:Ext w2 (w2.alloc (.cells Z T)):=(hO w2).alloc _;have hnew:(w2.alloc (.cells Z T)).heap[w2.heap.size]?=some (.cells Z T):=heap_alloc_new w2 _;have cz:∀o,(w2.alloc (.cells Z T)).cell? ⟨w2.heap.size,o,none⟩=Z[o]?:=λo=>cell_of_row _ w2.heap.size o _ _ (0,0) hnew
 have nz:Nf1 w2.heap.size (w2.alloc (.cells Z T)):=⟨by simp,λj=>by simp[go_sem]⟩;have lr:=(hrw.nr hr).1.1;have lsz:=ho.e.size;have lp:∀q,q<x.A.length->0<pk q->pb q<w1.heap.size:=λq hq hl=>(hrw.pl q hq hl).2.1.1
 have lf:∀q,vf.ownBlock=some q->bn+1<=q/\q<w2.heap.size:=λq hq=>ho.f.own.lt q hq
 refine⟨λq=>if q=w2.heap.size then 0 else if q=bn then 1 else if q=br then 2 else if 0<x.A.length/\q=bc then 3 else
  (open Classical in if h:∃i,i<x.A.length/\0<pk i/\pb i=q then 6+Classical.choose h else 4),⟨⟨(cz 0).trans z0,(cz 1).trans z1,(cz 2).trans z2,(cz 3).trans z3,(cz 4).trans z4,(cz 5).trans z5,(cz 6).trans z6,(cz 7).trans z7,(cz 8).trans z8,(cz 9).trans z9,(cz 10).trans z10,(cz 11).trans z11,(cz 12).trans z12⟩,har,(cz 13).trans z13,λi hi=>?_,⟨(cz 14).trans z14,nz.2 14,a3q (ho.f.own.alloc _) (by omega),λe=>by have:=(lf _ e).2;omega⟩,⟨by omega,by simp,(cz 4015).trans y0,(cz 4016).trans y1,λi hi=>by simp at hi,λj hj=>⟨Z[15+j]'(by omega),(cz _).trans (by simp)⟩⟩,(cz 4017).trans y2,mB _ _ _ _,nz,⟨by omega,by omega,by simp;omega,λj hj=>(ho.o j hj).ext x2⟩⟩,?_,?_,λq o h=>by rw[hz q]at h;cases h⟩
 have⟨bc',oc,e,p,q⟩:=ho.n i hi;have e2:=(hac (Nat.lt_of_le_of_lt (kB _) hi)).symm.trans e;simp only[Option.some.injEq,Addr.mk.injEq]at e2;obtain⟨rfl,rfl,_⟩:=e2;rw[kO]at q;exact⟨x2.keep p,x2.keep q⟩;have:=(hrw.ext xe).rwn;exact⟨this.r,this.s,this.p7,this.p,this.pl,this.nr,this.nc,this.d,this.dp,this.dc,this.kp⟩;refine⟨if_pos rfl,?_,λ_=>?_,λq hq=>?_,λq hq=>?_,λq hq=>by simp[Value.ownBlock]at hq,λq hq hl=>?_⟩
 ·rw[if_neg (by omega),if_pos rfl]
 rw[if_neg (by omega),if_neg (by omega),if_pos rfl];have hl:0<x.A.length:=by have:q<x.A.length:=hq;omega
 have l1:=(hrw.nc hl).1.1;have l2:=hrw.d hl;rw[if_neg (by omega),if_neg (by omega),if_neg (λe=>l2 e.symm),if_pos ⟨hl,rfl⟩];have l1:=lf q hq;rw[if_neg (by omega),if_neg (by omega),if_neg (by omega),if_neg (λe=>by have:=(hrw.nc e.1).1.1;omega),dif_neg (λ⟨i,h1,h2,h3⟩=>by have:=lp i h1 h2;omega)];have l1:=lp q hq hl;have l2:=(hrw.pl q hq hl).2.2.1;have hex:∃i,i<x.A.length/\0<pk i/\pb i=pb q:=⟨q,hq,hl,rfl⟩;rw[if_neg (by omega),if_neg (by omega),if_neg l2.1,if_neg (λe=>l2.2 e.2),dif_pos hex];have sp:=Classical.choose_spec hex;have:Classical.choose hex=q:=by
  obtain h|h:=Nat.decEq (Classical.choose hex) q;exact absurd sp.2.2 (hrw.dp _ q sp.1 hq h sp.2.1 hl);exact h
 rw[this]
theorem SAt.setc[qr]{c':Cl}
  (h:SAt B w b x ar kr v4 v8 br cB cO bn pb pa pk kn hd vf F vk K role) (I:i<x.A.length) (X:c'.F=(x.c i).F) (o:uZ (λq=>q=cB i) w w') (W:S7 w' (cB i) (cO i) c') (J:∀k,(k<cO i\/cO i+7<=k)->w'.cell? (aA (cB i) k)=w.cell? (aA (cB i) k)) (V:Nf1 (cB i) w') :
  SAt B w' b { x with A:=x.A.set i c' } ar kr v4 v8 br cB cO bn pb pa pk kn hd vf F vk K role:=by
 have m:∀q,q<w.heap.size->role q≠3->w'.heap[q]?=w.heap[q]?:=λq g D=>o.block q g (λe=>D (e▸h.sp.c i I))
 have l:({ x with A:=x.A.set i c' }:Hp).A.length=x.A.length:=by simp
 have y:∀q,(({ x with A:=x.A.set i c' }:Hp).c q).F=(x.c q).F:=λq=>by grind[uZ.A,QFr.A,Hp.c,S7,Nf1]
 have v:=h.sb.same o.size (m b h.sb.nb.1 (by rw[h.sp.b];omega)) (m bn h.sb.lo.2.2.1 (by rw[h.sp.n];omega)) (λq g=>m q (h.sb.fr.own.lt q g).2 (by rw[h.sp.f q g];omega)) (λq g=>m q (h.sb.kp.lt q g).2 (by rw[h.sp.k q g];omega));have O:∀q,q<x.A.length->0<pk q->w'.heap[pb q]?=w.heap[pb q]?:=λq g l=>m (pb q) (h.rw.pl q g l).2.1.1 (by rw[h.sp.p q g l];omega)
 have M:∀q,q<x.A.length->cB q≠cB i->w'.heap[cB q]?=w.heap[cB q]?:=λq g e=>o.block (cB q) (h.rw.nc q g).1.1 e
 have N:∀q,q<x.A.length->q≠i->∀k,k<8->w'.cell? (aA (cB q) (cO q+k))=w.cell? (aA (cB q) (cO q+k)):=λq g e k u=>by
  by_cases A:cB q=cB i;rw[A];obtain d|d|d:=h.rw.dc q i g I e
  ·exact(d A).elim
  exact J _ (by omega);exact J _ (by omega);exact cOb (cB q) _ (M q g A)
 have P:∀q,q<x.A.length->Nf1 (cB q) w':=λq g=>by
  by_cases A:cB q=cB i;rw[A];exact V;exact uY (h.rw.nc q g).1 (M q g A) o.size
 refine⟨⟨v.bx,v.ha,l▸v.n13,λk u=>v.nd k (by rw[l]at u;exact u),v.fr,v.rg,v.k0,v.kp,v.nb,v.lo⟩,⟨λk u=>?_,λq g=>?_,λq g=>?_,λq g k u=>?_,λq g z=>?_,λD=>⟨uY (h.rw.nr D).1 (m br (h.rw.nr D).1.1 (by rw[h.sp.r D];omega)) o.size,(h.rw.nr D).2⟩,λq g=>⟨P q (by rw[l]at g;exact g),(h.rw.nc q (by rw[l]at g;exact g)).2⟩,λq g=>h.rw.d q (by rw[l]at g;exact g),λq E g t C G U=>?_,λq E g t C=>h.rw.dc q E (by rw[l]at g;exact g) (by rw[l]at t;exact t) C,λq g=>?_⟩,⟨h.sp.b,h.sp.n,h.sp.r,λq g=>h.sp.c q (by rw[l]at g;exact g),h.sp.f,h.sp.k,λq g z=>?_⟩,h.pr.of (λq g G=>m q g (by rw[G];omega)) (λ_ _ h=>h)⟩;exact(h.rw.r k u).of λj _=>cOb br _ (m br (h.rw.nr (by have:k<x.B.length:=u;omega)).1.1 (by rw[h.sp.r (by have:k<x.B.length:=u;omega)];omega))
 rw[l]at g;rw[(Hp.c_set x i c' I) q];by_cases e:q=i
 ·subst e;rw[if_pos rfl];exact W
 rw[if_neg e];exact(h.rw.s q g).of λj H=>N q g e j (by omega)
 rw[l]at g;rw[y q];by_cases e:q=i
 ·subst e;rw[J _ (by omega)];exact h.rw.p7 q g
 rw[N q g e 7 (by omega)];exact h.rw.p7 q g;rw[l]at g;have A:(({ x with A:=x.A.set i c' }:Hp).c q).p k=(x.c q).p k:=by simp only[Cl.p,y q]
 rw[y q]at u;rw[A];exact(h.rw.p q g k u).of λj _=>cOb (pb q) _ (O q g (h.rw.pw g (by omega)))
 rw[l]at g;have⟨T,S,L,R⟩:=h.rw.pl q g z;exact⟨T,eN S (O q g z) o.size,⟨L.1,λj H=>L.2 j (by rw[l]at H;exact H)⟩,R⟩;rw[l]at g t;exact h.rw.dp q E g t C G U;rw[l]at g;rw[y q];exact h.rw.kp q g;rw[l]at g;exact h.sp.p q g z
theorem b9g(x:Hp)(b:Nat)(w:World)(a:w.cell? (aA b 5)=some (iv x.E)):
  Calls prog 162 #[pP b] w λe w'=>e=.returned (.bool (mkB x))/\w'=w:=by
 cases q:(x.E == 1)
 ·have E:=uU (show mkB x=(x.E == 2) by simp[mkB,q]);go_in;go_wp2;go_ret;exact⟨by rw[uH E];rfl,rfl⟩
 go_in;go_wp2;go_ret;exact⟨by rw[(show mkB x=true by simp[mkB,q])];rfl,rfl⟩
theorem a5s(c:Cl)(b i d a:Nat)(w:World)(h:w.cell? (aA b (i*2+1))=some (pQ d a))(s:S7 w d a c):
  Calls prog 167 #[ndp b i] w λe w'=>e=.returned (.bool (whB c))/\w'=w:=by
 have g:=s.1;have f:=s.2.2.2.2.2.1;cases q:(c.st == 1)
 ·have E:=uU (show whB c=false by simp[whB,q]);go_in;go_wp2;go_ret;exact⟨by rw[uH E];rfl,rfl⟩
 go_in;go_wp2;go_ret;exact⟨by rw[(show whB c=(c.J == 0) by simp[whB,q])];rfl,rfl⟩
theorem b1y[qr](i:Nat)(w:World)
  (h:SAt B w b x ar kr v4 v8 br cB cO bn pb pa pk kn hd vf F vk K role) (f:i<x.A.length) (Y:eE x i=true->x.D.length<4000) (a:World) (z:a.heap.size<=B) (r:Ext a w) :
  Calls prog 222 #[pP b,ndp bn i] w λe w'=>e=.returned (.tuple #[])/\Hid (SAt B w' b (uK x i) ar kr v4 v8 br cB cO bn pb pa pk kn hd vf F vk K role)/\Ext a w'/\Hid (∀q,q<w.heap.size->q≠b->q≠cB i->w'.heap[q]?=w.heap[q]?):=by
 have H:=uU h;have⟨m0,L⟩:=h.sb.nd i f;have S:=h.rw.s i f;go_in;go_wp21;refine(b9g x b _ h.sb.bx.2.2.2.2.2.1).mono ?_;rintro e w1 ⟨rfl,rfl⟩;cases y:mkB x;have E:=uU (show uK x i=x by unfold uK;rw[if_neg (by simp[eE,y])]);go_wp21;try simp only[Exit.inBlock,Exit.then]
 refine bodyPost_ret (results_none rfl _ _ _) rfl ?_;exact⟨rfl,by rw[uH E];exact uH H,r,λ_ _ _ _=>rfl⟩;go_wp21;refine(a5s (x.c i) bn i (cB i) (cO i) _ L S).mono ?_;rintro e g ⟨rfl,rfl⟩;cases v:whB (x.c i)
 ·have E:=uU (show uK x i=x by unfold uK;rw[if_neg (by simp[eE,v])]);go_wp21;try simp only[Exit.inBlock,Exit.then]
  refine bodyPost_ret (results_none rfl _ _ _) rfl ?_;exact⟨rfl,by rw[uH E];exact uH H,r,λ_ _ _ _=>rfl⟩
 have t:eE x i=true:=by simp[eE,y,v]
 have s5:=S.2.2.2.2.2.1;have Z:=(H.rw.nc i f).1.2 (cO i+5);have C:=uU (show SAt B (g.setCell (aA (cB i) (cO i+5)) (iv 1)) b { x with A:=x.A.set i (yV (x.c i)) } ar kr v4 v8 br cB cO bn pb pa pk kn hd vf F vk K role from
  H.setc f rfl (uZ.setCell (S:=λq=>q=cB i) (uZ.refl _ g) (p:=(aA (cB i) (cO i+5))) rfl _) (by
   have⟨N,U,O,M,I,D,J⟩:=uH S;refine⟨?_,?_,?_,?_,?_,kM _ _ _ D,?_⟩;rw[uC _ (.inr (by omega))];exact N;rw[uC _ (.inr (by omega))];exact U;rw[uC _ (.inr (by omega))];exact O;rw[uC _ (.inr (by omega))];exact M;rw[uC _ (.inr (by omega))];exact I;rw[uC _ (.inr (by omega))];exact J) (λk hk=>uC _ (.inr (by omega))) ((H.rw.nc i f).1.set _ _))
 go_wp21;refine(c1s b bn hd i x.D _ C.sb.rg C.sb.nb (Y t)).mono ?_;rintro e T ⟨rfl,m,d,l,n⟩;have G:=d.ext (r.sc (cB i) (cO i+5) (show a.heap.size<=cB i from kA z (H.rw.nc i f).2) (iv 1)) (λq u e=>by have:=(kA z H.sb.lo.1);omega);go_wp21;go_end0;exact⟨rfl,by rw[(show uK x i={ x with A:=x.A.set i (yV (x.c i)),D:=x.D++[(i:Int)] } by unfold uK;rw[if_pos t])];exact (C.ring m d l (λo ho=>n o (by omega))),G,(show ∀q,q<g.heap.size->q≠b->q≠cB i->T.heap[q]?=g.heap[q]? from λq u X V=>(d.block q (by simpa[World.setCell]using u) X).trans (kP _ _ _ _ V))⟩
theorem b5o[qr](i:Nat)(w:World)
  (h:SAt B w b x ar kr v4 v8 br cB cO bn pb pa pk kn hd vf F vk K role) (g:i<x.A.length) (j:eE x i=true->x.D.length<4000) (a:World) (l:a.heap.size<=B) (k:Ext a w) :
  Calls prog 222 #[pP b,ndp bn i] w λe w'=>e=.returned (.tuple #[])/\Hid (SAt B w' b (uK x i) ar kr v4 v8 br cB cO bn pb pa pk kn hd vf F vk K role)/\Ext a w':=
 (b1y i w h g j a l k).mono λ_ _ ⟨f,d,c,_⟩=>⟨f,d,c⟩
def dQ(x z:Hp):Prop:=z.A.length=x.A.length/\∀q,(z.c q).st=(x.c q).st
theorem dQ.refl(x:Hp):dQ x x:=⟨rfl,λ_=>rfl⟩
theorem dQ.trans{y:Hp}(h:dQ x y)(k:dQ y z):dQ x z:=⟨k.1.trans h.1,λq=>(k.2 q).trans (h.2 q)⟩
theorem dQ.set(x:Hp)(i:Nat)(c:Cl)(d:c.st=(x.c i).st)(b:z.A=x.A.set i c):dQ x z:=by
 refine⟨by rw[b];simp,λq=>?_⟩;have e:z.c q=({ x with A:=x.A.set i c }:Hp).c q:=by simp only[Hp.c,b]
 rw[e];obtain a|a:=ky i x.A.length;rw[Hp.c_set x i c a q];by_cases h:q=i
 ·rw[if_pos h,h];exact d
 rw[if_neg h];rw[List.set_eq_of_length_le a]
theorem dQ.A(a:z.A=x.A):dQ x z:=⟨by rw[a],λq=>by simp only[Hp.c,a]⟩
theorem a5t(x:Hp)(i:Nat):dQ x (uK x i):=by
 unfold uK;split;exact dQ.set x i (yV (x.c i)) rfl rfl;exact dQ.refl x
theorem a7j(x:Hp)(y:Wd):dQ x (uX x y):=by
 unfold uX;split;exact a5t x _;exact dQ.refl x
theorem b7r:∀(ys:List Wd)(z:Hp),dQ z (ys.foldl uX z)/\(ys.foldl uX z).E=z.E
 | [],z=>⟨dQ.refl z,rfl⟩
 | y::ys,z=>by
  have⟨a,b⟩:=b7r ys (uX z y);exact⟨(a7j z y).trans a,b.trans (a0b z y).2.2.1⟩
theorem a8a(h:x.E=1\/x.E=2):kU x=16000:=by unfold kU;rw[if_pos h]
theorem b9h(h:x.E=3):kU x=8000+(x.A.length-x.I.toNat):=by unfold kU;rw[if_neg (by omega),if_pos h]
theorem b9i(h:x.E=4\/x.E=5):kU x=8000:=by unfold kU;rw[if_neg (by omega),if_neg (by omega),if_pos h]
theorem c4x(h:x.E=6):kU x=x.I.toNat:=by unfold kU;rw[if_neg (by omega),if_neg (by omega),if_neg (by omega),if_pos h]
theorem remU_0(h:x.E=0):kU x=0:=by unfold kU;rw[if_neg (by omega),if_neg (by omega),if_neg (by omega),if_neg (by omega)]
theorem zQ.same(h:zQ C x F K)(c:dQ x z)(b:x.E≠3/\x.E≠4)(j:kU z<=kU x)(f:z.E≠4)(g:z.E=3->z.I=0):zQ C z F K where
 ho:=h.ho
 al:=λi a d=>h.al i (c.1▸a) (by rw[<-c.2];exact d)
 nn:=h.nn
 le:=by have:=h.le;omega
 k3:=λe=>h.k0 b.1 b.2▸⟨List.Pairwise.nil,λi a=>by simp at a,λi a=>by rw[g e]at a;simp at a⟩
 k4:=λe=>absurd e f
 k0:=λ_ _=>h.k0 b.1 b.2
theorem inv1(h:zQ C x F K)(b:x.E=1):zQ C (eH x) F K:=by
 have d:=a8a (.inl b);have a:∀z:Hp,dQ x z->z.E=1->zQ C z F K:=λz g f=>h.same g ⟨by omega,by omega⟩ (by rw[d,a8a (.inl f)];omega) (by omega) (λe=>by omega)
 unfold eH;split;refine h.same (z:=dC x 2 0) (dQ.A rfl) ⟨by omega,by omega⟩ ?_ (by simp[dC]) (by simp[dC]);rw[d,a8a (.inr rfl)];omega;by_cases e:kZ (x.c x.I.toNat)=true
 ·simp only[if_pos e];exact a _ ((a5t x x.I.toNat).trans (dQ.A rfl)) ((cC x _).2.2.2.2.2.1.trans b)
 simp only[if_neg e];exact a _ (dQ.A rfl) b
theorem inv2(h:zQ C x F K)(f:x.E=2)(n:x.A.length<=8000):zQ C (dW x) F K:=by
 have i:=a8a (.inr f);have d:∀z:Hp,dQ x z->z.E=2->zQ C z F K:=λz l j=>h.same l ⟨by omega,by omega⟩ (by rw[i,a8a (.inr j)];omega) (by omega) (λe=>by omega)
 unfold dW;split;rename_i g G m;split;refine d _ (((a7j x _).trans (a7j _ _)).trans (dQ.A rfl)) ?_;exact(a0b _ _).2.2.1.trans ((a0b _ _).2.2.1.trans f);exact d _ (dQ.set x g.toNat (a1w (x.c g.toNat)) rfl rfl) f;have⟨a,b⟩:=b7r x.B x;have k:(zX x).A.length<=8000:=by have:=a.1;unfold zX;omega
 split;refine h.same (a.trans (dQ.A rfl)) ⟨by omega,by omega⟩ ?_ (by simp[dC]) (by simp[dC]);rw[i,b9h rfl];simp only[dC];omega;exact d _ a (b.trans f)
theorem inv5(h:zQ C x F K)(b:x.E=5)(i:x.A.length<=8000):zQ C (dK x) F K:=by
 have d:=b9i (.inr b);have a:∀z:Hp,dQ x z->z.E=5->zQ C z F K:=λz g f=>h.same g ⟨by omega,by omega⟩ (by rw[d,b9i (.inr f)];omega) (by omega) (λe=>by omega)
 unfold dK;split;refine h.same (z:=dC x 6 x.A.length) (dQ.A rfl) ⟨by omega,by omega⟩ ?_ (by simp[dC]) (by simp[dC]);rw[d,c4x rfl];simp[dC];exact i;split
 ·exact a _ (dQ.set x x.I.toNat (zK x (x.c x.I.toNat) x.sub.toNat) rfl rfl) b
 exact a _ (dQ.A rfl) b
theorem d2f(h:zQ C x F K)(a:x.E=3)(b:x.I=x.A.length):zQ C (dC x 4 0) F K where
 ho:=h.ho
 al:=h.al
 nn:=h.nn
 le:=by have:=h.le;rw[b9h a]at this;rw[b9i (.inl rfl)];omega
 k3:=λe=>by simp[dC]at e
 k4:=λ_=>by
  have k:=h.k3 a;rw[show x.I.toNat=x.A.length by omega]at k;exact k
 k0:=λ_ e=>by simp[dC]at e
theorem b1z(h:zQ C x F K)(hp:x.E=3)(hz:z.E=3)(i:Nat)(hi:x.I=(i:Int))(hin:i<x.A.length)(hzi:z.I=(i:Int)+1)(hl:z.A.length=x.A.length)(hs:∀q,q≠i->(z.c q).st=(x.c q).st)(ho:Ho F')(hf:(F'=F/\((z.c i).st=0->(x.c i).st=0))\/F'.Perm ((i:Int)::F)):zQ C z F' (K++if (z.c i).st=1 then [i] else []) where
 ho:=ho
 al:=λq hq h0=>by
  rw[hl]at hq;obtain⟨e,e2⟩|e:=hf;rw[e];refine h.al q hq ?_;by_cases c:q=i
  ·rw[c]at h0 ⊢;exact e2 h0
  rw[<-hs q c];exact h0;refine e.mem_iff.2 ?_;by_cases c:q=i
  ·rw[c];exact mP
  exact mm _ (h.al q hq (hs q c▸h0))
 nn:=λv hv=>by
  obtain⟨e,_⟩|e:=hf;rw[e]at hv;exact h.nn v hv;obtain e2|e2:=qM.1 (e.mem_iff.1 hv)
  ·omega
  exact h.nn v e2
 le:=by
  have h1:=h.le;rw[b9h hp]at h1;rw[b9h hz];have:F'.length<=F.length+1:=by
   obtain⟨e,_⟩|e:=hf;rw[e];omega;have:=e.length_eq;simp at this;omega
  omega
 k3:=λ_=>by
  have e:z.I.toNat=i+1:=by omega
  have e2:x.I.toNat=i:=by omega
  have⟨p1,p2,p3⟩:=h.k3 hp;rw[e2]at p2 p3;rw[e];have mem:∀q,q∈(K++if (z.c i).st=1 then [i] else [])↔q∈K\/((z.c i).st=1/\q=i):=λq=>by
   by_cases c:(z.c i).st=1;simp[c];simp[c]
  refine⟨?_,λq hq=>?_,λq hq h1 hn j hj h0=>?_⟩;by_cases c:(z.c i).st=1
  ·rw[if_pos c];refine qI.2 ⟨p1,List.pairwise_singleton _ _,λa ha b hb=>?_⟩;simp at hb;have:=(p2 a ha).1;omega
  rw[if_neg c,qA];exact p1;obtain c|⟨c,d⟩:=(mem q).1 hq
  ·have:=p2 q c;exact⟨by omega,hs q (by omega)▸this.2⟩
  rw[d];exact⟨by omega,c⟩;have hne:q≠i:=λc=>hn ((mem q).2 (.inr ⟨c▸h1,c⟩))
  by_cases c:j=i;omega;exact p3 q (by omega) (hs q hne▸h1) (λc2=>hn ((mem q).2 (.inl c2))) j (by omega) (hs j c▸h0)
 k4:=λe=>by omega
 k0:=λe=>absurd hz e
theorem d2g(h:zQ C x F K)(c:x.E=6)(a:z.E=0)(b:z.A=x.A):zQ C z F K:=
 h.same (dQ.A b) ⟨by omega,by omega⟩ (by rw[remU_0 a];omega) (by omega) (λe=>by omega)
theorem c8n(h:zQ C x F K)(hp:x.E=6)(hz:z.E=6)(i:Nat)(hi:x.I=(i:Int)+1)(hzi:z.I=(i:Int))(hl:z.A.length<=x.A.length)(hs:∀q,q<z.A.length->q≠i->(z.c q).st=(x.c q).st)(ho:Ho F')(hf:(F'=F/\(i<z.A.length->(z.c i).st=0->(x.c i).st=0))\/F'.Perm ((i:Int)::F)):zQ C z F' K where
 ho:=ho
 al:=λq hq h0=>by
  obtain⟨e,e2⟩|e:=hf;rw[e];refine h.al q (by omega) ?_;by_cases c:q=i
  ·rw[c]at h0 ⊢;exact e2 (by omega) h0
  rw[<-hs q hq c];exact h0;refine e.mem_iff.2 ?_;by_cases c:q=i
  ·rw[c];exact mP
  exact mm _ (h.al q (by omega) (hs q hq c▸h0))
 nn:=λv hv=>by
  obtain⟨e,_⟩|e:=hf;rw[e]at hv;exact h.nn v hv;obtain e2|e2:=qM.1 (e.mem_iff.1 hv)
  ·omega
  exact h.nn v e2
 le:=by
  have h1:=h.le;rw[c4x hp]at h1;rw[c4x hz];have:F'.length<=F.length+1:=by
   obtain⟨e,_⟩|e:=hf;rw[e];omega;have:=e.length_eq;simp at this;omega
  omega
 k3:=λe=>by omega
 k4:=λe=>by omega
 k0:=λ_ _=>h.k0 (by omega) (by omega)
theorem inv0(h:zQ C x F K)(a:x.E=0):zQ (C+16000) (dC x 1 0) F K where
 ho:=h.ho
 al:=h.al
 nn:=h.nn
 le:=by have:=h.le;rw[a8a (.inl rfl)];omega
 k3:=λe=>by simp[dC]at e
 k4:=λe=>by simp[dC]at e
 k0:=λ_ _=>h.k0 (by omega) (by omega)
theorem zQ.wide{D:Nat}(h:zQ C x F K)(a:C<=D):zQ D x F K:=⟨h.ho,h.al,h.nn,kA h.le a,h.k3,h.k4,h.k0⟩
theorem SAt.freed[qr](h:SAt B w b x ar kr v4 v8 br cB cO bn pb pa pk kn hd vf F vk K role){vf':Value}(l:eX w' B b 14 vf' F')(q:QFr b 14 vf vf' w w')(D:Nf1 b w'):
  ∃role',SAt B w' b x ar kr v4 v8 br cB cO bn pb pa pk kn hd vf' F' vk K role':=by
 have t:∀k,role k≠4->vf.ownBlock≠some k:=λk d e=>d (h.sp.f k e)
 have m:∀k,k<w.heap.size->role k≠4->role k≠0->w'.heap[k]?=w.heap[k]?:=λk d s C=>q.block k d (λe=>C (e▸h.sp.b)) (t k s)
 have u:∀o,o≠14->w'.cell? (aA b o)=w.cell? (aA b o):=λo z=>q.hdr o z
 have A:∀k,vf'.ownBlock=some k->vf.ownBlock=some k\/w.heap.size<=k:=λk d=>by
  obtain e|⟨g,e,E⟩:=q.own;exact .inl (e ▸ d);grind[Grw.at,Nf1]
 have i:∀k,k<w.heap.size->role k≠4->vf'.ownBlock≠some k:=λk d G e=>by grind[S7.some,Nf1]
 have y:=m bn h.sb.lo.2.2.1 (by rw[h.sp.n];omega) (by rw[h.sp.n];omega);refine⟨λk=>(open Classical in if vf'.ownBlock=some k then 4 else role k),⟨h.sb.bx.of λo z=>u o (by omega),h.sb.ha,(u 13 (by omega)).trans h.sb.n13,λk d=>⟨(cOb bn _ y).trans (h.sb.nd k d).1,(cOb bn _ y).trans (h.sb.nd k d).2⟩,l,h.sb.rg.of λo s _=>u o (by omega),(u 4017 (by omega)).trans h.sb.k0,uN h.sb.kp (λk d=>m k (h.sb.kp.lt k d).2 (by rw[h.sp.k k d];omega) (by rw[h.sp.k k d];omega)),D,⟨h.sb.lo.1,h.sb.lo.2.1,h.sb.lo.2.2.of y q.size⟩⟩,h.rw.same q.size (λj=>m br (h.rw.nr j).1.1 (by rw[h.sp.r j];omega) (by rw[h.sp.r j];omega)) (λk d=>m (cB k) (h.rw.nc k d).1.1 (by rw[h.sp.c k d];omega) (by rw[h.sp.c k d];omega)) (λk d j=>m (pb k) (h.rw.pl k d j).2.1.1 (by rw[h.sp.p k d j];omega) (by rw[h.sp.p k d j];omega)),?_,h.pr.of (λq v s=>m q v (by rw[s];omega) (by rw[s];omega)) (λq v s=>by(try dsimp only);rw[if_neg (i q v (by rw[s];omega))];exact s)⟩;exact⟨by rw[if_neg (i b h.sb.nb.1 (by rw[h.sp.b];omega))];exact h.sp.b,by rw[if_neg (i bn h.sb.lo.2.2.1 (by rw[h.sp.n];omega))];exact h.sp.n,λj=>by rw[if_neg (i br (h.rw.nr j).1.1 (by rw[h.sp.r j];omega))];exact h.sp.r j,λk d=>by rw[if_neg (i (cB k) (h.rw.nc k d).1.1 (by rw[h.sp.c k d];omega))];exact h.sp.c k d,λk d=>by rw[if_pos d],λk d=>by rw[if_neg (i k (h.sb.kp.lt k d).2 (by rw[h.sp.k k d];omega))];exact h.sp.k k d,λk d j=>by rw[if_neg (i (pb k) (h.rw.pl k d j).2.1.1 (by rw[h.sp.p k d j];omega))];exact h.sp.p k d j⟩
theorem SAt.drop[qr](h:SAt B w b x ar kr v4 v8 br cB cO bn pb pa pk kn hd vf F vk K role)(i:Nat)(O:i+1=x.A.length):
  SAt B (w.setCell (aA b 13) (sS bn i kn)) b { x with A:=x.A.take i } ar kr v4 v8 br cB cO bn pb pa pk kn hd vf F vk K role:=by
 have t:∀q,q<w.heap.size->role q≠0->(w.setCell (aA b 13) (sS bn i kn)).heap[q]?=w.heap[q]?:=λq g N=>kP _ _ _ _ (λe=>N (e▸h.sp.b))
 have A:w.heap.size<=(w.setCell (aA b 13) (sS bn i kn)).heap.size:=by simp[World.setCell]
 have l:=h.rw.same (w':=w.setCell (aA b 13) (sS bn i kn)) A (λm=>t br (h.rw.nr m).1.1 (by rw[h.sp.r m];omega)) (λq g=>t (cB q) (h.rw.nc q g).1.1 (by rw[h.sp.c q g];omega)) (λq g m=>t (pb q) (h.rw.pl q g m).2.1.1 (by rw[h.sp.p q g m];omega));have m:({ x with A:=x.A.take i }:Hp).A.length=i:=by simp;omega
 have D:∀q,q<i->({ x with A:=x.A.take i }:Hp).c q=x.c q:=λq g=>by grind[Hp.c]
 have E:∀o,o≠13->(w.setCell (aA b 13) (sS bn i kn)).cell? (aA b o)=w.cell? (aA b o):=λo J=>uC _ (.inr (λe=>J e.symm))
 have I:=t bn h.sb.lo.2.2.1 (by rw[h.sp.n];omega);refine⟨⟨h.sb.bx.of λo J=>E o (by omega),h.sb.ha,?_,λk C=>?_,⟨(E 14 (by omega)).trans h.sb.fr.hd,(h.sb.nb.set _ _).2 14,uN h.sb.fr.own (λq g=>t q (h.sb.fr.own.lt q g).2 (by rw[h.sp.f q g];omega)),h.sb.fr.apart⟩,h.sb.rg.of λo G _=>E o (by omega),(E 4017 (by omega)).trans h.sb.k0,uN h.sb.kp (λq g=>t q (h.sb.kp.lt q g).2 (by rw[h.sp.k q g];omega)),h.sb.nb.set _ _,⟨h.sb.lo.1,h.sb.lo.2.1,h.sb.lo.2.2.of I A⟩⟩,⟨l.r,λq g=>?_,λq g=>?_,λq g k C=>?_,λq g y=>?_,l.nr,λq g=>l.nc q (by rw[m]at g;omega),λq g=>l.d q (by rw[m]at g;omega),λq H g u v G L=>?_,λq H g u v=>l.dc q H (by rw[m]at g;omega) (by rw[m]at u;omega) v,λq g=>by rw[m]at g;rw[D q g];exact l.kp q (by omega)⟩,⟨h.sp.b,h.sp.n,h.sp.r,λq g=>h.sp.c q (by rw[m]at g;omega),h.sp.f,h.sp.k,λq g y=>?_⟩,h.pr.of (λq g G=>t q g (by rw[G];omega)) (λ_ _ h=>h)⟩;rw[m];exact kM _ _ _ h.sb.n13;rw[m]at C;exact⟨(cOb bn _ I).trans (h.sb.nd k (by omega)).1,(cOb bn _ I).trans (h.sb.nd k (by omega)).2⟩;rw[m]at g;rw[D q g];exact l.s q (by omega);rw[m]at g;rw[D q g];exact l.p7 q (by omega);rw[m]at g;rw[D q g]at C ⊢;exact l.p q (by omega) k C;rw[m]at g;have z:=l.pl q (by omega) y;exact⟨z.1,z.2.1,⟨z.2.2.1.1,λj M=>z.2.2.1.2 j (by rw[m]at M;omega)⟩,z.2.2.2⟩;rw[m]at g u;exact l.dp q H (by omega) (by omega) v G L;rw[m]at g;exact h.sp.p q (by omega) y
theorem SAt.setr[qr](h:SAt B w b x ar kr v4 v8 br cB cO bn pb pa pk kn hd vf F vk K role)(j:Nat)(S:j<x.B.length)(y:Wd)(o:uZ (λq=>q=br) w w')(P:Nf1 br w')(R:yD w' br (j*3) y)(Q:∀m,(m<j*3\/j*3+3<=m)->w'.cell? (aA br m)=w.cell? (aA br m)):
  SAt B w' b { x with B:=x.B.set j y } ar kr v4 v8 br cB cO bn pb pa pk kn hd vf F vk K role:=by
 have v:0<x.B.length:=by omega
 have l:∀q,q<w.heap.size->role q≠2->w'.heap[q]?=w.heap[q]?:=λq g O=>o.block q g (λe=>O (e▸h.sp.r v))
 have t:({ x with B:=x.B.set j y }:Hp).B.length=x.B.length:=by simp
 have G:∀q,q<x.A.length->0<pk q->w'.heap[pb q]?=w.heap[pb q]?:=λq g t=>l (pb q) (h.rw.pl q g t).2.1.1 (by rw[h.sp.p q g t];omega)
 have A:∀q,q<x.A.length->w'.heap[cB q]?=w.heap[cB q]?:=λq g=>l (cB q) (h.rw.nc q g).1.1 (by rw[h.sp.c q g];omega)
 have i:=h.sb.same o.size (l b h.sb.nb.1 (by rw[h.sp.b];omega)) (l bn h.sb.lo.2.2.1 (by rw[h.sp.n];omega)) (λq g=>l q (h.sb.fr.own.lt q g).2 (by rw[h.sp.f q g];omega)) (λq g=>l q (h.sb.kp.lt q g).2 (by rw[h.sp.k q g];omega));refine⟨⟨t▸i.bx,λ_=>i.ha v,i.n13,i.nd,i.fr,i.rg,i.k0,i.kp,i.nb,i.lo⟩,⟨λm E=>?_,λq g=>?_,λq g=>?_,λq g k z=>?_,λq g u=>?_,λ_=>⟨P,(h.rw.nr v).2⟩,λq g=>⟨uY (h.rw.nc q g).1 (A q g) o.size,(h.rw.nc q g).2⟩,h.rw.d,h.rw.dp,h.rw.dc,h.rw.kp⟩,⟨h.sp.b,h.sp.n,λ_=>h.sp.r v,h.sp.c,h.sp.f,h.sp.k,h.sp.p⟩,h.pr.of (λq g N=>l q g (by rw[N];omega)) (λ_ _ h=>h)⟩;have C:m<x.B.length:=by rw[t]at E;exact E
 by_cases e:m=j;grind[Nf1,yD];have D:j≠m:=λJ=>e J.symm
 have:({ x with B:=x.B.set j y }:Hp).B[m]=x.B[m]:=by simp[List.getElem_set_ne D]
 rw[this];exact(h.rw.r m C).of λk z=>Q _ (by omega)
 exact(h.rw.s q g).of λm _=>cOb (cB q) _ (A q g)
 exact(cOb (cB q) _ (A q g)).trans (h.rw.p7 q g);have H:k<(x.c q).F.length:=z;exact(h.rw.p q g k z).of λm _=>cOb (pb q) _ (G q g (h.rw.pw g (by omega)))
 have⟨M,L,I⟩:=h.rw.pl q g u;exact⟨M,eN L (G q g u) o.size,I⟩
def gapV(t:Option Nat)(bn:Nat):Value:=match t with
 | none=>.pointer none
 | some j=>ndp bn j
def a9e(x:Hp)(F F':List Int):Prop:=Ho F'/\F'.length<=F.length/\(∀v,v∈F'->v∈F)/\∀i,i<x.A.length->(x.c i).st=0->(i:Int)∈F->(i:Int)∈F'
def c1t(x:Hp)(F':List Int)(t:Option Nat):Prop:=match t with
 | none=>F'=[]
 | some j=>j<x.A.length/\(x.c j).st=0/\∀v,v∈F'->(j:Int)<=v
theorem a9e.next{L:List Int}(h:a9e x F F')(m:Ho L)(b:((j:Int)::L).Perm F')(l:j<x.A.length->(x.c j).st≠0):a9e x F L/\L.length<F'.length:=by
 have a:=b.length_eq;simp at a;refine⟨⟨m,by have:=h.2.1;omega,λv g=>h.2.2.1 v (b.mem_iff.1 (mm _ g)),λi d f k=>?_⟩,by omega⟩;obtain e|e:=qM.1 (b.mem_iff.2 (h.2.2.2 i d f k));have:i=j:=by omega
 subst this;exact absurd f (l d);exact e
theorem c6s[qr](h:SAt B w b x ar kr v4 v8 br cB cO bn pb pa pk kn hd vf F vk K role)(ho:Ho F)(hl:F.length<=1000000000)(nn:∀v,v∈F->0<=v):
  Calls prog 231 #[pP b] w λe w'=>∃t vf' F',e=.returned (gapV t bn)/\Hid (eX w' B b 14 vf' F'/\QFr b 14 vf vf' w w')/\Hid (a9e x F F'/\c1t x F' t):=by
 have H:=uU h;have o:=uU h.sb.fr;have r:∀wr vf',QFr b 14 vf vf' w wr->∀k,k<w.heap.size->role k≠4->role k≠0->wr.heap[k]?=w.heap[k]?:=λwr vf' q k W h1 h2=>q.block k W (λe=>h2 (e▸h.sp.b)) (λe=>h1 (h.sp.f k e));go_in;go_wp21;go_loopg [] (F.length+1) (λgk wr=>∃(vf':Value)(F':List Int),F'.length<gk/\Hid (eX wr B b 14 vf' F'/\QFr b 14 vf vf' w wr)/\Hid (a9e x F F'))
 case atStart=>exact⟨vf,F,by omega,⟨o,QFr.refl _ _ _ _⟩,(show a9e x F F from⟨ho,hT _,λ_ h=>h,λ_ _ _ h=>h⟩)⟩
 case round=>
  have⟨vf',F',y,A,i⟩:=hrel;have o:=uU A.1;have u:=uU A.2;have Z:wr.cell? (aA b 13)=some (sS bn x.A.length kn):=(u.hdr 13 (by omega)).trans h.sb.n13;by_cases Q:F'.length=0
  ·obtain⟨ad,p,rfl⟩:=o.empty Q;have m:=o.hd;go_wp21;refine(a5e _ b 14 ad p m).mono ?_;rintro e T ⟨rfl,rfl⟩;go_wp2;go_ret;exact⟨none,_,F',rfl,⟨o,u⟩,i,(show F'=[] from nw.1 Q)⟩
  have d:0<F'.length:=by omega
  obtain⟨g,p,rfl,aa⟩:=o.form d;have m:=o.hd;have M:=o.cell 0 d;have⟨j,S⟩:∃j:Nat,it F' 0=(j:Int):=⟨(it F' 0).toNat,by have:=nn _ (i.2.2.1 _ (a3s F' 0 d));omega⟩;rw[S]at M;have j0:=i0N j;have C:=uU S;by_cases l:j<x.A.length
  ·have⟨m0,Y⟩:=H.sb.nd j l;have n1:wr.cell? (aA bn (j*2+1))=some (pQ (cB j) (cO j)):=(cOb bn _ (r wr _ u bn H.sb.lo.2.2.1 (by rw[H.sp.n];omega) (by rw[H.sp.n];omega))).trans Y;have o0:wr.cell? (aA (cB j) (cO j))=some (iv (x.c j).st):=(cOb (cB j) _ (r wr _ u (cB j) (H.rw.nc j l).1.1 (by rw[H.sp.c j l];omega) (by rw[H.sp.c j l];omega))).trans ((H.rw.s j l).1);have j1:(j:Int)<(x.A.length:Int):=by omega
   go_wp21;refine(a2o _ b 14 g 0 F'.length p j d m M).mono ?_;rintro e T ⟨rfl,rfl⟩;cases P:((x.c j).st == 0)
   ·have I:¬(x.c j).st=0:=by simpa using P
    have D:j<x.A.length->(x.c j).st≠0:=λ_=>I;go_wp21;refine(b1n _ B b 14 _ F' o d i.1 (by have:=i.2.1;omega)).mono ?_;rintro e V ⟨rfl,J,L,O,E,z,G⟩;rw[uH C]at z;have R:=kG (kG O (u.trans G)) (i.next E z D);go_wp21;go_roundg F'.length
    case measure=>exact y
    case rel=>exact⟨J,L,R.2.2,R.1,R.2.1⟩
   go_wp2;go_ret;exact⟨some j,_,F',rfl,⟨o,u⟩,i,(show c1t x F' (some j) from⟨l,by simpa using P,λv hv=>by have:=i.1.least hv;rw[uH C]at this;exact this⟩)⟩
  go_wp21;refine(a2o _ b 14 g 0 F'.length p j d m M).mono ?_;rintro e T ⟨rfl,rfl⟩;go_wp21;refine(b1n _ B b 14 _ F' o d i.1 (by have:=i.2.1;omega)).mono ?_;rintro e V ⟨rfl,J,L,O,E,z,G⟩;rw[uH C]at z;have R:=kG (kG O (u.trans G)) (i.next E z (show j<x.A.length->(x.c j).st≠0 from λh=>absurd h l));go_wp21;go_roundg F'.length
  case measure=>exact y
  case rel=>exact⟨J,L,R.2.2,R.1,R.2.1⟩
theorem c4y[qr](h:SAt B w b x ar kr v4 v8 br cB cO bn pb pa pk kn hd vf F vk K role)(s:Snd x)(J:x.E=1)(i:Nat)(v:x.I=(i:Int))(d:i<x.A.length)(a:World)(V:a.heap.size<=B)(L:Ext a w):
  Calls prog 272 #[.agg #[pP b]] w λe w'=>e=.returned (yY (eH x).E b)/\Hid (SAt B w' b (eH x) ar kr v4 v8 br cB cO bn pb pa pk kn hd vf F vk K role)/\Ext a w':=by
 have T:x.I.toNat=i:=by omega
 have k:=uU (show eH x={ (if kZ (x.c i)=true then uK x i else x) with I:=(i:Int)+1 } by unfold eH;rw[if_neg (by omega),T,v]);have A:=uU (show(eH x).E=1 by rw[uH k];split;exact((cC x i).2.2.2.2.2.1).trans J;exact J);have Y:=s.ok.n8;have t:=(hO w).alloc (.cells #[pP b] 210);have g:=h.sb.bx.2.2.2.2.2.2.1;rw[v]at g;have U:b<w.heap.size:=h.sb.nb.1;have X:=h.sb.lo.1;go_in;go_wp21;refine(a0w b x.A.length kn bn i _ (t.keep g) (t.keep h.sb.n13) d).mono ?_;rintro e I ⟨rfl,D⟩;have z:I.cell? (aA w.heap.size 0)=some (pP b):=D.keep (by simp[go_sem]);have j:=t.trans D;have f:=h.ext j;go_wp21;refine(b3a (x.c i) bn i (cB i) (cO i) I (f.sb.nd i d).2 (f.rw.s i d)).mono ?_;rintro e y ⟨rfl,m⟩;subst m;cases q:kZ (x.c i);focus
  have E:=uU (show eH x={ x with I:=(i:Int)+1 } by rw[uH k,q];rfl);have g:y.cell? (aA b 6)=some (iv i):=by have:=f.sb.bx.2.2.2.2.2.2.1;rw[uH v]at this;exact this
  have O:=f.sb.nb.2 6;have n:=f.I ((i:Int)+1);have l:=(L.trans j).sc b 6 (by omega:a.heap.size<=b) (iv ((i:Int)+1))
 rotate_left
 focus
  have E:=uU (show eH x={ uK x i with I:=(i:Int)+1 } by rw[uH k,q];rfl);go_wp21;refine(b1y i _ f d ((a2d s.ok).2 i d) a V (L.trans j)).mono ?_;rintro e C ⟨rfl,r,P,N⟩;have S:cB i<w.heap.size:=(h.rw.nc i d).1.1;have W:C.cell? (aA w.heap.size 0)=some (pP b):=(cOb w.heap.size 0 (N w.heap.size (cLt z) (by omega) (by omega))).trans z;have g:C.cell? (aA b 6)=some (iv i):=by have:=r.sb.bx.2.2.2.2.2.2.1;rw[(cC x i).2.2.2.2.2.2.1,uH v]at this;exact this
  have O:=r.sb.nb.2 6;have n:=uU (r.I ((i:Int)+1));have l:=P.sc b 6 (by omega:a.heap.size<=b) (iv ((i:Int)+1))
 all_goals
  go_wp2;go_ret;exact⟨by rw[uH A];rfl,by rw[uH E];exact uH n,l⟩
theorem a7n(b d c:Nat)(w:World)(h:RAt w b d c []):
  Calls prog 203 #[pQ b 15] w λe w'=>e=.returned (.pointer none)/\Ext w w':=by
 have a:=h.r1;simp only[List.length_nil]at a;go_in;go_wp2;go_ret;exact⟨rfl,hO _⟩
theorem a4k(b d a:Nat)(g:Int)(G:List Int)(w:World)(h:RAt w b d a (g::G)):
  Calls prog 203 #[pQ b 15] w λe w'=>e=.returned (ndp d g.toNat)/\Ext w w':=by
 have j:=h.r0;have f:=h.r1;have m:=h.hl;have o:=h.h0;have c:=h.rg 0 (by simp);have e:(a+0) % 4000=a:=by omega
 rw[e]at c;simp only[List.getElem_cons_zero]at c;have i:(((g::G).length:Nat):Int)=(G.length:Int)+1:=by simp
 rw[i]at f;have l:(((G.length:Int)+1) == 0)=false:=by simp;omega
 have n:=i0N a;have k:(a:Int)<4000:=by omega
 go_in;go_wp21;go_quiet (fail);go_wp2;go_ret;exact⟨rfl,(hO _).drewN _⟩
theorem RAt.dropped{g:Int}(h:RAt w b bn hd (g::G))(a:m=(hd+1) % 4000):
  RAt ((w.setCell (aA b 4015) (iv m)).setCell (aA b 4016) (iv G.length)) b bn m G:=by
 have l:=h.hl;simp at l;refine⟨a▸mT _ (by omega),by omega,?_,?_,λk d=>?_,λj i=>?_⟩;rw[uC _ (.inr (by omega))];exact kM _ _ _ h.r0;have:(w.setCell (aA b 4015) (iv m)).cell? (aA b 4016)=some (iv (g::G).length):=by rw[uC _ (.inr (by omega))];exact h.r1
 exact kM _ _ _ this;have f:(m+k) % 4000<4000:=mT _ (by omega);rw[uC _ (.inr (by omega)),uC _ (.inr (by omega))];have:=h.rg (k+1) (by simpa using d);have e:(hd+(k+1)) % 4000=(m+k) % 4000:=by rw[a];omega
 rw[e]at this;simpa using this;have⟨v,c⟩:=h.ro j i;exact⟨v,by rw[uC _ (.inr (by omega)),uC _ (.inr (by omega))];exact c⟩
theorem c8w(b f a:Nat)(g:Int)(G:List Int)(w:World)(h:RAt w b f a (g::G))(d:Nf1 b w):
  Calls prog 267 #[pQ b 15] w λe w'=>e=.returned (.tuple #[])/\Hid (RAt w' b f ((a+1) % 4000) G/\uZ (λq=>q=b) w w'/\Nf1 b w'/\∀o,(o<15\/o=4017)->w'.cell? (aA b o)=w.cell? (aA b o)):=by
 have r:=h.r0;have k:=h.r1;have v:=h.h0;have j:(((g::G).length:Nat):Int)=(G.length:Int)+1:=by simp
 rw[j]at k;have l:G.length+1<=4000:=by simpa using h.hl
 have s:=d.2 4015;have u:=d.2 4016;have⟨m,c⟩:=obE ((a+1) % 4000);have x:((a:Int)+1).tmod 4000=(m:Int):=by have:=b5n (a+1);rw[<-c]at this;simpa using this
 have n:=uU (show RAt ((w.setCell (aA b 4015) (iv m)).setCell (aA b 4016) (iv G.length)) b f m G/\uZ (λq=>q=b) w ((w.setCell (aA b 4015) (iv m)).setCell (aA b 4016) (iv G.length))/\Nf1 b ((w.setCell (aA b 4015) (iv m)).setCell (aA b 4016) (iv G.length))/\∀o,(o<15\/o=4017)->((w.setCell (aA b 4015) (iv m)).setCell (aA b 4016) (iv G.length)).cell? (aA b o)=w.cell? (aA b o) from
  ⟨h.dropped c,uZ.setCell (S:=λq=>q=b) (tJ w b 4015 _) (p:=(aA b 4016)) rfl _,(d.set _ _).set _ _,λo t=>by rw[uC _ (.inr (by omega)),uC _ (.inr (by omega))]⟩)
 rw[<-c];clear h j c d;go_in;go_wp21;go_end0;exact⟨rfl,n⟩
theorem SAt.rdrop[qr](h:SAt B w b x ar kr v4 v8 br cB cO bn pb pa pk kn hd vf F vk K role)(r:RAt w' b bn hd' G/\uZ (λq=>q=b) w w'/\Nf1 b w'/\∀o,(o<15\/o=4017)->w'.cell? (aA b o)=w.cell? (aA b o)):SAt B w' b { x with D:=G } ar kr v4 v8 br cB cO bn pb pa pk kn hd' vf F vk K role:=h.ring r.1 r.2.1 r.2.2.1 r.2.2.2
def Gave[qr](B:Nat)(w w':World)(b:Nat)(y:Hp)(ar:Option Addr)(kr:Nat)(v4 v8:Value)(br:Nat)(cB cO:Nat->Nat)(bn:Nat)(pb:Nat->Nat)(kn hd:Nat)(vf:Value)(F:List Int)(vk:Value)(K:List Nat)(i:Nat):Prop:=
 (∃pa' pk' vf' F' role',SAt B w' b y ar kr v4 v8 br cB cO bn pb pa' pk' kn hd vf' F' vk K role'/\Ho F'/\F'.Perm ((i:Int)::F))/\∀q,q<w.heap.size->q≠b->q≠cB i->vf.ownBlock≠some q->w'.heap[q]?=w.heap[q]?
theorem b0k[qr](h:SAt B w b x ar kr v4 v8 br cB cO bn pb pa pk kn hd vf F vk K role)(i:Nat)(m:i<x.A.length)(P:Ho F)(O:F.length<=1000000000)(a:World)(ha:a.heap.size<=B)(hx:Ext a w):
  Calls prog 276 #[pP b,ndp bn i] w λe w'=>e=.returned (.tuple #[])/\Gave B w w' b { x with A:=x.A.set i Cl0 } ar kr v4 v8 br cB cO bn pb kn hd vf F vk K i/\Ext a w':=by
 have⟨u,U⟩:=h.sb.nd i m;have⟨e0,X,e2,e3,Y,e5,T⟩:=h.rw.s i m;have S:=h.rw.p7 i m;have V:=(h.rw.nc i m).1.2;have z:¬bn=cB i:=(show ¬bn=cB i from λe=>by have A:=h.sp.n;have M:=h.sp.c i m;rw[e]at A;omega);have f:=h.wiped i m 0 0;have C:=(a0c w (cB i) (cO i) 0 0).ext hx (λq t e=>by have:=(h.rw.nc i m).2;omega);have E:=kG P O;have N:=(cOb bn (i*2) ((a0c w (cB i) (cO i) 0 0).block bn (cLt u) z)).trans u;have⟨o,d⟩:∃W,W=zD w (cB i) (cO i) 0 0:=⟨_,rfl⟩;rw[<-d]at f C N;have I:uZ (λq=>q=cB i) w o:=d▸a0c w (cB i) (cO i) 0 0;unfold zD at d;clear h P O;go_in;go_wp21;rw[<-d];clear d u U e0 X e2 e3 Y e5 T S V;have k0:=uH N;have R:B<=o.heap.size:=by have:=f.sb.lo.2.1;have:=f.sb.lo.2.2.1;omega
 go_region_with (go_at_call 98;refine(b4h _ B b 14 vf F i (f.sb.fr.ext (eDr o)) (by simpa using R) E.1 E.2).mono ?_;rintro e J ⟨rfl,v3,L3,H,G,L,D⟩;have p:=uU D;have R3:=kG H (kG G L);clear H G L D)
 all_goals
  have G3:=(f.ext (eDr o)).freed R3.1 p (show Nf1 b J from⟨kF f.sb.nb.1 (by have:=p.size;simpa using this),λj=>(p.hfr j).trans ((f.sb.nb.ext (eDr o)).2 j)⟩);go_wp21;go_end0;exact⟨rfl,(show Gave B w J b { x with A:=x.A.set i Cl0 } ar kr v4 v8 br cB cO bn pb kn hd vf F vk K i by
   obtain⟨l,g⟩:=G3;refine⟨⟨_,_,v3,L3,l,g,R3.2.1,R3.2.2⟩,λq t A M h3=>?_⟩;have v:q<o.heap.size:=kF t I.size;exact(p.block q (by simpa using v) A h3).trans (I.block q t M)),(p.ext C.drew (by have:=f.sb.lo.1;omega) (λk Q=>by have:=(f.sb.fr.own.lt k Q).1;omega))⟩
theorem c9a:(prog.info? 97).map (λi=>(i.zero,i.size,i.bytes))=some (some (.pointer none),1,8):=by kernel_rfl
theorem SAt.white[qr](h:SAt B w b x ar kr v4 v8 br cB cO bn pb pa pk kn hd vf F vk K role)(i:Nat)(a:i<x.A.length):SAt B (w.setCell (aA (cB i) (cO i+5)) (iv 0)) b { x with A:=x.A.set i (tC (x.c i)) } ar kr v4 v8 br cB cO bn pb pa pk kn hd vf F vk K role:=by
 refine h.setc a rfl (uZ.setCell (S:=λq=>q=cB i) (uZ.refl _ w) (p:=(aA (cB i) (cO i+5))) rfl _) ?_ (λk n=>uC _ (.inr (by omega))) ((h.rw.nc i a).1.set _ _);obtain⟨f,g,j,d,m,e,l⟩:=h.rw.s i a;refine⟨?_,?_,?_,?_,?_,kM _ _ _ e,?_⟩;all_goals
  rw[uC _ (.inr (by omega))];assumption
theorem c5d[qr](h:SAt B w b x ar kr v4 v8 br cB cO bn pb pa pk kn hd vf F vk K role)(n8:x.A.length<=8000)(hp:x.E=3)(i:Nat)(U:x.I=(i:Int))(f:i<x.A.length)(hs:((x.c i).st == 1)=true)(hc:((x.c i).J == 0)=false)(hK:K.length<=8000)(a:World)(ha:a.heap.size<=B)(hx:Ext a w):
  Calls prog 275 #[.agg #[pP b]] w λe w'=>e=.returned (yY (dD x).E b)/\Hid (∃vk' role',SAt B w' b (dD x) ar kr v4 v8 br cB cO bn pb pa pk kn hd vf F vk' (K++[i]) role')/\Ext a w':=by
 have ei:x.I.toNat=i:=by omega
 have E:=uU (show dD x={ x with A:=x.A.set i (tC (x.c i)),I:=(i:Int)+1 } by
  unfold dD;rw[if_neg (by omega),ei,if_neg (by simp[whB,hc]),U])
 have EP:=uU (show(dD x).E=3 by rw[uH E];exact hp);have H:=uU h;obtain⟨i0,ae,ab,aa,ac⟩:=info_parts c9a;have T:=(hO w).alloc (.cells #[pP b] 212);have S:=h.sb.bx.2.2.2.2.2.2.1;rw[U]at S;have QA:=uU (a0w b x.A.length kn bn i _ (T.keep S) (T.keep h.sb.n13) f);have N:=uU T;have ak:b<w.heap.size:=h.sb.nb.1;have lo:=h.sb.lo.1;have hn:0<x.A.length:=by omega
 have HI:=uU U;have WH:=uU (show whB (x.c i)=false by simp[whB,hc]);have O:=uU (h.rw.nc i f);clear h hp T U S ei hc;go_in;go_wp21;refine QA.mono ?_;rintro e w1 ⟨rfl,x1⟩;have r0:w1.cell? (aA w.heap.size 0)=some (pP b):=x1.keep (by simp[go_sem]);have X1:=uU (N.trans x1);have D:=uU (H.ext X1);have m1:=(D.sb.nd i f).2;have p0:=(D.rw.s i f).1;have p5:=(D.rw.s i f).2.2.2.2.2.1;have fc:=(D.rw.nc i f).1.2 (cO i+5);have QS:=uU (a5s (x.c i) bn i (cB i) (cO i) w1 m1 (D.rw.s i f));rw[uH WH]at QS;clear x1 N QA;go_wp21;refine QS.mono ?_;rintro e w2 ⟨rfl,ah⟩;subst ah;have t:=uU (D.white i f);obtain⟨l,n⟩:∃W,W=w2.setCell (aA (cB i) (cO i+5)) (iv 0):=⟨_,rfl⟩;rw[<-n]at t;have X2:=uU (show Ext a l by rw[n];exact(hx.trans X1).sc (cB i) (cO i+5) (kA ha O.2) _);have s0:l.cell? (aA w.heap.size 0)=some (pP b):=by
  rw[n,uC _ (.inl (by have:=O.1.1;omega))];exact r0
 have P:=t.sb.k0;have J:=cLt s0;have M:=cLt P;have L:cB i<w2.heap.size:=uQ p5;obtain⟨r,m,ad⟩:∃a k,vk=.slice a K.length k:=⟨_,_,(a0d t.sb.kp).1⟩;subst ad;have Y:=t.sb.nb.2 4017;have hB:B<=l.heap.size:=by have:=t.sb.lo.1;omega
 have I:=uU t.sb.kp;have al:¬w.heap.size=b:=by omega
 have af:¬b=w.heap.size:=by omega
 go_wp21;rw[<-n];have NK:=uU (show ∀q,(Value.slice r K.length m).ownBlock=some q->q<w.heap.size from λq A=>(H.sb.kp.lt q A).2);have ag:=uU (show ∀q,(Value.slice r K.length m).ownBlock=some q->q≠b from λq A e=>by have h1:=t.sp.k q A;have h2:=t.sp.b;rw[e]at h1;omega);clear n m1 p0 p5 fc r0 L;have X:=uU (show ∀o,(l.drew.alloc o).ownsRow B 97 1 (.slice r K.length m) K.length (K.map (ndp bn))/\((l.alloc o).drew).ownsRow B 97 1 (.slice r K.length m) K.length (K.map (ndp bn)) from λo=>⟨uN I (λq A=>((eDr l).alloc o).block q (I.lt q A).2),uN I (λq A=>(eAl l o).drew.block q (I.lt q A).2)⟩);go_region_law (refine step_append_lies _ rfl _ _ 101 rfl B 97 i0 (.pointer none) 1 8 underlying101 ae ab aa ac rfl (by decide) (.slice r K.length m) K.length (K.map (ndp bn)) (by first|rfl|simp[Act.eval,Act.put]) (by first|exact(X _).1|exact(X _).2|exact I.alloc _) _ 1 1 [ndp bn i] (by first|rfl|simp[Act.eval,Act.put];rfl) rfl (by intro j u Q;match j,Q with|0,Q=>simp at Q;subst Q;simp[Addr.add,go_sem]) (by intro u hu;simp at hu;subst hu;rfl) (by decide) (by unfold maxLen;omega) (by omega) (by simp;omega) _ rfl ?_;intro g y C v d G ai;have z:=kI (eAl l (.cells #[ndp bn i] 97)) ((hO (l.alloc (.cells #[ndp bn i] 97))).drew);have R:=uU ((t.ext z).push d v (by simpa using G));have Z:C.heap[b]?=l.heap[b]?:=(d.block b (kF M z.size) (λe=>uH ag b e.symm rfl)).trans (z.block b M);have es:C.heap[w.heap.size]?=l.heap[w.heap.size]?:=(d.block w.heap.size (kF J z.size) (λe=>Nat.lt_irrefl _ (NK _ e.symm))).trans (z.block w.heap.size J);have t0:=(cOb w.heap.size 0 es).trans s0;have V:=(cOb b 4017 Z).trans P;have aj:=(fOb b 4017 Z).trans Y;have an:=cLt V;have am:=cLt t0;have X5:=uU (show Ext a (C.setCell (aA b 4017) (sS g (K.length+1) y)) from(a4r (X2.trans z) ((X _).2) ha d).sc b 4017 (kA ha lo) _);clear v d G z Z es);all_goals
  have S:(C.setCell (aA b 4017) (sS g (K.length+1) y)).cell? (aA b 6)=some (iv i):=by have:=R.sb.bx.2.2.2.2.2.2.1;exact this.trans (by rw[uH HI])
  have f6:=R.sb.nb.2 6;have t1:(C.setCell (aA b 4017) (sS g (K.length+1) y)).cell? (aA w.heap.size 0)=some (pP b):=by rw[uC _ (.inl af)];exact t0
  have FN:=uU (R.I ((i:Int)+1));have XN:=uU (X5.sc b 6 (show a.heap.size<=b by omega) (iv ((i:Int)+1)));go_wp21;go_ret;exact⟨by rw[uH EP];rfl,by rw[uH E];exact⟨_,_,FN⟩,XN⟩
theorem d2y[qr](h:SAt B w b x ar kr v4 v8 br cB cO bn pb pa pk kn hd vf F vk K role)(m:x.E=6)(d:x.I=0)(o:0<=x.Q/\x.Q<=1000000000)(a:World)(p:a.heap.size<=B)(n:Ext a w):
  Calls prog 280 #[.agg #[pP b]] w λe w'=>e=.returned (yY (dX x).E b)/\Hid (SAt B w' b (dX x) ar kr v4 v8 br cB cO bn pb pa pk kn hd vf F vk K role)/\Ext a w':=by
 have E:=uU (show dX x={ dC x 0 0 with Q:=if x.Q<1000000000 then x.Q+1 else x.Q } by unfold dX;rw[if_pos d];rfl);have H:=uU h;have k:=uU m;have g:=uU o;have i:=h.sb.bx.2.2.2.2.2.2.1;rw[d]at i;have j:b<w.heap.size:=h.sb.nb.1;have c:=uU (eAl w (.cells #[pP b] 215));go_in;go_wp21;refine(turn_6 (H.ext c) k g a p (n.trans c)).mono ?_;rintro e q ⟨rfl,f,l⟩;go_wp2;go_ret;exact⟨by rw[uH E];rfl,by rw[uH E];exact uH f,l⟩
theorem c9b[qr](h:SAt B w b x ar kr v4 v8 br cB cO bn pb pa pk kn hd vf F vk K role)(n8:x.A.length<=8000)(hp:x.E=6)(i:Nat)(hi:x.I=(i:Int)+1)(f:i<x.A.length)(hk:x.A.length<=kn)(ho:Ho F)(hl:F.length<=1000000000)(a:World)(ha:a.heap.size<=B)(hx:Ext a w):
  Calls prog 280 #[.agg #[pP b]] w λe w'=>e=.returned (yY (dX x).E b)/\Hid (∃pa' pk' vf' F' role',SAt B w' b (dX x) ar kr v4 v8 br cB cO bn pb pa' pk' kn hd vf' F' vk K role'/\Ho F'/\(((x.c i).st=2/\F'.Perm ((i:Int)::F))\/((x.c i).st≠2/\F'=F)))/\Ext a w':=by
 have N:=uU (show dX x=tZ (dV x i) i by unfold dX;rw[if_neg (by omega),show(x.I-1).toNat=i by omega]);have r:=uU (show(dX x).E=6 by rw[uH N];unfold tZ;split <;> (unfold dV;exact hp));have ab:b<w.heap.size:=h.sb.nb.1;have lo:=h.sb.lo.1;have H:=uU h;have XA:=(hO w).alloc (.cells #[pP b] 215);have c6:=h.sb.bx.2.2.2.2.2.2.1;rw[hi]at c6;have f6:=h.sb.nb.2 6;have aa:((i:Int)+1 == 0)=false:=by simp;omega
 have V:=uU (h.rw.nc i f);have L:=uU (show ∀q,vf.ownBlock=some q->q<w.heap.size from λq hq=>(h.sb.fr.own.lt q hq).2);have u:=uU (kG ho hl);have S:¬w.heap.size=b:=by omega
 go_in;go_wp21;obtain⟨Q,l⟩:∃W,W=(w.setCell (aA b 6) (iv i)).alloc (.cells #[pP b] 215):=⟨_,rfl⟩;have P:=uU (show SAt B Q b { x with I:=(i:Int) } ar kr v4 v8 br cB cO bn pb pa pk kn hd vf F vk K role by rw[l];exact(H.I (i:Int)).ext (eAl _ _));have X1:=uU (show Ext a Q by rw[l];exact(hx.sc b 6 (show a.heap.size<=b by omega) _).alloc _);have r1:Q.cell? (aA w.heap.size 0)=some (pP b):=by
  rw[l];have:w.heap.size=(w.setCell (aA b 6) (iv i)).heap.size:=by simp[World.setCell]
  rw[this];simp[go_sem]
 rw[<-l];refine(a0w b x.A.length kn bn i _ P.sb.bx.2.2.2.2.2.2.1 P.sb.n13 f).mono ?_;rintro e D ⟨rfl,O⟩;have o:=uU (P.ext O);have C:=uU (X1.trans O);have Z:=O.keep r1;obtain⟨m0,m1⟩:=o.sb.nd i f;have p0:D.cell? (aA (cB i) (cO i))=some (iv (x.c i).st):=(o.rw.s i f).1;have R:=cLt Z;cases E:((x.c i).st == 2)
 ·have y:=uU (show dX x=tZ { x with I:=(i:Int) } i by rw[uH N];unfold dV;rw[if_neg (by simpa using E)]);have NS:=uU (show(x.c i).st≠2 by simpa using E);have J:D.cell? (aA b 13)=some (sS bn x.A.length kn):=o.sb.n13;go_wp21;by_cases d:i+1=x.A.length
  ·cases M:((x.c i).st == 0)
   ·skip;have j:=uU (show dX x={ x with A:=x.A,I:=(i:Int) } by rw[uH y];unfold tZ;rw[if_neg (λe=>by have:=e.2;simp at M;exact M this)]);have G:((i:Int) == (x.A.length:Int)-1)=true:=by simp;omega
    go_quiet (fail);go_wp2;go_ret;exact⟨by rw[uH r];rfl,by rw[uH j];exact⟨_,_,_,_,_,o.ext ((hO _).drewN _),u.1,kz ⟨NS,rfl⟩⟩,C.drewN _⟩
   skip;have j:=uU (show dX x={ x with A:=(x.A).take i,I:=(i:Int) } by rw[uH y];unfold tZ;rw[if_pos ⟨by simpa using d,(show(x.c i).st=0 by simpa using M)⟩]);have G:((i:Int) == (x.A.length:Int)-1)=true:=by simp;omega
   have k1:(i:Int)<=(kn:Int):=by omega
   have k0:=i0N i;have T:=o.sb.nb.2 13;have n:=uU (show ∀k,Ext D k->SAt B (k.setCell (aA b 13) (sS bn i kn)) b { x with A:=(x.A).take i,I:=(i:Int) } ar kr v4 v8 br cB cO bn pb pa pk kn hd vf F vk K role/\Ext a (k.setCell (aA b 13) (sS bn i kn)) from λk z=>⟨(o.ext z).drop i (by simpa using d),(C.trans z).sc b 13 (show a.heap.size<=b by omega) _⟩);go_quiet (fail);obtain⟨d1,I⟩:∃m,m=nq:=⟨_,rfl⟩;go_wp21;go_region;all_goals
    go_wp2;go_ret;first|exact⟨by rw[uH r];rfl,by rw[uH j];exact⟨_,_,_,_,_,((n _ ((hO _).drewN _)).1).ext (eDr _),u.1,kz ⟨NS,rfl⟩⟩,((n _ ((hO _).drewN _)).2).drew⟩|exact⟨by rw[uH r];rfl,by rw[uH j];exact⟨_,_,_,_,_,(n _ ((hO _).drewN _)).1,u.1,kz ⟨NS,rfl⟩⟩,(n _ ((hO _).drewN _)).2⟩
  skip;have j:=uU (show dX x={ x with A:=x.A,I:=(i:Int) } by rw[uH y];unfold tZ;rw[if_neg (λe=>d (by simpa using e.1))]);have G:((i:Int) == (x.A.length:Int)-1)=false:=by simp;omega
  go_quiet (fail);go_wp2;go_ret;exact⟨by rw[uH r];rfl,by rw[uH j];exact⟨_,_,_,_,_,o.ext ((hO _).drewN _),u.1,kz ⟨NS,rfl⟩⟩,C.drewN _⟩
 have y:=uU (show dX x=tZ { x with A:=x.A.set i Cl0,I:=(i:Int) } i by rw[uH N];unfold dV;rw[if_pos (by simpa using E)]);have NS:=uU (show(x.c i).st=2 by simpa using E);go_wp21;refine(b0k o i f u.1 u.2 a ha C).mono ?_;rintro e A ⟨rfl,g3,x3⟩;obtain⟨pa',pk',vf',F',role',h3,U,X⟩:=g3.1;have r3:A.cell? (aA w.heap.size 0)=some (pP b):=(cOb w.heap.size 0 (g3.2 w.heap.size R S (by have:=V.1.1;omega) (λe=>Nat.lt_irrefl _ (L _ e)))).trans Z;have v:=uU (show SAt B A b { x with A:=x.A.set i Cl0,I:=(i:Int) } ar kr v4 v8 br cB cO bn pb pa' pk' kn hd vf' F' vk K role' from h3);have Y:=uU x3;have g:=uU (kG U X);have t:(x.A.set i Cl0).length=x.A.length:=by simp
 obtain⟨m0,m1⟩:=v.sb.nd i (by rw[t];exact f);have p0:A.cell? (aA (cB i) (cO i))=some (iv 0):=by
  have:=(v.rw.s i (by rw[t];exact f)).1;exact this.trans (by simp[Hp.c,f];rfl)
 have J:A.cell? (aA b 13)=some (sS bn x.A.length kn):=by have:=v.sb.n13;rw[t]at this;exact this
 go_wp21;by_cases d:i+1=x.A.length
 ·skip;have j:=uU (show dX x={ x with A:=(x.A.set i Cl0).take i,I:=(i:Int) } by rw[uH y];unfold tZ;rw[if_pos ⟨by simpa using d,by simp[Hp.c,f];rfl⟩]);have G:((i:Int) == (x.A.length:Int)-1)=true:=by simp;omega
  have k1:(i:Int)<=(kn:Int):=by omega
  have k0:=i0N i;have T:=v.sb.nb.2 13;have n:=uU (show ∀k,Ext A k->SAt B (k.setCell (aA b 13) (sS bn i kn)) b { x with A:=(x.A.set i Cl0).take i,I:=(i:Int) } ar kr v4 v8 br cB cO bn pb pa' pk' kn hd vf' F' vk K role'/\Ext a (k.setCell (aA b 13) (sS bn i kn)) from λk z=>⟨(v.ext z).drop i (by simpa using d),(Y.trans z).sc b 13 (show a.heap.size<=b by omega) _⟩);go_quiet (fail);obtain⟨d1,I⟩:∃m,m=nq:=⟨_,rfl⟩;go_wp21;go_region;all_goals
   go_wp2;go_ret;first|exact⟨by rw[uH r];rfl,by rw[uH j];exact⟨_,_,_,_,_,((n _ ((hO _).drewN _)).1).ext (eDr _),g.1,kj ⟨NS,g.2⟩⟩,((n _ ((hO _).drewN _)).2).drew⟩|exact⟨by rw[uH r];rfl,by rw[uH j];exact⟨_,_,_,_,_,(n _ ((hO _).drewN _)).1,g.1,kj ⟨NS,g.2⟩⟩,(n _ ((hO _).drewN _)).2⟩
 skip;have j:=uU (show dX x={ x with A:=x.A.set i Cl0,I:=(i:Int) } by rw[uH y];unfold tZ;rw[if_neg (λe=>d (by simpa using e.1))]);have G:((i:Int) == (x.A.length:Int)-1)=false:=by simp;omega
 go_quiet (fail);go_wp2;go_ret;exact⟨by rw[uH r];rfl,by rw[uH j];exact⟨_,_,_,_,_,v.ext ((hO _).drewN _),g.1,kj ⟨NS,g.2⟩⟩,Y.drewN _⟩
def yW(cB cO:Nat->Nat)(n:Nat):List Value:=(List.range (n*2)).map (λj=>if j % 2=0 then iv (j / 2:Nat) else .pointer (some ⟨cB (j / 2),cO (j / 2),none⟩))
theorem c2e(a b:Nat->Nat)(n j:Nat)(h:j<n*2):(yW a b n)[j]?=some (if j % 2=0 then iv (j / 2:Nat) else pQ (a (j / 2)) (b (j / 2))):=by
 unfold yW;rw[nO,List.getElem?_range h];rfl
theorem SAt.regrow[qr](h:SAt B w b x ar kr v4 v8 br cB cO bn pb pa pk kn hd vf F vk [] role)(K:x.D=[])(N:B<=w.heap.size)(k:Nat)(m:Array Value)(T:TypeId)(O:x.A.length<=k/\m.size=(k-x.A.length)*2):
  SAt B ((w.drew.alloc (.cells ((yW cB cO x.A.length).toArray++m) T)).setCell (aA b 13) (sS w.heap.size x.A.length k)) b x ar kr v4 v8 br cB cO w.heap.size pb pa pk k hd vf F vk [] (λq=>if q=w.heap.size then 1 else role q):=by
 have C:=h.sb.nb.1;have J:b≠w.heap.size:=by omega
 have l:∀q,q<w.heap.size->(w.drew.alloc (.cells ((yW cB cO x.A.length).toArray++m) T)).heap[q]?=w.heap[q]?:=λq d=>mF w.drew _ q d
 have n:∀q,q<w.heap.size->q≠b->((w.drew.alloc (.cells ((yW cB cO x.A.length).toArray++m) T)).setCell (aA b 13) (sS w.heap.size x.A.length k)).heap[q]?=w.heap[q]?:=λq d M=>(kP _ _ _ _ M).trans (l q d)
 have u:∀o,o≠13->((w.drew.alloc (.cells ((yW cB cO x.A.length).toArray++m) T)).setCell (aA b 13) (sS w.heap.size x.A.length k)).cell? (aA b o)=w.cell? (aA b o):=λo H=>(uC _ (.inr (λe=>H e.symm))).trans (cOb b o (l b C))
 have L:w.heap.size+1=((w.drew.alloc (.cells ((yW cB cO x.A.length).toArray++m) T)).setCell (aA b 13) (sS w.heap.size x.A.length k)).heap.size:=by simp[World.setCell]
 have s:((w.drew.alloc (.cells ((yW cB cO x.A.length).toArray++m) T)).setCell (aA b 13) (sS w.heap.size x.A.length k)).heap[w.heap.size]?=some (.cells ((yW cB cO x.A.length).toArray++m) T):=(kP _ _ _ _ (λe=>J e.symm)).trans (heap_alloc_new w.drew _);have G:∀j,j<x.A.length*2->((w.drew.alloc (.cells ((yW cB cO x.A.length).toArray++m) T)).setCell (aA b 13) (sS w.heap.size x.A.length k)).cell? (aA w.heap.size j)=some (if j % 2=0 then iv (j / 2:Nat) else pQ (cB (j / 2)) (cO (j / 2))):=λj A=>by
  rw[cell_of_row _ w.heap.size j _ _ (0,0) s,<-c2e cB cO x.A.length j A];have g:j<(yW cB cO x.A.length).toArray.size:=by simp[yW];exact A
  rw[Array.getElem?_append_left g];simp
 have t:∀q,role q≠0->q≠b:=λq d e=>d (e▸h.sp.b)
 have z:Nf1 b ((w.drew.alloc (.cells ((yW cB cO x.A.length).toArray++m) T)).setCell (aA b 13) (sS w.heap.size x.A.length k)):=(uY h.sb.nb (l b C) (by simp)).set _ _;have E:(w.drew.alloc (.cells ((yW cB cO x.A.length).toArray++m) T)).cell? (aA b 13)=some (sS bn x.A.length kn):=(cOb b 13 (l b C)).trans h.sb.n13;refine⟨⟨h.sb.bx.of λo H=>u o (by omega),h.sb.ha,kM _ _ _ E,λi I=>⟨?_,?_⟩,⟨(u 14 (by omega)).trans h.sb.fr.hd,z.2 14,uN h.sb.fr.own (λq d=>n q (h.sb.fr.own.lt q d).2 (t q (by rw[h.sp.f q d];omega))),h.sb.fr.apart⟩,?_,(u 4017 (by omega)).trans h.sb.k0,?_,z,⟨h.sb.lo.1,N,by omega,?_⟩⟩,h.rw.same (by omega) (λg=>n br (h.rw.nr g).1.1 (t br (by rw[h.sp.r g];omega))) (λq d=>n (cB q) (h.rw.nc q d).1.1 (t (cB q) (by rw[h.sp.c q d];omega))) (λq d g=>n (pb q) (h.rw.pl q d g).2.1.1 (t (pb q) (by rw[h.sp.p q d g];omega))),?_,h.pr.of (λq d D=>n q d (t q (by rw[D];omega))) (λq d D=>by(try dsimp only);rw[if_neg (by omega)];exact D)⟩;have:=G (i*2) (by omega);rw[if_pos (by omega),show i*2 / 2=i by omega]at this;exact this;have:=G (i*2+1) (by omega);rw[if_neg (by omega),show(i*2+1) / 2=i by omega]at this;exact this;have r:=h.sb.rg;rw[K]at r;rw[K];exact⟨r.h0,r.hl,(u 4015 (by omega)).trans r.r0,(u 4016 (by omega)).trans r.r1,λi I=>by simp at I,λj A=>let ⟨v,q⟩:=r.ro j A;⟨v,(u _ (by omega)).trans q⟩⟩;have:=h.sb.kp;exact uN (by simpa using this) (λq d=>n q (h.sb.kp.lt q d).2 (t q (by rw[h.sp.k q d];omega)));intro j A;have g:j<((yW cB cO x.A.length).toArray++m).size:=by simp[yW];omega
 refine⟨⟨((yW cB cO x.A.length).toArray++m)[j],?_⟩,?_⟩;rw[cell_of_row _ w.heap.size j _ _ (0,0) s];exact nL g;rw[ki];simp[go_sem];have y:∀q,q<w.heap.size->¬q=w.heap.size:=λq d=>by omega
 refine⟨?_,if_pos rfl,λg=>?_,λq d=>?_,λq d=>?_,λq d=>?_,λq d g=>?_⟩;rw[if_neg J];exact h.sp.b;rw[if_neg (y br (h.rw.nr g).1.1)];exact h.sp.r g;rw[if_neg (y (cB q) (h.rw.nc q d).1.1)];exact h.sp.c q d;rw[if_neg (y q (h.sb.fr.own.lt q d).2)];exact h.sp.f q d;rw[if_neg (y q (h.sb.kp.lt q d).2)];exact h.sp.k q d;rw[if_neg (y (pb q) (h.rw.pl q d g).2.1.1)];exact h.sp.p q d g
theorem d3w[qr](h:SAt B w b x ar kr v4 v8 br cB cO bn pb pa pk x.A.length hd vf F vk [] role)(r:x.D=[])(p:B<=w.heap.size)(m:Nat)(q:x.A.length+m<=8000):
  Calls prog 51 #[sS bn x.A.length x.A.length,iv m] w λe w'=>∃bn' kn',e=.returned (sS bn' x.A.length kn')/\Hid (∃role',SAt B (w'.setCell (aA b 13) (sS bn' x.A.length kn')) b x ar kr v4 v8 br cB cO bn' pb pa pk kn' hd vf F vk [] role')/\Hid (w'.cell? (aA b 13)=some (sS bn x.A.length x.A.length)/\w'.frozen? (aA b 13)=false/\Ext w w'/\x.A.length+m<=kn'):=by
 obtain e|e:=mN m;refine(c9k (some (aA bn 0)) x.A.length m w e).mono ?_;rintro e w' ⟨rfl,rfl⟩;refine⟨bn,x.A.length,rfl,⟨role,?_⟩,h.sb.n13,h.sb.nb.2 13,hO _,by omega⟩;rw[d3t h.sb.n13];exact h;refine(d3v bn x.A.length m (yW cB cO x.A.length) w q e (by simp[yW]) (λj v a=>?_)).mono ?_
 ·have f:j<x.A.length*2:=by have:=(List.getElem?_eq_some_iff.1 a).1;simpa[yW]using this
  rw[c2e cB cO x.A.length j f]at a;rw[<-a];have⟨n,l⟩:=h.sb.nd (j / 2) (by omega);by_cases i:j % 2=0;rw[if_pos i];rw[show j / 2*2=j by omega]at n;exact n;rw[if_neg i];rw[show j / 2*2+1=j by omega]at l;exact l
 rintro e w' ⟨k,g,rfl,o,c,rfl⟩;have d:Ext w (w.drew.alloc (.cells ((yW cB cO x.A.length).toArray++g) 107)):=(eDr w).alloc _;exact⟨w.heap.size,k,rfl,⟨_,h.regrow r p k g _ ⟨by omega,c⟩⟩,d.keep h.sb.n13,((cE d).2 b 13 h.sb.nb.1).trans (h.sb.nb.2 13),d,o⟩
theorem b3e:∃et,prog.underlying 129=some (.map 97 et)/\∀w,(zeroValue et).run prog w=.ok (.agg #[]) w:=⟨_,underlying129,λ_=>by kernel_rfl⟩
theorem a7r:prog.underlying 97=some (.pointer 107):=underlying97
theorem b2g:(prog.info? 97).map (λi=>(i.zero,i.size,i.bytes))=some (some (.pointer none),1,8):=by kernel_rfl
theorem a8c(r d p:Nat)(Q:List Nat)(w:World)(h:tV w r d Q):
  Calls prog 80 #[.map (some r),ptr d p] w λe w'=>e=.returned (.bool (decide (p∈Q)))/\Ext w w':=by
 have⟨l,j,g⟩:=b3e;have⟨m,f,_,b,_⟩:=info_parts a5a;have c:=h.lookup j a7r f (by rw[b];omega) g p;have⟨i,k⟩:∃a,decide (p∈Q)=a:=⟨_,rfl⟩;rw[k]at c ⊢;go_in;go_wp2;go_ret;exact⟨rfl,(hO w).alloc _⟩
structure eV(w:World)(base bw bv r1 bn on n:Nat)(v:Value)(Mt St:List Nat):Prop where
 c0:w.cell? ⟨bw,0,none⟩=some (.pointer (some ⟨bv,0,none⟩))
 c1:w.cell? ⟨bw,1,none⟩=some (.map (some r1))
 c2:w.cell? ⟨bw,2,none⟩=some v
 f2:w.frozen? ⟨bw,2,none⟩=false
 m:tV w r1 bn (Mt.map (λi=>on+i*2))
 s:w.ownsRow base 97 1 v St.length (St.map (λi=>ptr bn (on+i*2)))
 a1:v.ownBlock≠some bw
 a2:v.ownBlock≠some r1
 a3:bw≠r1
 b1:base<=bw
 b2:base<=r1
 sub:∀i,i∈St->i∈Mt
 nd:Mt.Nodup
 nds:St.Nodup
 rg:∀i,i∈Mt->i<n
structure KFr(bw r1:Nat)(v v':Value)(w w':World):Prop where
 os:w'.os=w.os
 tape:w'.tape=w.tape
 output:w'.output=w.output
 size:w.heap.size<=w'.heap.size
 block:∀k:Nat,k<w.heap.size->k≠bw->k≠r1->v.ownBlock≠some k->w'.heap[k]?=w.heap[k]?
 own:v'.ownBlock=v.ownBlock\/∃g,v'.ownBlock=some g/\w.heap.size<=g
 keep:∀o u,o≠2->w.cell? ⟨bw,o,none⟩=some u->w'.cell? ⟨bw,o,none⟩=some u
theorem KFr.of_ext(e:Ext w w'):KFr bw r1 v v w w':=⟨e.os,e.tape,e.output,e.size,λk a _ _ _=>e.block k a,.inl rfl,λ_ _ _ h=>e.keep h⟩
theorem KFr.trans{v1 v2:Value}(h:KFr bw r1 v v1 w w1)(k:KFr bw r1 v1 v2 w1 w2):KFr bw r1 v v2 w w2:=
 ⟨k.os.trans h.os,k.tape.trans h.tape,k.output.trans h.output,kA h.size k.size,
  λi b d c j=>(k.block i (kF b h.size) d c (λe=>by
   obtain q|⟨g,q,a⟩:=h.own;grind;rw[q]at e;cases e;omega)).trans (h.block i b d c j),by
   obtain q|⟨g,q,a⟩:=k.own;obtain l|⟨g,l,a⟩:=h.own
   ·grind
   grind;exact .inr ⟨g,q,kA h.size a⟩,λo u f m=>k.keep o u f (h.keep o u f m)⟩
theorem eV.rlt(h:eV w base bw bv r1 bn on n v Mt St):bw<w.heap.size/\r1<w.heap.size:=by
 refine⟨uQ h.c0,?_⟩;have⟨b,c,a,_⟩:=h.m.m;obtain q|q:=ky r1 w.heap.size;exact q;grind
theorem eV.ext(h:eV w base bw bv r1 bn on n v Mt St)(e:Ext w w'):eV w' base bw bv r1 bn on n v Mt St:=
 ⟨e.keep h.c0,e.keep h.c1,e.keep h.c2,(e.frozen (p:=(aA bw 2)) h.rlt.1)▸h.f2,h.m.block (e.block r1 h.rlt.2),uN h.s (λk a=>e.block k (h.s.lt k a).2),h.a1,h.a2,h.a3,h.b1,h.b2,h.sub,h.nd,h.nds,h.rg⟩
theorem eV.kext{a:World}{v':Value}(h:eV w a.heap.size bw bv r1 bn on n v Mt St)(q:KFr bw r1 v v' w w')(e:Ext a w):Ext a w':=
 mV e ⟨q.os,q.tape,q.output,q.size,λk b=>q.block k (kF b e.size) (by have:=h.b1;omega) (by have:=h.b2;omega) (λf=>by have:=(h.s.lt k f).1;omega)⟩
theorem eV.len(h:eV w base bw bv r1 bn on n v Mt St):Mt.length<=n/\St.length<=n:=by
 have a:∀L:List Nat,L.Nodup->(∀i,i∈L->i<n)->L.length<=n:=λL d e=>by
  have:=qm d (λz c=>me.2 (e z c));simpa using this
 exact⟨a _ h.nd h.rg,a _ h.nds (λi b=>h.rg i (h.sub i b))⟩
theorem a5v:on+i*2∈Mt.map (λi=>on+i*2)↔i∈Mt:=by
 simp only[List.mem_map];constructor;rintro⟨j,hj,e⟩;have:j=i:=by omega
 rw[<-this];exact hj;intro h;exact⟨i,h,rfl⟩
theorem eV.add{o:Obj}(h:eV w base bw bv r1 bn on n v Mt St)(S:i<n)(I:¬i∈Mt)
  (G:tV w1 r1 bn (Mt.map (λi=>on+i*2)++[on+i*2])) (H:w1.os=w.os) (P:w1.tape=w.tape) (F:w1.output=w.output) (Q:w1.heap.size=w.heap.size) (r:∀k:Nat,k≠r1->w1.heap[k]?=w.heap[k]?)
  (s:w2.ownsRow base 97 1 (sS g (St.length+1) cap) (St.length+1) (St.map (λi=>ptr bn (on+i*2))++[ptr bn (on+i*2)])) (t:(w1.alloc o).grownBy w2 v.ownBlock) (x:v.ownBlock=some g\/g=w1.heap.size+1) :
  eV (w2.setCell (aA bw 2) (sS g (St.length+1) cap)) base bw bv r1 bn on n (sS g (St.length+1) cap) (Mt++[i]) (St++[i])/\
  KFr bw r1 v (sS g (St.length+1) cap) w (w2.setCell (aA bw 2) (sS g (St.length+1) cap))/\w2.cell? (aA bw 2)=some v/\w2.frozen? (aA bw 2)=false:=by
 have R:=h.rlt;have L:w1.heap.size+1<=w2.heap.size:=by have:=t.size;simpa using this
 have c:∀k:Nat,k<w1.heap.size->v.ownBlock≠some k->w2.heap[k]?=w1.heap[k]?:=λk y K=>(t.block k (by simp;omega) (λe=>K e.symm)).trans (mF w1 o k y)
 have m:w2.heap[bw]?=w.heap[bw]?:=(c bw (by omega) h.a1).trans (r bw h.a3);have p:g≠bw/\g≠r1:=by
  obtain e|e:=x;exact⟨λq=>h.a1 (q ▸ e),λq=>h.a2 (q ▸ e)⟩;omega
 have A:∀z E,w.cell? (aA bw z)=some E->w2.cell? (aA bw z)=some E:=λz E B=>(cOb bw z m).trans B
 have l:=A 2 _ h.c2;have f:w2.frozen? (aA bw 2)=false:=(fOb bw 2 m).trans h.f2;refine⟨⟨?_,?_,kM _ _ _ l,by rw[ki];exact f,?_,?_,λe=>p.1 (by simpa[Value.ownBlock]using e),λe=>p.2 (by simpa[Value.ownBlock]using e),h.a3,h.b1,h.b2,?_,?_,?_,?_⟩,⟨?_,?_,?_,?_,λk y N M O=>?_,?_,λo u J B=>(uC _ (.inr (λe=>J e.symm))).trans (A o u B)⟩,l,f⟩;rw[uC _ (.inr (by omega))];exact A 0 _ h.c0;rw[uC _ (.inr (by omega))];exact A 1 _ h.c1;refine tV.block (w:=w1) (by simpa using G) ?_;rw[kP _ _ _ _ (λe=>h.a3 e.symm:r1≠bw)];exact c r1 (by omega) h.a2;refine uN (by simpa using s) (λk y=>kP _ _ _ _ ?_);simp[Value.ownBlock]at y;show k≠bw;omega;intro j D;obtain q|q:=mD.1 D
 ·exact nG _ (h.sub j q)
 exact List.mem_append_right _ q;rw[ny];exact⟨h.nd,by simp,λa C b d=>by simp at d;rw[d];intro e;exact I (e ▸ C)⟩;rw[ny];exact⟨h.nds,by simp,λa C b d=>by simp at d;rw[d];intro e;exact I (e ▸ h.sub a C)⟩;intro j D;obtain q|q:=mD.1 D
 ·exact h.rg j q
 simp at q;omega;exact(t.os.trans rfl).trans H;exact(t.tape.trans rfl).trans P;exact(t.output.trans rfl).trans F;have:(w2.setCell (aA bw 2) (sS g (St.length+1) cap)).heap.size=w2.heap.size:=by simp[World.setCell]
 omega;rw[kP _ _ _ _ (N:k≠bw),c k (by omega) O];exact r k M;obtain e|e:=x
 ·exact .inl e.symm
 exact .inr ⟨g,rfl,by omega⟩
theorem c2i(bw:Nat)(w:World):
  Calls prog 139 #[pP bw,.pointer none] w λe w'=>e=.returned (.tuple #[])/\w'=w:=by
 go_in;go_wp21;try simp only[Exit.inBlock,Exit.then]
 refine bodyPost_ret (results_none rfl _ _ _) rfl ?_;exact⟨rfl,rfl⟩
theorem b0m(base bw Y r1 r b n i:Nat)(v:Value)(d o:List Nat)(w:World)(h:eV w base bw Y r1 r b n v d o)(hi:i<n)(hb:base<=w.heap.size)(ac:n<=8000):
  Calls prog 139 #[pP bw,ptr r (b+i*2)] w λe w'=>e=.returned (.tuple #[])/\∃v' Mt' St',eV w' base bw Y r1 r b n v' Mt' St'/\Hid ((i∈d/\Mt'=d/\St'=o)\/(¬i∈d/\Mt'=d++[i]/\St'=o++[i]))/\KFr bw r1 v v' w w':=by
 have⟨et,D,hz⟩:=b3e;have⟨i1,A,_,B,_⟩:=info_parts a5a;have⟨i0,N,Q,P,M⟩:=info_parts b2g;have V:=h.len.2;have I:=h.c1;have J:=h.c2;have HU:=uU D;have HN:=uU A;have HZ:=uU B;clear D hz A B;go_in;go_wp21;refine(a8c r1 r (b+i*2) _ _ h.m).mono ?_;rintro e w1 ⟨rfl,p⟩;have x:=uU (h.ext p);have d1:=p.keep I;have d2:=p.keep J;clear I J;by_cases t:i∈d
 ·have E:decide (b+i*2∈d.map (λi=>b+i*2))=true:=decide_eq_true (a5v.2 t);rw[E];clear E;have K:=uU (KFr.of_ext (bw:=bw) (r1:=r1) (v:=v) p);clear p;go_wp21;try simp only[Exit.inBlock,Exit.then]
  refine bodyPost_ret (results_none rfl _ _ _) rfl ?_;exact⟨rfl,v,d,o,x,.inl ⟨t,rfl,rfl⟩,K⟩
 have E:decide (b+i*2∈d.map (λi=>b+i*2))=false:=decide_eq_false (λf=>t (a5v.1 f));rw[E];clear E;have⟨O,aa,S,z,U,G,H,l⟩:=tV.update x.m HU a7r HN (by rw[uH HZ];omega) (b+i*2) (λf=>t (a5v.1 f));have K:=uU (KFr.of_ext (bw:=bw) (r1:=r1) (v:=v) p);have dU:O.cell? (aA bw 2)=some v:=(kT (w:=w1) (a:=(aA bw 2)) (l bw x.a3)).trans d2;have OW:=uU (show O.ownsRow base 97 1 v o.length (o.map (λi=>ptr r (b+i*2))) from uN x.s (λk hk=>l k (λe=>x.a2 (e ▸ hk))));have y:=uU (kG S (kG z (kG U (kG G (kG H l)))));have ab:base<=O.heap.size:=by have:=p.size;omega
 clear S z U G H l p;go_wp2_with (at_builtin;refine wpList_append_lies _ rfl _ _ 101 rfl base 97 i0 (.pointer none) 1 8 underlying101 N Q P M rfl (by decide) v o.length (o.map (λi=>ptr r (b+i*2))) rfl (OW.alloc _) _ 1 1 [ptr r (b+i*2)] rfl rfl ?I ?J (by decide) ?c3 ?c4 ?c5 _ rfl ?_)
 case I=>
  intro j u L;match j,L with
  | 0,L=>simp at L;subst L;simp[Addr.add]
 case J=>intro u D;simp at D;subst D;rfl
 case c3=>unfold maxLen;omega
 case c4=>omega
 case c5=>simp;omega
 intro g Z w2 q c C R;obtain⟨W,T,q3,q4⟩:=eV.add x hi t y.1 y.2.1 y.2.2.1 y.2.2.2.1 y.2.2.2.2.1 y.2.2.2.2.2 q c (by simpa using C);have F:=uU (kG W (K.trans T));clear W T q c C dU;go_wp21;go_end0;exact⟨rfl,_,d++[i],o++[i],F.1,.inr ⟨t,rfl,rfl⟩,F.2⟩
theorem c9q(base bw f r1 b d n:Nat)(v:Value)(c:List Nat)(w:World)(h:eV w base bw f r1 b d n v c []):
  Calls prog 140 #[pP bw] w λe w'=>e=.returned (.pointer none)/\w'=w:=by
 obtain⟨ad,a,rfl⟩:∃ad a,v=.slice ad 0 a:=by
  obtain⟨h1,_⟩|⟨g,a,cur,h1,_⟩:=h.s.2;exact⟨none,0,h1⟩;exact⟨_,_,h1⟩
 have i:=h.c2;go_in;go_wp2;go_ret;exact⟨rfl,rfl⟩
theorem eV.pop(h:eV w base bw bv r1 bn on n (sS g (m+1) cap) Mt (St++[j]))(b:St.length=m):
  eV (w.setCell (aA bw 2) (sS g m cap)) base bw bv r1 bn on n (sS g m cap) Mt St/\KFr bw r1 (sS g (m+1) cap) (sS g m cap) w (w.setCell (aA bw 2) (sS g m cap)):=by
 have l:g≠bw:=λe=>h.a1 (by rw[e];rfl)
 have c:=h.s;simp only[List.length_append,List.length_singleton,List.map_append,List.map_cons,List.map_nil,b]at c;refine⟨⟨?_,?_,kM _ _ _ h.c2,by rw[ki];exact h.f2,?_,?_,h.a1,h.a2,h.a3,h.b1,h.b2,λi d=>h.sub i (nG _ d),h.nd,?_,h.rg⟩,⟨rfl,rfl,rfl,by simp[World.setCell],λk _ q _ _=>kP _ _ _ _ (q:k≠bw),.inl rfl,λo u r p=>(uC _ (.inr (λe=>r e.symm))).trans p⟩⟩;rw[uC _ (.inr (by omega))];exact h.c0;rw[uC _ (.inr (by omega))];exact h.c1;exact h.m.block (kP _ _ _ _ (λe=>h.a3 e.symm:r1≠bw));rw[b];refine uN (ownsRow_pop (by simp[b]) c) (λk f=>kP _ _ _ _ ?_);simp[Value.ownBlock]at f;show k≠bw;omega;have:=h.nds;rw[ny]at this;exact this.1
theorem c9r(base bw o r1 d f n j:Nat)(v:Value)(l i:List Nat)(w:World)(h:eV w base bw o r1 d f n v l (i++[j]))(r:n<=8000):
  Calls prog 140 #[pP bw] w λe w'=>e=.returned (ptr d (f+j*2))/\∃v',eV w' base bw o r1 d f n v' l i/\KFr bw r1 v v' w w':=by
 have q:=h.len.2;have⟨m,c⟩:∃m,i.length=m:=⟨_,rfl⟩;have⟨g,a,p,y⟩:∃g a,v=sS g (m+1) a/\m+1<=a:=by
  obtain⟨_,h1⟩|⟨g,a,cur,h1,_,_,hcap,_⟩:=h.s.2;simp at h1;simp only[List.length_append,List.length_singleton,c]at h1 hcap;exact⟨g,a,h1,hcap⟩
 subst p;have k:=h.s;simp only[List.length_append,List.length_singleton,List.map_append,List.map_cons,List.map_nil,c]at k q;have x:w.cell? (aA g m)=some (ptr d (f+j*2)):=by
  have:=nR k m (by omega);rw[this,nZ (by simp[c])];simp[c]
 have z:=h.c2;have t:=h.f2;have b:=h.pop c;have A:=i0N m;have B:(m:Int)<(m:Int)+1:=by omega
 have u:(m:Int)<=(a:Int):=by omega
 go_in;go_wp2;go_ret;exact⟨rfl,_,b.1,b.2⟩
