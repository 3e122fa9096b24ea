import Derived.Test.YtddkhnclmeikfaaGreatSh4
import Derived.Test.YtddkhnclmeikfaaGreatSp1
import Derived.Test.YtddkhnclmeikfaaGreatSpecA4
import Derived.Test.YtddkhnclmeikfaaGreatRc6
import Derived.Laws.StructEq
set_option maxRecDepth 100000
set_option maxHeartbeats 4000000
namespace Go.Proofs.YtddkhnclmeikfaaGreat
open Go.RowKit Go.Proofs.Tryz
attribute [local go_sem ↓] Go.wp_at_zero Go.wp_at_succ
variable{w w':World}{c:Cl}{B n kr:Nat}{O:List Nat}{x:Hp}{v:Value}{ar:Option Addr}
theorem c0a(b d bc c:Nat)(a:Int)(w:World)(h:w.cell? (aA b (d+1))=some (pQ bc c))(i:w.cell? (aA bc (c+2))=some (iv a)):
  Calls prog 200 #[pQ b d] w λe w'=>e=.returned (.bool (a == 1 || a == 3))/\Ext w w':=by
 cases f:(a == 1)
 ·cases g:(a == 3)
  ·go_enter func200,ntmps200;go_wp2_with fail;go_ret;exact⟨rfl,Ext.refl _⟩
  ·go_enter func200,ntmps200;go_wp2_with fail;go_ret;exact⟨rfl,Ext.refl _⟩
 ·go_enter func200,ntmps200;go_wp2_with fail;go_ret;exact⟨rfl,Ext.refl _⟩
theorem b1f(b d bc c:Nat)(a:Int)(w:World)(h:w.cell? (aA b (d+1))=some (pQ bc c))(i:w.cell? (aA bc (c+2))=some (iv a)):
  Calls prog 201 #[pQ b d] w λe w'=>e=.returned (.bool (a == 2 || a == 3))/\Ext w w':=by
 cases f:(a == 2)
 ·cases g:(a == 3)
  ·go_enter func201,ntmps201;go_wp2_with fail;go_ret;exact⟨rfl,Ext.refl _⟩
  ·go_enter func201,ntmps201;go_wp2_with fail;go_ret;exact⟨rfl,Ext.refl _⟩
 ·go_enter func201,ntmps201;go_wp2_with fail;go_ret;exact⟨rfl,Ext.refl _⟩
def zp(p:Pr):Bool:=p.key.k == 0 && p.key.n == 0 && p.key.a == 0 && p.val.k == 0 && p.val.n == 0 && p.val.a == 0
theorem c6o(p:Pr)(w:World):(Op.equalIn 10000 154 (.agg #[iv p.key.k,iv p.key.n,iv p.key.a,iv p.val.k,iv p.val.n,iv p.val.a]) (.agg #[iv 0,iv 0,iv 0,iv 0,iv 0,iv 0])).run prog w=.ok (zp p) w:=by
 rw[run_equalIn_struct w 9999 _ _ _ (by kernel_rfl) (by kernel_rfl)];simp [go_sem,zp]
 repeat' split
 all_goals simp_all
theorem d3a(p:Pr)(w:World):(binOp .eql 154 (.agg #[iv p.key.k,iv p.key.n,iv p.key.a,iv p.val.k,iv p.val.n,iv p.val.a]) (.agg #[iv 0,iv 0,iv 0,iv 0,iv 0,iv 0])).run prog w=.ok (.bool (zp p)) w:=by
 rw[run_eql_struct,c6o];rfl
theorem sk_of(h:(c.T == 1 || c.T == 3)=false):SK c:=by simp at h;exact h
theorem sk_not(h:(c.T == 1 || c.T == 3)=true):¬SK c:=λk=>by simp at h;unfold SK at k;omega
theorem sv_of(h:(c.T == 2 || c.T == 3)=false):SV c:=by simp at h;exact h
theorem d3b(h:(c.T == 2 || c.T == 3)=true):¬SV c:=λk=>by simp at h;unfold SV at k;omega
theorem zp_cls{M S:List Nat}{g:Nat->List (Option Nat)}{j l:Nat}(h:zp ((x.c j).p l)=true)(C:tW x M S g none j l):tW x M S g none j (l+1):=by grind [zp,Hp.c,Cl.p,tW,a1i.at,a6s.at]
theorem d3c(x:Hp)(a:World)(b bw r1 r2 r t j:Nat)(v:Value)(f:Nat->Value)(g:Nat->List (Option Nat))(O St:List Nat)(w:World){ar:Option Addr}{kr:Nat}{ac:Nat->Option Addr}{kn:Nat}(hv:VNt a b x ar kr ac (some (aA r t)) kn)(q2:R2 x)(q4:R4 x)(ak:(x.c j).F.length<=200)(h:dV w a.heap.size bw b r1 r t x.A.length v O St)(ht:zY w a.heap.size bw r1 r2 r t v f g)(hI:tV x O St g none (some j))(hj:j∈O)(hx:Ext a w)(af:x.A.length<=8000)(hg:∀k,(g k).length<=9000000):
  Calls prog 125 #[pP bw,ptr r (t+j*2)] w λe w'=>e=.returned (.tuple #[])/\∃v' Mt' St' f' g',dV w' a.heap.size bw b r1 r t x.A.length v' Mt' St'/\zY w' a.heap.size bw r1 r2 r t v' f' g'/\Hid (tV x Mt' St' g' none none/\zE (λ_=>True) O Mt' St St'/\∀k,(g' k).length<=(g k).length+200)/\Hid (Ext a w'):=by
 have ag:j<x.A.length:=h.rg j hj;have HJ:=uU (hI.only j hj);have GD:=uU ((hI.only j hj).good q2 q4);obtain⟨bc,oc,ap,kp,e1,C⟩:=hv.H.cell j ag;obtain⟨av,al,aq,an,e2,e3,m0,ae⟩:=hv.N j ag;rw[e1] at e3;cases e2;cases e3;have p7:=hx.keep C.p7;have m1:=hx.keep ae;have M1:=uU ae;have P2:=uU C.p2;have lp:=C.lp;have HP:=uU C.P;have HV:=uU hv;have U:=uU h;have HT:=uU ht;have HI:=uU hI;have Q2:=uU q2;have Q4:=uU q4;clear C m0 ae h ht hI e1 hv q2 q4;go_enter func125,ntmps125;go_wp2_with fail;go_loopw [15] (λi wr=>∃(l:Nat) (u:Value) (M S:List Nat) (f':Nat->Value) (g':Nat->List (Option Nat)),l<=(x.c j).F.length/\i=iv l/\dV wr a.heap.size bw b r1 r t x.A.length u M S/\zY wr a.heap.size bw r1 r2 r t u f' g'/\Hid (tV x M S g' none (some j)/\tW x M S g' none j l/\zE (λ_=>True) O M St S/\∀k,(g' k).length<=(g k).length+l)/\Ext a wr) (λi _=>(x.c j).F.length-(intOf i).toNat)
 case atStart=>exact⟨0,v,O,St,f,g,Nat.zero_le _,rfl,U,HT,⟨HI,(λp _ h=>by omega),zE.refl,λk=>by omega⟩,hx⟩
 case round=>
  clear U HT HI p7 m1 hx;clear f v;obtain⟨l,u,M,S,f,g',hl,rfl,hw,ab,d,y⟩:=hrel;have U:=uU hw;have HT:=uU ab;have c0:=hw.c0;have ao:bw<wr.heap.size:=hw.rlt.1;by_cases J:l<(x.c j).F.length
  ·obtain⟨b2,o2,rfl,q0,q1,q2,q3,q4,q5⟩:=uH HP l J;have e0:=y.keep q0;have e1:=y.keep q1;have e2:=y.keep q2;have e3:=y.keep q3;have e4:=y.keep q4;have e5:=y.keep q5;have am:b2<wr.heap.size:=uL e0;clear q0 q1 q2 q3 q4 q5 hw ab;have au:(0:Int)<=(l:Int):=by omega
   have aw:(l:Int)<((x.c j).F.length:Int):=by omega
   have xa:=(Ext.refl wr).alloc (.cells #[iv ((x.c j).p l).key.k,iv ((x.c j).p l).key.n,iv ((x.c j).p l).key.a,iv ((x.c j).p l).val.k,iv ((x.c j).p l).val.n,iv ((x.c j).p l).val.a] 154);have Z:=uU (a0j Q2 Q4 j l GD J);have PE:=λw=>c6o ((x.c j).p l) w
   have ad:=λw=>d3a ((x.c j).p l) w
   cases tz:zp ((x.c j).p l);rotate_left
   ·simp only [tz] at PE ad;have R:=uU (And.intro (U.ext xa) (And.intro (HT.ext xa) (And.intro (zp_cls tz d.2.1) (y.trans xa))));clear tz;go_wp2_with fail;go_roundw
    case rel=>exact⟨l+1,u,M,S,f,g',by omega,by go_num,R.1,R.2.1,⟨d.1,R.2.2.1,d.2.2.1,λk=>by have:=d.2.2.2 k;omega⟩,R.2.2.2⟩
    case measure=>simp [intOf];omega
   ·simp only [tz] at PE ad;clear tz;go_wp2_with fail;go_cut [6] (λs6 wx=>∃o1,s6=pv r t o1/\Hid (o1=wo x ((x.c j).p l).key)/\Ext (wr.alloc (.cells #[iv ((x.c j).p l).key.k,iv ((x.c j).p l).key.n,iv ((x.c j).p l).key.a,iv ((x.c j).p l).val.k,iv ((x.c j).p l).val.n,iv ((x.c j).p l).val.a] 154)) wx)
    case first=>
     go_region_with (go_at_call 123;refine(a4i x ((x.c j).p l).key b _ r t (HV.ext (y.trans xa).drew) Q2 Z.1).mono ?_;rintro e w2 ⟨rfl,z⟩)
     all_goals
      go_wp2_with fail;go_meet;exact⟨_,rfl,rfl,Ext.trans ((Ext.refl _).drew) z⟩
    case rest=>
    obtain⟨o1,rfl,O1,z⟩:=hcut;obtain⟨w2,aj⟩:∃W,W=wc:=⟨_,rfl⟩;subst aj;have x2:=xa.trans z;have X2:=y.trans x2;have v3:w2.cell? (aA wr.heap.size 3)=some (iv ((x.c j).p l).val.k):=z.keep (by simp [go_sem]);have v4:w2.cell? (aA wr.heap.size 4)=some (iv ((x.c j).p l).val.n):=z.keep (by simp [go_sem]);have v5:w2.cell? (aA wr.heap.size 5)=some (iv ((x.c j).p l).val.a):=z.keep (by simp [go_sem]);have W2:=uU (U.ext x2);have T2:=uU (HT.ext x2);have c0:=W2.c0;clear PE ad e0 e1 e2 e3 e4 e5 z;go_wp2_with fail;refine(c0a r (t+j*2) bc oc (x.c j).T _ (X2.keep M1) (X2.keep P2)).mono ?_;rintro e w3 ⟨rfl,q⟩;cases tk:((x.c j).T == 1 || (x.c j).T == 3)
    ·have aa:wr.heap.size<w3.heap.size:=Nat.lt_of_lt_of_le (uL v3) q.size;have X3:=X2.trans q;go_wp2_with fail;refine(b0n a.heap.size bw b r1 r t x.A.length o1 u M S _ (W2.ext q) (λi e=>(b0o Z.1 i (by rw[<-uH O1];exact e)).1) X3.size af).mono ?_;rintro e w4 ⟨rfl,u4,M4,S4,ai,T,Y⟩;have kb:=Y.block wr.heap.size aa (by have:=U.rlt;omega) (by have:=U.rlt;omega) (λe=>by have:=(U.s.lt _ e).2;omega);have y3:=(World.cell?_of_block (a:=(aA wr.heap.size 3)) kb).trans (q.keep v3);have y4:=(World.cell?_of_block (a:=(aA wr.heap.size 4)) kb).trans (q.keep v4);have y5:=(World.cell?_of_block (a:=(aA wr.heap.size 5)) kb).trans (q.keep v5);have X4:=(W2.ext q).kext Y X3;have W4:=uU ai;have T4:=uU ((T2.ext q).step Y);have V:=uU T.1
     have I4:=uU (d.1.grow T.1 (λi e=>by
      obtain⟨_,k,rfl⟩:=b0o Z.1 i (by rw[<-uH O1];exact e);exact dE.key j l HJ J (sk_of tk) k))
     have K4:=uU (show SK (x.c j)->((x.c j).p l).key.k=2->tgt x ((x.c j).p l).key∈M4 from λ_ k=>T.2 _ (by rw[uH O1];unfold wo;rw[if_pos k]));clear ai T Y kb v3 v4 v5 aa;go_wp2_with fail;refine(b1f r (t+j*2) bc oc (x.c j).T _ (X4.keep M1) (X4.keep P2)).mono ?_;rintro e X ⟨rfl,m⟩;have X5:=X4.trans m;cases tv:((x.c j).T == 2 || (x.c j).T == 3)
     ·have z3:=m.keep y3;have z4:=m.keep y4;have z5:=m.keep y5;have d0:=m.keep W4.c0;clear y3 y4 y5;go_wp2_with fail
      go_region_with (first
       | (go_at_call 123;refine(a4i x ((x.c j).p l).val b _ r t (HV.ext X5.drew) Q2 Z.2).mono ?_;rintro e w6 ⟨rfl,A⟩;have X6:=X5.drew.trans A;have Y6:=Ext.trans ((Ext.refl X).drew) A;obtain⟨o2,B⟩:∃o,o=wo x ((x.c j).p l).val:=⟨_,rfl⟩;rw[<-B];have O2:=uU B;clear B A)
       | (go_at_call 202;refine(b6q a bw b r1 r2 r t x.A.length o1 o2 u4 f g' M4 S4 _ ((W4.ext m).ext Y6) ((T4.ext m).ext Y6) (λi e=>(b0o Z.2 i (by rw[<-uH O2];exact e)).1) X6 af (λk=>by have:=d.2.2.2 k;have:=hg k;omega)).mono ?_;rintro e w7 ⟨rfl,u7,E,S7,f7,D,G,K,L,I⟩;have F:=uU (show Bes (wo x ((x.c j).p l).key) (wo x ((x.c j).p l).val) M4 E S4 S7 g' D by rw[<-uH O1,<-uH O2];exact L);have R:=uU (show dV w7 a.heap.size bw b r1 r t x.A.length u7 E S7/\zY w7 a.heap.size bw r1 r2 r t u7 f7 D/\(tV x E S7 D none (some j)/\tW x E S7 D none j (l+1)/\zE (λ_=>True) O E St S7/\∀k,(D k).length<=(g k).length+(l+1))/\Ext a w7 from⟨G,K,⟨I4.beside HJ J (sv_of tv) Z.2 F,a8v d.2.1 V K4 (.inr F) F.grow,(d.2.2.1.trans (V.mono (λ_ _=>trivial))).trans (F.grow.mono (λ_ _=>trivial)),λk=>by have:=F.len k;have:=d.2.2.2 k;omega⟩,I⟩);clear G K L I F))
      all_goals
       go_wp2_with fail;go_roundw
       case rel=>exact⟨l+1,u7,E,S7,f7,D,by omega,by go_num,R.1,R.2.1,R.2.2.1,R.2.2.2⟩
       case measure=>simp [intOf];omega
     ·have R:=uU (show dV X a.heap.size bw b r1 r t x.A.length u4 M4 S4/\zY X a.heap.size bw r1 r2 r t u4 f g'/\(tV x M4 S4 g' none (some j)/\tW x M4 S4 g' none j (l+1)/\zE (λ_=>True) O M4 St S4/\∀k,(g' k).length<=(g k).length+(l+1))/\Ext a X from
       ⟨W4.ext m,T4.ext m,⟨I4,a8v d.2.1 V K4 (.inl ⟨d3b tv,rfl,rfl,rfl⟩) (zE.refl (Q:=λ_=>True)),d.2.2.1.trans (V.mono (λ_ _=>trivial)),λk=>by have:=d.2.2.2 k;omega⟩,X5⟩)
      clear y3 y4 y5;go_wp2_with fail;go_roundw
      case rel=>exact⟨l+1,u4,M4,S4,f,g',by omega,by go_num,R.1,R.2.1,R.2.2.1,R.2.2.2⟩
      case measure=>simp [intOf];omega
    ·have X4:=X2.trans q;have y3:=q.keep v3;have y4:=q.keep v4;have y5:=q.keep v5;have W4:=uU (W2.ext q);have T4:=uU (T2.ext q);have V:=uU (show zE (λi=>o1=some i) M M S S from zE.refl);have I4:=uU d.1;have K4:=uU (show SK (x.c j)->((x.c j).p l).key.k=2->tgt x ((x.c j).p l).key∈M from λs _=>(sk_not tk s).elim);clear v3 v4 v5;go_wp2_with fail;refine(b1f r (t+j*2) bc oc (x.c j).T _ (X4.keep M1) (X4.keep P2)).mono ?_;rintro e X ⟨rfl,m⟩;have X5:=X4.trans m;cases tv:((x.c j).T == 2 || (x.c j).T == 3)
     ·have z3:=m.keep y3;have z4:=m.keep y4;have z5:=m.keep y5;have d0:=m.keep W4.c0;clear y3 y4 y5;go_wp2_with fail
      go_region_with (first
       | (go_at_call 123;refine(a4i x ((x.c j).p l).val b _ r t (HV.ext X5.drew) Q2 Z.2).mono ?_;rintro e w6 ⟨rfl,A⟩;have X6:=X5.drew.trans A;have Y6:=Ext.trans ((Ext.refl X).drew) A;obtain⟨o2,B⟩:∃o,o=wo x ((x.c j).p l).val:=⟨_,rfl⟩;rw[<-B];have O2:=uU B;clear B A)
       | (go_at_call 202;refine(b6q a bw b r1 r2 r t x.A.length o1 o2 u f g' M S _ ((W4.ext m).ext Y6) ((T4.ext m).ext Y6) (λi e=>(b0o Z.2 i (by rw[<-uH O2];exact e)).1) X6 af (λk=>by have:=d.2.2.2 k;have:=hg k;omega)).mono ?_;rintro e w7 ⟨rfl,u7,E,S7,f7,D,G,K,L,I⟩;have F:=uU (show Bes (wo x ((x.c j).p l).key) (wo x ((x.c j).p l).val) M E S S7 g' D by rw[<-uH O1,<-uH O2];exact L);have R:=uU (show dV w7 a.heap.size bw b r1 r t x.A.length u7 E S7/\zY w7 a.heap.size bw r1 r2 r t u7 f7 D/\(tV x E S7 D none (some j)/\tW x E S7 D none j (l+1)/\zE (λ_=>True) O E St S7/\∀k,(D k).length<=(g k).length+(l+1))/\Ext a w7 from⟨G,K,⟨I4.beside HJ J (sv_of tv) Z.2 F,a8v d.2.1 V K4 (.inr F) F.grow,(d.2.2.1.trans (V.mono (λ_ _=>trivial))).trans (F.grow.mono (λ_ _=>trivial)),λk=>by have:=F.len k;have:=d.2.2.2 k;omega⟩,I⟩);clear G K L I F))
      all_goals
       go_wp2_with fail;go_roundw
       case rel=>exact⟨l+1,u7,E,S7,f7,D,by omega,by go_num,R.1,R.2.1,R.2.2.1,R.2.2.2⟩
       case measure=>simp [intOf];omega
     ·have R:=uU (show dV X a.heap.size bw b r1 r t x.A.length u M S/\zY X a.heap.size bw r1 r2 r t u f g'/\(tV x M S g' none (some j)/\tW x M S g' none j (l+1)/\zE (λ_=>True) O M St S/\∀k,(g' k).length<=(g k).length+(l+1))/\Ext a X from
       ⟨W4.ext m,T4.ext m,⟨I4,a8v d.2.1 V K4 (.inl ⟨d3b tv,rfl,rfl,rfl⟩) (zE.refl (Q:=λ_=>True)),d.2.2.1.trans (V.mono (λ_ _=>trivial)),λk=>by have:=d.2.2.2 k;omega⟩,X5⟩)
      clear y3 y4 y5;go_wp2_with fail;go_roundw
      case rel=>exact⟨l+1,u,M,S,f,g',by omega,by go_num,R.1,R.2.1,R.2.2.1,R.2.2.2⟩
      case measure=>simp [intOf];omega
  ·have ah:l=(x.c j).F.length:=by omega
   have R:=uU (And.intro (d.1.shut (by have:=d.2.1;rw[ah] at this;exact this)) (And.intro d.2.2.1 (show ∀k,(g' k).length<=(g k).length+200 from λk=>by have:=d.2.2.2 k;omega)));clear hw ab ah d;go_wp2_with fail
   go_end0
   exact⟨rfl,u,M,S,f,g',U,HT,R,y⟩
def NdAt(w:World)(b o:Nat)(x:Nd):Prop:=∃vp,w.cell? ⟨b,o,none⟩=some (iv x.kind)/\w.cell? ⟨b,o+1,none⟩=some (iv x.T)/\w.cell? ⟨b,o+2,none⟩=some (iv x.U)/\w.cell? ⟨b,o+3,none⟩=some (iv x.rank)/\w.cell? ⟨b,o+4,none⟩=some vp/\SlP w vp x.F
abbrev SlN(w:World)(v:Value)(xs:List Nd):Prop:=tJ (NdAt w) 5 v xs
theorem NdAt.ext(h:Ext w w'){b o:Nat}{x:Nd}(j:NdAt w b o x):NdAt w' b o x:=by
 obtain⟨f,i,g,c,a,d,e⟩:=j;exact⟨f,h.keep i,h.keep g,h.keep c,h.keep a,h.keep d,SlP.ext h e⟩
theorem SlN.ext(h:Ext w w'){xs:List Nd}(a:SlN w v xs):SlN w' v xs:=a.mono λ_ _ _ k=>k.ext h
def WhAt(w:World)(B n:Nat)(O:List Nat):Prop:=(∀i,i<n->∃v,w.cell? ⟨B,i,none⟩=some (iv v)/\(i∈O->v=((O.idxOf i:Nat):Int)))/\B<w.heap.size
theorem WhAt.ext(h:WhAt w B n O)(e:Ext w w'):WhAt w' B n O:=⟨λi c=>let ⟨v,a,b⟩:=h.1 i c;⟨v,e.keep a,b⟩,Nat.lt_of_lt_of_le h.2 e.size⟩
theorem a8e(x:Hp)(y:Wd)(b B:Nat)(O:List Nat)(w:World){ac:Option Addr}{kc:Nat}{ag:Option Addr}{kg:Nat}(h:HAt w b x ar kr ac kc ag kg)(I:WhAt w B x.A.length O)(H:a0y x y)(Q:y.k=2->tgt x y∈O):
  Calls prog 136 #[pP b,sS B x.A.length x.A.length,y.v] w λe w'=>e=.returned (nw x O y).v/\Ext w w':=by
 obtain⟨z,l⟩:∃z,z=nw x O y:=⟨_,rfl⟩;rw[<-l];have D:=uU l;clear l;have E:=((Ext.refl w).alloc (.cells #[iv y.k,iv y.n,iv y.a] 152)).alloc (.cells #[iv 0,iv 0,iv 0] 152);have L:=uU h;have G:=uU I;have s:=uU H;clear h I H;go_enter func136,ntmps136;go_wp2_with fail;refine(a3h x y b _ (L.ext E) s).mono ?_;rintro e F ⟨t,rfl,m,d⟩;have g:=E.trans d;have j:=d.keep (b:=w.heap.size+1) (o:=0) (v:=iv 0) (by simp [go_sem]);have A:=d.keep (b:=w.heap.size+1) (o:=1) (v:=iv 0) (by simp [go_sem]);have C:=d.keep (b:=w.heap.size+1) (o:=2) (v:=iv 0) (by simp [go_sem]);have J:=(uK d).2;have r:w.heap.size+1<F.heap.size:=uL j;have N:B<F.heap.size:=Nat.lt_of_lt_of_le G.2 g.size;clear d;rcases uH m with⟨hk,rfl⟩ | ⟨hk,rfl⟩
 ·have p:z=t:=by rw[uH D];unfold nw;rw[if_neg hk]
  subst p;have K:(z.k == 2)=false:=by simpa using hk
  clear m;go_wp2_with fail;refine bodyPost_ret (v:=z.v) (by simp [results,results136,go_sem,j,A,C,r]) rfl ⟨rfl,?_⟩
  repeat (first | exact g | (with_reducible refine Ext.alloc ?_ _) | refine Ext.setCell ?_ (by show w.heap.size<=w.heap.size+1;omega) _)
 ·have p:z=⟨2,0,((O.idxOf (tgt x y):Nat):Int)⟩:=by rw[uH D];unfold nw;rw[if_pos hk]
  subst p;have f:tgt x y<x.A.length:=(s hk).2.2.2.2.1;obtain⟨v,i,u⟩:=G.1 _ f;have i:=g.keep i;obtain⟨q,c⟩:∃q,q=tgt x y:=⟨_,rfl⟩;rw[<-c] at i f;rw[<-c];have R:(0:Int)<=(q:Int):=by omega
  have S:(q:Int)<(x.A.length:Int):=by omega
  have P:=uU (show v=((O.idxOf q:Nat):Int) by rw[c];exact u (Q hk));have M:=uU c;clear u c m hk;go_wp2_with fail;refine bodyPost_ret (v:=.agg #[iv 2,iv 0,iv v]) (by simp [results,results136,go_sem,j,A,C,r]) rfl ⟨by rw[uH P,uH M],?_⟩
  repeat (first | exact g | (with_reducible refine Ext.alloc ?_ _) | refine Ext.setCell ?_ (by show w.heap.size<=w.heap.size+1;omega) _)
def fN(z:Nd×Value):List Value:=[iv z.1.kind,iv z.1.T,iv z.1.U,iv z.1.rank,z.2]
theorem ownN{base:Nat}{L:List (Nd×Value)}(h:w.ownsRow base 99 5 v L.length (L.flatMap fN))(m:L.length<=1048576)(l:∀z,z∈L->SlP w z.2 z.1.F):SlN w v (L.map (·.1)):=by
 obtain⟨ad,c,e,_,k⟩:=a3u (f:=fN) (λ_=>rfl) h;refine⟨ad,c,by rw[e,List.length_map],by rw[List.length_map];omega,λi d=>?_⟩;have a:i<L.length:=by simpa using d
 obtain⟨g,j,_,_,b⟩:=k i a;rw[List.getElem_map];exact⟨g,0,j,L[i].2,by have:=b 0 (by omega);simpa [fN] using this,by have:=b 1 (by omega);simpa [fN] using this,by have:=b 2 (by omega);simpa [fN] using this,by have:=b 3 (by omega);simpa [fN] using this,by have:=b 4 (by omega);simpa [fN] using this,l _ (List.getElem_mem a)⟩
def WhP(w:World)(B n k:Nat)(O:List Nat):Prop:=(∀i,i<n->∃v,w.cell? ⟨B,i,none⟩=some (iv v)/\(O.idxOf i<k->v=((O.idxOf i:Nat):Int))/\w.frozen? ⟨B,i,none⟩=false)/\B<w.heap.size
theorem WhP.step{k:Nat}(h:WhP w B n k O)(m:O.Nodup)(l:k<O.length):WhP (w.setCell (aA B (O[k])) (iv (k:Nat))) B n (k+1) O:=by
 refine⟨λi d=>?_,by have:=h.2;simpa [World.setCell] using this⟩;obtain⟨v,a,b,c⟩:=h.1 i d;by_cases e:i=O[k]
 ·subst e;refine⟨(k:Nat),World.cell?_setCell_same _ _ _ a,λ_=>by rw[m.idxOf_getElem k l],by rw[World.frozen?_setCell];exact c⟩
 ·refine⟨v,by rw[uC _ (.inr (λz=>e z.symm))];exact a,λj=>b ?_,by rw[World.frozen?_setCell];exact c⟩
  have:O.idxOf i≠k:=λz=>e (by
   have g:O.idxOf i<O.length:=by omega
   have f:O[O.idxOf i]=i:=List.getElem_idxOf g;rw[<-f];congr 1)
  omega
theorem WhP.at(h:WhP w B n O.length O):WhAt w B n O:=by grind [WhP,WhAt]
theorem mkIntU(n:Nat)(f:n<=1048576)(w:World):(Instr.makeSlice 32 (iv n) (iv n)).run prog w=.ok (sS w.heap.size n n) (w.alloc (.cells (madeCells #[iv 0] n) 3)):=by
 obtain⟨e,d,a,c,b⟩:=info_parts b4j;have h:=run_make (P:=prog) w 32 3 e _ underlying32 d a .i64 .i64 n n (by omega) (Int.le_refl _) (by rw[b];omega) (by omega);rw[c] at h;simp only [Int.toNat_natCast,Nat.mul_one] at h;exact h
theorem WhP.V(w:World)(n:Nat)(O:List Nat)(t:TypeId):WhP (w.alloc (.cells (madeCells #[iv 0] n) t)) w.heap.size n 0 O:=by
 have e:(w.alloc (.cells (madeCells #[iv 0] n) t)).heap[w.heap.size]?=some (.cells (madeCells #[iv 0] n) t):=heap_alloc_new w _;refine⟨λi a=>⟨0,?_,λh=>by omega,(a2s w _ n t i a).2⟩,by simp⟩;rw[cell_of_row _ w.heap.size i _ _ (0,0) e,<-Array.getElem?_toList,toList_madeCells_one];simp [a]
def a6o(x:Hp)(Mt:List Nat):Prop:=∀i,i∈Mt->dE x i
theorem a6o.add{y:Wd}{Mt Mt' St St':List Nat}(h:a6o x Mt)(a:yK x y Mt Mt' St St')(b:y.k=2->dE x (tgt x y)):a6o x Mt':=by grind [a6o,yK,dE,tgt,Add.new,yK.new]
theorem zY.V(w:World)(a c d:Nat)(t:TypeId):zY (((w.alloc (.map #[] 0)).alloc (.map #[] 0)).alloc (.cells #[pP a,.map (some w.heap.size),.slice none 0 0,.map (some (w.heap.size+1))] t)) w.heap.size (w.heap.size+2) w.heap.size (w.heap.size+1) c d (.slice none 0 0) (λ_=>.slice none 0 0) (λ_=>[]):=by
 have b:(((w.alloc (.map #[] 0)).alloc (.map #[] 0)).alloc (.cells #[pP a,.map (some w.heap.size),.slice none 0 0,.map (some (w.heap.size+1))] t)).heap[w.heap.size+1]?=some (.map #[] 0):=by
  rw[Below.heap_alloc _ _ _ (by simp)];have:=heap_alloc_new (w.alloc (.map #[] 0)) (.map #[] 0)
  simpa using this
 exact⟨by simp [go_sem],⟨#[],0,[],b,by simp [a1i],List.nodup_nil,λ_ _=>rfl⟩,λ_=>World.ownsRow_nil _ _ _ _,λ_ _ _ _ h=>by simp [Value.ownBlock] at h,λ_ _ h=>by simp [Value.ownBlock] at h,λ_ h=>by simp [Value.ownBlock] at h,λ_ h=>by simp [Value.ownBlock] at h,λ_ h=>by simp [Value.ownBlock] at h,by omega,by omega,by simp [Value.ownBlock],by omega⟩
theorem c9j(x:Hp)(b:Nat)(w:World){ac:Nat->Option Addr}{kn:Nat}(g l:Nat)(h:VNt w b x ar kr ac (some (aA g l)) kn)(r2:R2 x)(r4:R4 x)(G:x.A.length<=8000):
  Calls prog 120 #[pP b] w λe w'=>e=.returned (pP (w.heap.size+2))/\∃v Mt St,dV w' w.heap.size (w.heap.size+2) b w.heap.size g l x.A.length v Mt St/\zY w' w.heap.size (w.heap.size+2) w.heap.size (w.heap.size+1) g l v (λ_=>.slice none 0 0) (λ_=>[])/\Hid (a6o x Mt/\a6r x x.B.length Mt/\∀i,i∈Mt->i∈St)/\Ext w w':=by
 have U:=h.H.c3;have lr:=h.H.lr;have HV:=uU h;have L:=uU r2;have Q:=uU r4;have Y:∀(t:TypeId) (w:World),(Instr.makeMap t none).run prog w=.ok (.map (some w.heap.size)) (w.alloc (.map #[] 0)):=λ_ _=>rfl
 have c4:=((((Ext.refl w).alloc (.map #[] 0)).alloc (.map #[] 0)).alloc (.cells #[pP b,.map (some w.heap.size),.slice none 0 0,.map (some (w.heap.size+1))] 172)).keep U;have S0:=uU (dV.V w b g l x.A.length 172);have P:=uU (zY.V w b g l 172);go_enter func120,ntmps120;go_wp2_with fail;go_loopw [17] (λi wr=>∃(k:Nat) (v:Value) (Mt St:List Nat),k<=x.B.length/\i=iv k/\dV wr w.heap.size (w.heap.size+2) b w.heap.size g l x.A.length v Mt St/\zY wr w.heap.size (w.heap.size+2) w.heap.size (w.heap.size+1) g l v (λ_=>.slice none 0 0) (λ_=>[])/\Hid (a6o x Mt/\a6r x k Mt/\∀i,i∈Mt->i∈St)/\Ext w wr) (λi _=>x.B.length-(intOf i).toNat)
 case atStart=>exact⟨0,_,[],[],Nat.zero_le _,rfl,S0,P,⟨(λi p=>by cases p),(λj _ K=>by omega),λi p=>p⟩,(((Ext.refl w).alloc _).alloc _).alloc _⟩
 case round=>
  obtain⟨k,v,Mt,St,hk,rfl,T,z,c,d⟩:=hrel;have E:=uU T;have M:=uU z;by_cases m:k<x.B.length
  ·have S:=HV.ext d;obtain⟨b',o,rfl,p0,p1,p2⟩:=S.H.R k m;have X:(0:Int)<=(k:Int):=by omega
   have N:(k:Int)<(x.B.length:Int):=by omega
   have J:=(Ext.refl wr).alloc (.cells #[iv x.B[k].k,iv x.B[k].n,iv x.B[k].a] 152);have I:=uU (a2b L Q k m);go_wp2_with fail;refine(a4h x x.B[k] b _ g l (HV.ext (d.trans J)).f L I).mono ?_;rintro e w2 ⟨t,rfl,W,O⟩;have s:=J.trans O;have V:=uU W;go_wp2_with fail;refine(a8m x x.B[k] w.heap.size (w.heap.size+2) b w.heap.size g l t v Mt St _ (E.ext s) I V (d.trans s).size G).mono ?_;rintro e B ⟨rfl,D,y,F,C,u,r⟩
   have R:=uU (show dV B w.heap.size (w.heap.size+2) b w.heap.size g l x.A.length D y F/\zY B w.heap.size (w.heap.size+2) w.heap.size (w.heap.size+1) g l D (λ_=>.slice none 0 0) (λ_=>[])/\(a6o x y/\a6r x (k+1) y/\∀i,i∈y->i∈F)/\Ext w B from
    ⟨C,(M.ext s).step r,⟨c.1.add u (λe=>dE.reg k m e),λj K Z e=>by
     by_cases q:j=k
     ·subst q;exact u.has e
     ·exact u.sub.1 _ (c.2.1 j K (by omega) e),λi p=>by
     rcases u.new p with q | ⟨_,_,q⟩
     ·exact u.sub.2 i (c.2.2 i q)
     ·exact q⟩,(E.ext s).kext r (d.trans s)⟩)
   go_wp2;go_roundw
   case rel=>exact⟨k+1,D,y,F,by omega,by go_num,R.1,R.2.1,R.2.2.1,R.2.2.2⟩
   case measure=>simp [intOf];omega
  ·have A:k=x.B.length:=by omega
   subst A;go_wp2;go_ret;exact⟨rfl,v,Mt,St,E,M,c,d⟩
end Go.Proofs.YtddkhnclmeikfaaGreat
namespace Go.Proofs.YtddkhnclmeikfaaGreat
open Go.RowKit Go.Lib Go.Sort Go.Shelf Go.Proofs.Tryz
attribute [local go_sem ↓] Go.wp_at_zero Go.wp_at_succ
variable{n i:Nat}
def clN(n i:Nat):Nat:=if i<n then i else 0
theorem b9b(h:i<n):clN n i=i:=by simp [clN,h]
theorem c4d(h:0<n):clN n i<n:=by grind [clN]
def c1j(bn on n i:Nat):Value:=ptr bn (on+clN n i*2)
def cfN(x:Hp)(i j:Nat):Int:=Lib.compareInt (x.c (clN x.A.length i)).born (x.c (clN x.A.length j)).born
theorem ltN(x:Hp)(i j:Nat):ltOf (cfN x) i j=decide ((x.c (clN x.A.length i)).born<(x.c (clN x.A.length j)).born):=by
 unfold ltOf cfN Lib.compareInt;by_cases a:(x.c (clN x.A.length i)).born<(x.c (clN x.A.length j)).born
 ·simp [a]
 ·grind [Hp.c,clN,uX.A,QFr.A,cfN]
theorem swoN(x:Hp):SWO (ltOf (cfN x)):={
 irrefl:=λi=>by rw[ltN];simp
 trans:=λi j k b a=>by rw[ltN] at *;simp at *;omega
 ntrans:=λi j k b a=>by rw[ltN] at *;simp at *;omega }
theorem a9p{α:Type}[Inhabited α](enc:α->Value)(w:World)(a b m k:Nat)(d:Array α)(c:Array Obj)(g:k≠a)(e:k<w.heap.size):(sortWorld enc w a b m d c).heap[k]?=w.heap[k]?:=by
 have f:(putRow enc (Sort.ahead w m) a b d).heap.size=w.heap.size:=by simp [putRow,mapBlock,Sort.ahead]
 show((putRow enc (Sort.ahead w m) a b d).heap++c)[k]?=w.heap[k]?;rw[Array.getElem?_append_left (by omega)];show(w.heap.modify a _)[k]?=w.heap[k]?;rw[Array.getElem?_modify,if_neg (by omega)]
theorem c4e{α:Type}[Inhabited α](enc:α->Value)(w:World)(a b m base:Nat)(d:Array α)(c:Array Obj)(h:base<=a)(f:base<=w.heap.size):Go.RowKit.Below base w (sortWorld enc w a b m d c):=by
 have e:(putRow enc (Sort.ahead w m) a b d).heap.size=w.heap.size:=by simp [putRow,mapBlock,Sort.ahead]
 refine⟨rfl,rfl,rfl,?_,λk g=>a9p enc w a b m k d c (by omega) (by omega)⟩;simp [sortWorld,grow,e]
def SrtN(x:Hp)(L:List Nat):Prop:=∀i j (hi:i<L.length) (hj:j<L.length),i<j->(x.c L[i]).born<=(x.c L[j]).born
theorem c7k(x:Hp)(b base g cap:Nat)(d:List Nat)(w:World){ar:Option Addr}{kr:Nat}{ac:Nat->Option Addr}{kn:Nat}(k o:Nat)(h:VNt w b x ar kr ac (some (aA k o)) kn)(I:∀i,i<x.A.length->∃bc oc,ac i=some (aA bc oc)/\bc<base/\k<base)(D:∀i,i∈d->i<x.A.length)(s:0<x.A.length)(h8:d.length<=8000)
  (hc:∀j (r:j<d.length),w.cell? (aA g j)=some (ptr k (o+d[j]*2))/\w.frozen? (aA g j)=false) (hg:base<=g) (A:g<w.heap.size) (J:base<=w.heap.size) :
  Calls prog 167 #[sS g d.length cap,.func (.func 168) #[] #[]] w λe w'=>e=.returned (.tuple #[])/\∃Ls',Hid (List.Perm Ls' d)/\Hid (∀j (r:j<Ls'.length),w'.cell? (aA g j)=some (ptr k (o+Ls'[j]*2)))/\Hid (SrtN x Ls')/\Go.RowKit.Below base w w':=by
 have eg:∀q w,(callFunc 168 q).run prog w=.ok (.enter 168 q) w:=enters_of func168 (by kernel_rfl) rfl
 have Q:Holds (c1j k o x.A.length) w g 0 d.toArray:=λj r=>by
  have f:j<d.length:=by simpa using r
  have:=hc j f;rw[getElem!_pos _ j r];simp only [Nat.zero_add,c1j,List.getElem_toArray];rw[b9b (D _ (List.getElem_mem f))];exact this
 have hR:CmpReads prog 168 #[] (c1j k o x.A.length) (cfN x) g 0 d.toArray.size w:=λm B P S i j=>by
  have u:∀i,∃bc oc,(sortWorld (c1j k o x.A.length) w g 0 m P B).cell? (aA k (o+clN x.A.length i*2+1))=some (ptr bc oc)/\(sortWorld (c1j k o x.A.length) w g 0 m P B).cell? (aA bc (oc+4))=some (iv (x.c (clN x.A.length i)).born):=λi=>by
   obtain⟨bc,oc,e0,l1,l2⟩:=I _ (c4d (i:=i) s);obtain⟨ad,U,aa,ab,a1,L,_,W⟩:=h.N _ (c4d (i:=i) s);obtain⟨X,R,ap,kp,K,C⟩:=h.H.cell _ (c4d (i:=i) s);rw[e0] at L K;cases a1;cases L;cases K;exact⟨bc,oc,(World.cell?_of_block (w:=w) (a:=(aA k _)) (a9p _ _ _ _ _ k _ _ (by omega) (by omega))).trans W,(World.cell?_of_block (w:=w) (a:=(aA bc _)) (a9p _ _ _ _ _ bc _ _ (by omega) (by omega))).trans C.p4⟩
  obtain⟨bc,oc,Z,Y⟩:=u i;obtain⟨bd,od,k3,T⟩:=u j;exact c1i _ _ k _ _ bc bd _ _ _ Z Y k3 T
 have O:=Any.slices_SortFunc Tryz.sortL (c1j k o x.A.length) (λ_=>rfl) (cfN x) (swoN x) 168 #[] g 0 cap d.toArray w eg hR.lays Q A (by simp;omega);change Calls prog 167 _ _ _ at O;refine O.mono λe w' ⟨he,l,n,B,G,E,M⟩=>⟨he,l.toList,?_,?_,?_,?_⟩
 ·obtain⟨t,_,p⟩:=G;have v:l.extract 0 d.toArray.size=l:=by rw[<-t];simp
  have z:d.toArray.extract 0 d.toArray.size=d.toArray:=by simp
  rw[v,z] at p;exact p
 ·obtain⟨t,_,p⟩:=G;have v:l.extract 0 d.toArray.size=l:=by rw[<-t];simp
  have z:d.toArray.extract 0 d.toArray.size=d.toArray:=by simp
  rw[v,z] at p;intro j r;have f:j<l.size:=by simpa using r
  have:=(holds_sortWorld (c1j k o x.A.length) w g 0 n d.toArray l B A Q t j f).1;rw[getElem!_pos _ j f,<-M] at this;simp only [Nat.zero_add,c1j] at this;rw[b9b (D _ (p.mem_iff.1 (Array.getElem_mem_toList f)))] at this
  simpa using this
 ·obtain⟨t,_,p⟩:=G;have v:l.extract 0 d.toArray.size=l:=by rw[<-t];simp
  have z:d.toArray.extract 0 d.toArray.size=d.toArray:=by simp
  rw[v,z] at p;intro i j V r F;have y:i<l.size:=by simpa using V
  have f:j<l.size:=by simpa using r
  have:=E i j (Nat.zero_le _) F (by omega);rw[getElem!_pos _ i y,getElem!_pos _ j f,ltN,b9b (D _ (p.mem_iff.1 (Array.getElem_mem_toList y))),b9b (D _ (p.mem_iff.1 (Array.getElem_mem_toList f)))] at this;simp at this
  simpa using this
 ·rw[M];exact c4e _ _ _ _ _ _ _ _ hg J
end Go.Proofs.YtddkhnclmeikfaaGreat
namespace Go.Proofs.YtddkhnclmeikfaaGreat
open Go.RowKit Go.Proofs.Tryz
attribute [local go_sem ↓] Go.wp_at_zero Go.wp_at_succ
variable{x y:Hp}{ar ac ag ap:Option Addr}{kr k kc kg kn j kp i B B7 n:Nat}{vn v vr v':Value}{N O:List Nat}{wr W w w3 w6 w' w5:World}{φ:Nat->Nat}{c:Cl}{r:Int}
theorem b3z(x:Hp)(w:World)(n:SlW w (.slice ar x.B.length kr) x.B)(l:SlC w (.slice ac x.A.length kc) x.A)(m:SlI w (.slice ag x.D.length kg) x.D):
  HAt (w.alloc (.cells #[iv x.M,iv x.K,iv x.born,.slice ar x.B.length kr,.slice ac x.A.length kc,iv x.E,iv x.I,iv x.sub,.slice ag x.D.length kg,iv x.per,iv x.V,iv x.Q,iv x.S] 34)) w.heap.size x ar kr ac kc ag kg:=by
 have e:=(Ext.refl w).alloc (.cells #[iv x.M,iv x.K,iv x.born,.slice ar x.B.length kr,.slice ac x.A.length kc,iv x.E,iv x.I,iv x.sub,.slice ag x.D.length kg,iv x.per,iv x.V,iv x.Q,iv x.S] 34);obtain⟨u,t,g,j,R⟩:=n;obtain⟨s,r,f,k,C⟩:=l;obtain⟨q,v,d,h,G⟩:=m;simp only [Value.slice.injEq] at g f d;obtain⟨rfl,_,rfl⟩:=g;obtain⟨rfl,_,rfl⟩:=f;obtain⟨rfl,_,rfl⟩:=d;refine⟨?_,?_,?_,?_,?_,?_,?_,?_,?_,?_,?_,?_,?_,j,k,h,?_,?_,?_⟩
 iterate 13 (simp [go_sem])
 ·exact λi b=>let ⟨c,o,a,p⟩:=R i b;⟨c,o,a,p.ext e⟩
 ·intro i b;obtain⟨c,o,a,p⟩:=C i b;rw[Hp.c_eq] at p;exact⟨c,o,a,p.ext e⟩
 ·exact λi b=>let ⟨c,o,a,p⟩:=G i b;⟨c,o,a,p.ext e⟩
theorem a4e(x:Hp)(w:World)(Z:SlW w (.slice ar x.B.length kr) x.B)(W:SlC w (.slice ac x.A.length kc) x.A)(X:SlI w (.slice ag x.D.length kg) x.D):
  Calls prog 73 #[x.v (.slice ar x.B.length kr) (.slice ac x.A.length kc) (.slice ag x.D.length kg)] w λe w'=>∃n:Int,e=.returned (iv n)/\dX x n/\Ext w w':=by
 have h:=b3z x w Z W X;have Q:=(Ext.refl w).alloc (.cells #[iv x.M,iv x.K,iv x.born,.slice ar x.B.length kr,.slice ac x.A.length kc,iv x.E,iv x.I,iv x.sub,.slice ag x.D.length kg,iv x.per,iv x.V,iv x.Q,iv x.S] 34);clear Z W X;go_enter func73,ntmps73;go_wp2_with fail;refine(c0j x _ _ h).mono ?_;rintro e w1 ⟨g,rfl,a,b⟩;have K:=h.ext b;have L:=Q.trans b;clear Q h b;cases g
 ·have Y:=uU (show dX x 1 from Or.inl ⟨λr=>by simpa using a.2 r,rfl⟩);clear a;go_wp2_with fail;go_ret;exact⟨1,rfl,Y,L⟩
 have P:R1 x:=a.1 rfl;have d:=uU P;clear a P;go_wp2_with fail;refine(c0m x _ _ K).mono ?_;rintro e s ⟨g,rfl,a,b⟩;have l:=K.ext b;have z:=L.trans b;clear L K b;cases g
 ·have Y:=uU (show dX x 2 from Or.inr (Or.inl ⟨d,λr=>by simpa using a.2 r,rfl⟩));clear a;go_wp2_with fail;go_ret;exact⟨2,rfl,Y,z⟩
 have G:R2 x:=a.1 rfl;have k:=uU G;have H:x.A.length<=8000:=by have:=d.M;have:=d.A;omega
 have y:∀i,i<x.A.length->(x.c i).F.length<=200:=λi hi=>by
  rcases G.1 i hi with c | c | c
  ·have:=c.2.1.2.2.2.2.2;omega
  ·have:=c.2.1.2.2.2.2.2;omega
  ·exact c.2.2.2.2.2.2.2
 have q:=uU (λw' (e:Up s w')=>a5x (c0f x w.heap.size w' (l.ext e.ext) H y) e);have I:∀w',Up s w'->w'.cell? (aA w.heap.size 0)=some (iv x.M)/\w'.cell? (aA w.heap.size 1)=some (iv x.K):=λw' e=>⟨e.ext.keep l.c0,e.ext.keep l.c1⟩
 have c0:=l.c0;have c1:=l.c1;have T:=uU l;clear a G l y;go_wp2_with fail;cases u1:(x.K == (units x.A:Int))
 ·have t:(x.K != (units x.A:Int))=true:=by simpa using u1
  have Y:=uU (show dX x 3 from Or.inr (Or.inr (Or.inl ⟨d,k,λr=>by simp [r.1] at u1,rfl⟩)));refine wp_region_quiet (C:=Up s) (by kernel_rfl) (by kernel_rfl) (show Ext _ _ from(Ext.refl _).drew) ?_
  go_simp
  iterate 12 (first | go_big_quiet_skip | (go_big_quiet_want;go_big_quiet_op;first | go_big_quiet_on | (apply Exists.intro;refine⟨λw' j=>?_,?_⟩;(first | (go_at_call 128;exact(uH q w' j)) | (with_reducible rfl) | (go_simp;first | done | (with_reducible rfl) | (refine⟨?_,?_⟩ <;> with_reducible rfl)));go_big_quiet_on)))
  refine wpQuiet_nil ?_;intro R f;have o:=z.trans f.ext;clear I q;go_wp2_with fail;go_ret;exact⟨3,rfl,Y,o⟩
 ·have t:(x.K != (units x.A:Int))=false:=by simpa using u1
  by_cases u2:x.M<x.K
  ·have Y:=uU (show dX x 3 from Or.inr (Or.inr (Or.inl ⟨d,k,λr=>by have:=r.2;omega,rfl⟩)));refine wp_region_quiet (C:=Up s) (by kernel_rfl) (by kernel_rfl) (show Ext _ _ from(Ext.refl _).drew) ?_
   go_simp
   iterate 12 (first | go_big_quiet_skip | (go_big_quiet_want;go_big_quiet_op;first | go_big_quiet_on | (apply Exists.intro;refine⟨λw' j=>?_,?_⟩;(first | (go_at_call 128;exact(uH q w' j)) | (with_reducible rfl) | (go_simp;first | done | (with_reducible rfl) | (refine⟨?_,?_⟩ <;> with_reducible rfl)));go_big_quiet_on)))
   refine wpQuiet_nil ?_;intro R f;have o:=z.trans f.ext;clear I q;go_wp2_with fail;go_ret;exact⟨3,rfl,Y,o⟩
  have m:=uU (show R3 x from⟨by simpa using u1,by omega⟩);refine wp_region_quiet (C:=Up s) (by kernel_rfl) (by kernel_rfl) (show Ext _ _ from(Ext.refl _).drew) ?_
  go_simp
  iterate 12 (first | go_big_quiet_skip | (go_big_quiet_want;go_big_quiet_op;first | go_big_quiet_on | (apply Exists.intro;refine⟨λw' j=>?_,?_⟩;(first | (go_at_call 128;exact(uH q w' j)) | (with_reducible rfl) | (go_simp;first | done | (with_reducible rfl) | (refine⟨?_,?_⟩ <;> with_reducible rfl)));go_big_quiet_on)))
  refine wpQuiet_nil ?_;intro R f;have o:=z.trans f.ext;have M:=T.ext f.ext;clear I q T c0 c1 u1 t u2;go_wp2_with fail;refine(c0n x _ _ M).mono ?_;rintro e w4 ⟨g,rfl,a,b⟩;have D:=M.ext b;have N:=o.trans b;clear o M b;cases g
  ·have Y:=uU (show dX x 4 from Or.inr (Or.inr (Or.inr (Or.inl ⟨d,k,m,λr=>by simpa using a.2 r,rfl⟩))));clear a;go_wp2_with fail;go_ret;exact⟨4,rfl,Y,N⟩
  have p:=uU (show R4 x from a.1 rfl);clear a;go_wp2_with fail;refine(b8o x _ _ D).mono ?_;rintro e w5 ⟨g,rfl,a,b⟩;have E:=D.ext b;have F:=N.trans b;clear N D b;cases g
  ·have Y:=uU (show dX x 5 from Or.inr (Or.inr (Or.inr (Or.inr (Or.inl ⟨d,k,m,p,λr=>by simpa using a.2 r,rfl⟩)))));clear a;go_wp2_with fail;go_ret;exact⟨5,rfl,Y,F⟩
  have u:=uU (show R5 x from a.1 rfl);clear a;go_wp2_with fail;refine(c0o x _ _ E d u).mono ?_;rintro e w6 ⟨g,rfl,a,b⟩;have O:=E.ext b;have J:=F.trans b;clear F E b;cases g
  ·have Y:=uU (show dX x 6 from Or.inr (Or.inr (Or.inr (Or.inr (Or.inr (Or.inl ⟨d,k,m,p,u,λr=>by simpa using a.2 r,rfl⟩))))));clear a;go_wp2_with fail;go_ret;exact⟨6,rfl,Y,J⟩
  have A:=uU (show R6 x from a.1 rfl);clear a;go_wp2_with fail;refine(c0p x _ _ O d p A).mono ?_;rintro e w7 ⟨g,rfl,a,b⟩;have U:=O.ext b;have B:=J.trans b;clear J O b;cases g
  ·have Y:=uU (show dX x 7 from Or.inr (Or.inr (Or.inr (Or.inr (Or.inr (Or.inr (Or.inl ⟨d,k,m,p,u,A,λr=>by simpa using a.2 r,rfl⟩)))))));clear a;go_wp2_with fail;go_ret;exact⟨7,rfl,Y,B⟩
  have S:=uU (show R7 x from a.1 rfl);clear a;go_wp2_with fail;refine(b6v x _ _ U).mono ?_;rintro e w8 ⟨g,rfl,a,b⟩;have V:=B.trans b;clear B U b;cases g
  ·have Y:=uU (show dX x 8 from Or.inr (Or.inr (Or.inr (Or.inr (Or.inr (Or.inr (Or.inr (Or.inl ⟨d,k,m,p,u,A,S,λr=>by simpa using a.2 r,rfl⟩))))))));clear a;go_wp2_with fail;go_ret;exact⟨8,rfl,Y,V⟩
  ·have Y:=uU (show dX x 0 from Or.inr (Or.inr (Or.inr (Or.inr (Or.inr (Or.inr (Or.inr (Or.inr ⟨d,k,m,p,u,A,S,a.1 rfl,rfl⟩))))))));clear a;go_wp2_with fail;go_ret;exact⟨0,rfl,Y,V⟩
theorem c7m(p:Option Addr)(cap:Nat)(w:World):
  Calls prog 167 #[.slice p 0 cap,.func (.func 168) #[] #[]] w λe w'=>e=.returned (.tuple #[])/\w'=w:=
 AnyF.slices_SortFunc_none (P:=prog) (ρ:=Tryz.sortL_ren) { Tryz.sortL with } p cap (.func (.func 168) #[] #[]) w
theorem d0t(x:Hp)(b base:Nat)(v:Value)(a:List Nat)(w:World){ac:Nat->Option Addr}(d k:Nat)(h:VNt w b x ar kr ac (some (aA d k)) kn)(u:∀i,i<x.A.length->∃bc oc,ac i=some (aA bc oc)/\bc<base/\d<base)(B:∀i,i∈a->i<x.A.length)(G:a.length<=8000)
  (l:w.ownsRow base 126 1 v a.length (a.map (λi=>ptr d (k+i*2)))) (y:base<=w.heap.size) :
  Calls prog 167 #[v,.func (.func 168) #[] #[]] w λe w'=>e=.returned (.tuple #[])/\Hid (∃g cap Ls',v=.slice g Ls'.length cap/\List.Perm Ls' a/\(∀j (c:j<Ls'.length),∃gb go,g=some (aA gb go)/\w'.cell? (aA gb (go+j))=some (ptr d (k+Ls'[j]*2))/\base<=gb)/\SrtN x Ls')/\Below base w w':=by
 by_cases A:a=[]
 ·subst A
  obtain⟨p,cap,rfl⟩:∃p cap,v=.slice p 0 cap:=by
   rcases l.2 with⟨e,_⟩ | ⟨g,cap,cur,e,_⟩
   ·exact⟨none,0,e⟩
   ·exact⟨_,_,e⟩
  exact(c7m p cap w).mono λ_ _ ⟨t,F⟩=>by subst F;exact⟨t,⟨p,cap,[],rfl,List.Perm.refl _,(λj c=>by simp at c),λi j D=>by simp at D⟩,Below.refl _ _⟩
 ·have f:0<a.length:=List.length_pos_iff.2 A;rcases l.2 with⟨_,e⟩ | ⟨g,cap,cur,rfl,hg,hb,_⟩
  ·omega
  ·have r:g<w.heap.size:=by
    rcases Nat.lt_or_ge g w.heap.size with q | q
    ·exact q
    ·rw[Array.getElem?_eq_none q] at hb;cases hb
   have o:0<x.A.length:=by have:=B _ (List.getElem_mem f);omega
   have C:∀j (c:j<a.length),w.cell? (aA g j)=some (ptr d (k+a[j]*2))/\w.frozen? (aA g j)=false:=λj c=>by
    refine⟨?_,World.ownsRow.frozenAt l j⟩;rw[World.ownsRow.cellAt l j (by omega)];simp [List.getElem?_eq_getElem c]
   exact(c7k x b base g cap a w d k h u B o G C hg r y).mono λ_ w' ⟨t,E,z,n,m,s⟩=>⟨t,⟨some (aA g 0),cap,E,by rw[z.length_eq],z,λj c=>⟨g,0,rfl,by rw[Nat.zero_add];exact n j c,hg⟩,m⟩,s⟩
theorem b6r(O:List Nat):(zs O).length=O.length:=by simp [zs]
def rkJ(N:List Nat)(k j:Nat):Int:=if N.idxOf j<k then ((N.idxOf j:Nat):Int)+1 else 0
theorem d3e(N:List Nat)(j:Nat):rkJ N 0 j=0:=by simp [rkJ]
theorem rkJ_hit(b:N.Nodup)(a:k<N.length)(e:N[k]=j):rkJ N (k+1) j=(k:Int)+1:=by
 subst e;unfold rkJ;rw[b.idxOf_getElem k a,if_pos (by omega)]
theorem d3f(c:k<N.length)(e:N[k]≠j):rkJ N (k+1) j=rkJ N k j:=by
 have:N.idxOf j≠k:=λz=>e (by
  have a:N.idxOf j<N.length:=by omega
  have b:N[N.idxOf j]=j:=List.getElem_idxOf a;rw[<-b];congr 1;exact z.symm)
 unfold rkJ;by_cases h:N.idxOf j<k
 ·rw[if_pos h,if_pos (by omega)]
 ·rw[if_neg h,if_neg (by omega)]
def dJ(x:Hp)(O N:List Nat)(j:Nat):Nd:=⟨(x.c j).kind,(x.c j).T,(x.c j).U,rkJ N N.length j,(x.c j).F.map (np x O)⟩
structure NS(x:Hp)(O N:List Nat)(w3 w6 wr:World)(vn:Value)(k:Nat)(L:List (Nd×Value)):Prop where
 own:wr.ownsRow w6.heap.size 99 5 vn k (L.flatMap fN)
 eq:L.map (·.1)=(O.take k).map (dJ x O N)
 F:∀z,z∈L->wr.ownsRow w6.heap.size 154 6 z.2 z.1.F.length (z.1.F.flatMap fP)/\∀q,z.2.ownBlock=some q->vn.ownBlock≠some q
 c0:wr.cell? ⟨w3.heap.size,0,none⟩=w6.cell? ⟨w3.heap.size,0,none⟩
 c1:wr.cell? ⟨w3.heap.size,1,none⟩=some vn
 fz:∀o,wr.frozen? ⟨w3.heap.size,o,none⟩=false
 on:uX (λq=>q=w3.heap.size) w6 wr
 ex:Ext w3 wr
 lt:w3.heap.size<w6.heap.size
theorem NS.ext{L:List (Nd×Value)}(h:NS x O N w3 w6 wr vn k L)(e:Ext wr w'):NS x O N w3 w6 w' vn k L where
 own:=uN h.own (λq b=>e.block q (h.own.lt q b).2)
 eq:=h.eq
 F:=λz c=>⟨uN (h.F z c).1 (λq b=>e.block q ((h.F z c).1.lt q b).2),(h.F z c).2⟩
 c0:=(World.cell?_of_block (a:=(aA w3.heap.size 0)) (e.block _ (Nat.lt_of_lt_of_le h.lt h.on.size))).trans h.c0
 c1:=e.keep h.c1
 fz:=λo=>((uK e).2 _ o (Nat.lt_of_lt_of_le h.lt h.on.size)).trans (h.fz o)
 on:=h.on.trans ⟨e.os,e.tape,e.output,e.size,λq b _=>e.block q b⟩
 ex:=h.ex.trans e
 lt:=h.lt
theorem NS.push{g:Nat}{L:List (Nd×Value)}{z:Nd×Value}(h:NS x O N w3 w6 W vn k L)(C:k<O.length)(E:z.1=dJ x O N O[k])(f:W.grownBy w5 vn.ownBlock)(F:w5.ownsRow w6.heap.size 99 5 v' (k+1) (L.flatMap fN++fN z))
  (m:v'.ownBlock=some g) (l:vn.ownBlock=some g\/g=W.heap.size) (p:W.ownsRow B7 154 6 z.2 z.1.F.length (z.1.F.flatMap fP)) (D:w6.heap.size<=B7) (j:∀q,vn.ownBlock=some q->q<B7) :
  NS x O N w3 w6 (w5.setCell (aA w3.heap.size 1) v') v' (k+1) (L++[z]):=by
 have i:w3.heap.size<W.heap.size:=Nat.lt_of_lt_of_le h.lt h.on.size;obtain⟨w,B,t,A,v,n⟩:=b4h (o:=1) (u:=v') (bg:=w3.heap.size) h.lt h.ex h.own (Nat.le_refl _) i f F;refine⟨by simpa using w,?_,λy s=>?_,(t 0 (by omega)).trans h.c0,v _ h.c1,λo=>(A o).trans (h.fz o),?_,B,h.lt⟩
 ·rw[List.map_append,h.eq,List.take_succ_eq_append_getElem C,List.map_append];simp [E]
 ·have a:W.ownsRow w6.heap.size 154 6 y.2 y.1.F.length (y.1.F.flatMap fP)/\∀q,y.2.ownBlock=some q->vn.ownBlock≠some q:=by
   rcases List.mem_append.1 s with q | q
   ·exact h.F y q
   ·rw[List.mem_singleton] at q;subst q;exact⟨a6z p D,λq e b=>by have:=(p.lt q e).1;have:=j q b;omega⟩
  refine⟨uN a.1 (λq c=>n q (a.1.lt q c).2 (λe=>by have:=(a.1.lt q c).1;have:=h.lt;omega) (a.2 q c)),λq e b=>?_⟩;rw[m] at b
  injection b with b
  subst b;rcases l with r | r
  ·exact a.2 g e r
  ·have:=(a.1.lt g e).2;omega
 ·exact⟨f.os.trans h.on.os,f.tape.trans h.on.tape,f.output.trans h.on.output,by have:=f.size;have:=h.on.size;simp only [World.setCell,Array.size_modify];omega,λq c d=>(n q (Nat.lt_of_lt_of_le c h.on.size) d (λe=>by have:=(h.own.lt q e).1;omega)).trans (h.on.block q c d)⟩
structure NB(wr W:World)(c:Cl)(ap:Option Addr)(kp:Nat)(r:Int)(v:Value):Prop where
 p7:W.cell? ⟨wr.heap.size,7,none⟩=some (.slice ap c.F.length kp)
 n0:W.cell? ⟨wr.heap.size+1,0,none⟩=some (iv c.kind)
 n1:W.cell? ⟨wr.heap.size+1,1,none⟩=some (iv c.T)
 n2:W.cell? ⟨wr.heap.size+1,2,none⟩=some (iv c.U)
 n3:W.cell? ⟨wr.heap.size+1,3,none⟩=some (iv r)
 n4:W.cell? ⟨wr.heap.size+1,4,none⟩=some v
 f:∀o,W.frozen? ⟨wr.heap.size+1,o,none⟩=false
 ex:Ext wr W
theorem NB.ext{W':World}(h:NB wr W c ap kp r v)(e:Ext W W'):NB wr W' c ap kp r v:=
 ⟨e.keep h.p7,e.keep h.n0,e.keep h.n1,e.keep h.n2,e.keep h.n3,e.keep h.n4,λo=>((uK e).2 _ o (uL h.n0)).trans (h.f o),h.ex.trans e⟩
theorem NB.rank{r':Int}(h:NB wr W c ap kp r v):NB wr (W.setCell (aA (wr.heap.size+1) 3) (iv r')) c ap kp r' v:=
 ⟨by rw[uC _ (.inl (by omega))];exact h.p7,by rw[uC _ (.inr (by omega))];exact h.n0,by rw[uC _ (.inr (by omega))];exact h.n1,by rw[uC _ (.inr (by omega))];exact h.n2,World.cell?_setCell_same _ _ _ h.n3,by rw[uC _ (.inr (by omega))];exact h.n4,λo=>by rw[World.frozen?_setCell];exact h.f o,h.ex.setCell (Nat.le_succ _) _⟩
theorem NB.push{n':Nat}{xs ys:List Value}(h:NB wr W c ap kp r v)(d:W.ownsRow B7 154 6 v n xs)(m:wr.heap.size+1<B7)(p:W.grownBy w5 v.ownBlock)(q:w5.ownsRow B7 154 6 v' n' ys):
  (w5.setCell (aA (wr.heap.size+1) 4) v').ownsRow B7 154 6 v' n' ys/\NB wr (w5.setCell (aA (wr.heap.size+1) 4) v') c ap kp r v':=by
 obtain⟨j,g,b,k,l,i⟩:=b4h (o:=4) (u:=v') (bg:=wr.heap.size+1) m h.ex d (Nat.le_succ _) (uL h.n0) p q;refine⟨j,?_,(b 0 (by omega)).trans h.n0,(b 1 (by omega)).trans h.n1,(b 2 (by omega)).trans h.n2,(b 3 (by omega)).trans h.n3,l _ h.n4,λo=>(k o).trans (h.f o),g⟩;exact(World.cell?_of_block (a:=(aA wr.heap.size 7)) (i wr.heap.size (uL h.p7) (by omega) (λe=>by have:=(d.lt _ e).1;omega))).trans h.p7
theorem NB.V(wr:World)(c:Cl)(a:Option Addr)(b:Nat)(d e:TypeId):NB wr ((wr.alloc (.cells #[iv c.st,iv c.kind,iv c.T,iv c.U,iv c.born,iv c.J,iv c.to,.slice a c.F.length b] d)).alloc (.cells #[iv c.kind,iv c.T,iv c.U,iv 0,.slice none 0 0] e)) c a b 0 (.slice none 0 0):=
 ⟨by simp [go_sem],by simp [go_sem],by simp [go_sem],by simp [go_sem],by simp [go_sem],by simp [go_sem],λo=>by simp [go_sem],((Ext.refl wr).alloc _).alloc _⟩
def CurH(x:Hp)(t:Value)(bn on G0 gk:Nat)(Mt St:List Nat)(g:Nat->List (Option Nat)):Prop:=gk<=G0/\(∀k,(g k).length+200*gk<=200*G0)/\((t=.pointer none/\St=[]/\tV x Mt [] g none none)\/∃j,t=ptr bn (on+j*2)/\j∈Mt/\tV x Mt St g (some j) (some j)/\2*(x.A.length-Mt.length)+St.length+1<=gk)
theorem d3d(x:Hp)(b:Nat)(w:World){ac:Nat->Option Addr}(o p:Nat)(h:VNt w b x ar kr ac (some (aA o p)) kn)(r2:R2 x)(r4:R4 x)(J:x.A.length<=8000)(au:∀i,i<x.A.length->(x.c i).F.length<=200)
  (aq:∀w1,VNt w1 b x ar kr ac (some (aA o p)) kn->Calls prog 102 #[pP b] w1 λe w'=>∃(g:Option Addr) (cap:Nat) (r:List Nat),Hid (e=.returned (.slice g r.length cap))/\Hid (a6s x w1 w' g o p r)/\Ext w1 w') :
  Calls prog 72 #[pP b] w λe w'=>e=.returned (Value.map (some w.heap.size))/\∃Mt:List Nat,a3p w' w.heap.size o (Mt.map (λi=>p+i*2))/\w.heap.size<w'.heap.size/\Hid (∀i,i∈Mt↔dE x i)/\Ext w w':=by
 have HV:=uU h;have Q2:=uU r2;have Q4:=uU r4;have SP:=uU aq;clear h r2 r4 aq;go_enter func72,ntmps72;go_wp2_with fail;refine(c9j x b _ o p HV Q2 Q4 J).mono ?_;rintro e w1 ⟨rfl,v1,M1,S1,ag,ai,i1,x1⟩;have W1:=uU ag;have T1:=uU ai;clear ag ai;go_wp2_with fail;refine(SP _ (HV.ext x1)).mono ?_;rintro e w2 ⟨g,cap,r,rfl,A,V⟩;have x2:=x1.trans V;have A0:=uU (And.intro (W1.ext V) (And.intro (A.at W1) (T1.ext V)));have bb:r.length<=8000:=A.2.1;have LI:=uU A.2.2;clear W1 T1 A V;go_wp2_with fail;go_loopw [12] (λi wr=>∃(k:Nat) (v:Value) (Mt E:List Nat),k<=r.length/\i=iv k/\dV wr w.heap.size (w.heap.size+2) b w.heap.size o p x.A.length v Mt E/\zY wr w.heap.size (w.heap.size+2) w.heap.size (w.heap.size+1) o p v (λ_=>.slice none 0 0) (λ_=>[])/\Hid (a6o x Mt/\a6r x x.B.length Mt/\(∀i,i∈Mt->i∈E)/\∀j (h:j<r.length),j<k->(x.c r[j]).U=2->r[j]∈Mt)/\Hid (b5d wr g (w.heap.size+2) w.heap.size v o p r)/\Ext w wr) (λi _=>r.length-(intOf i).toNat)
 case atStart=>exact⟨0,v1,M1,S1,Nat.zero_le _,rfl,A0.1,A0.2.2,⟨i1.1,i1.2.1,i1.2.2,λj _ X=>by omega⟩,A0.2.1,x2⟩
 case round=>
  clear A0 i1 x1 x2;obtain⟨k,v,Mt,E,hk,rfl,S,B,a,U,u⟩:=hrel;have Q:=uU S;have HT:=uU B;clear S B;by_cases aa:k<r.length
  ·obtain⟨gb,go,hg,gc,g1,g2,g3⟩:=U k aa;subst hg;have bi:(0:Int)<=(k:Int):=by omega
   have be:(k:Int)<(r.length:Int):=by omega
   have Z:=uU ((LI r[k]).1 (List.getElem_mem aa));clear g1 g2 g3;obtain⟨j,ej⟩:∃j,j=r[k]:=⟨_,rfl⟩;rw[<-ej] at gc Z;have D:=Z.1;obtain⟨bc,oc,ap,kp,K,C⟩:=HV.H.cell j D;obtain⟨bg,ba,bf,bd,e2,e3,m0,ak⟩:=HV.N j D;rw[K] at e3;cases e2;cases e3;have p3:=u.keep C.p3;have m1:=u.keep ak;have EJ:=uU ej;clear C m0 ak K ej;cases tl:((x.c j).U == 2)
   ·have R:=uU (show ∀q (h:q<r.length),q<k+1->(x.c r[q]).U=2->r[q]∈Mt from λq hq ax e=>by
     by_cases z:q=k
     ·subst z;rw[<-uH EJ] at e;simp at tl;exact(tl e).elim
     ·exact a.2.2.2 q hq (by omega) e)
    go_wp2_with fail;go_roundw
    case rel=>exact⟨k+1,v,Mt,E,by omega,by go_num,Q,HT,⟨a.1,a.2.1,a.2.2.1,R⟩,U,u⟩
    case measure=>simp [intOf];omega
   ·have af:(x.c j).U=2:=by simpa using tl
    have HL:=uU af;clear af;go_wp2_with fail;refine(b0k w.heap.size (w.heap.size+2) b w.heap.size o p x.A.length j v Mt E _ Q D u.size J).mono ?_;rintro e T ⟨rfl,v',M',S',y,ha,d⟩
    have R:=uU (show dV T w.heap.size (w.heap.size+2) b w.heap.size o p x.A.length v' M' S'/\zY T w.heap.size (w.heap.size+2) w.heap.size (w.heap.size+1) o p v' (λ_=>.slice none 0 0) (λ_=>[])/\(a6o x M'/\a6r x x.B.length M'/\(∀i,i∈M'->i∈S')/\∀j (h:j<r.length),j<k+1->(x.c r[j]).U=2->r[j]∈M')/\b5d T (some (aA gb go)) (w.heap.size+2) w.heap.size v' o p r/\Ext w T from by
     have G:=b1y ha;refine⟨y,HT.step d,⟨λi O=>?_,λj X aw e=>G.1.m _ (a.2.1 j X aw e),λi O=>?_,λq hq ax e=>?_⟩,U.step d,Q.kext d u⟩
     ·rcases G.1.n i O with q | ⟨q,_⟩
      ·exact a.1 i q
      ·rw[q];exact dE.due j D HL
     ·rcases G.1.n i O with q | ⟨_,q⟩
      ·exact G.1.s i (a.2.2.1 i q)
      ·exact q
     ·by_cases z:q=k
      ·subst z;rw[<-uH EJ];exact G.2
      ·exact G.1.m _ (a.2.2.2 q hq (by omega) e))
    clear y ha d gc p3 m1;go_wp2_with fail;go_roundw
    case rel=>exact⟨k+1,v',M',S',by omega,by go_num,R.1,R.2.1,R.2.2.1,R.2.2.2.1,R.2.2.2.2⟩
    case measure=>simp [intOf];omega
  ·have ay:k=r.length:=by omega
   have I0:=uU (show tV x Mt E (λ_=>[]) none none from⟨a.1,a.2.1,λi O hs=>by
    obtain⟨j,X,e⟩:=List.getElem_of_mem ((LI i).2 ⟨O,.inr hs⟩);have:=a.2.2.2 j X (by omega) (by rw[e];exact hs);rw[e] at this;exact this,(λ_ _ h=>by cases h),(λ_ _ h=>by cases h),λi O=>.inl (a.2.2.1 i O)⟩)
   clear a U LI ay;go_wp2_with fail;refine(b0m w.heap.size (w.heap.size+2) b w.heap.size o p x.A.length v Mt E _ Q J).mono ?_;rintro e T ⟨t,v3,S3,rfl,y,ht,d⟩;have av:=Q.len
   have R:=uU (show dV T w.heap.size (w.heap.size+2) b w.heap.size o p x.A.length v3 Mt S3/\zY T w.heap.size (w.heap.size+2) w.heap.size (w.heap.size+1) o p v3 (λ_=>.slice none 0 0) (λ_=>[])/\CurH x t o p (3*x.A.length+1) (3*x.A.length+1) Mt S3 (λ_=>[])/\Ext w T from by
    refine⟨y,HT.step d,⟨Nat.le_refl _,λk=>by simp,?_⟩,Q.kext d u⟩;rcases uH ht with⟨e,K,e2⟩ | ⟨j,e,K⟩
    ·have:=uH I0;rw[K] at this;exact .inl ⟨e,e2,this⟩
    ·have I:=uH I0;rw[K] at I;have hl:=y.len;exact .inr ⟨j,e,Q.sub j (by rw[K];simp),I.take,by omega⟩)
   clear y ht d Q HT I0 av u;go_wp2_with fail
   go_loopg [6] (3*x.A.length+1) (λgk t wr=>∃(v:Value) (Mt E:List Nat) (f:Nat->Value) (g:Nat->List (Option Nat)),dV wr w.heap.size (w.heap.size+2) b w.heap.size o p x.A.length v Mt E/\zY wr w.heap.size (w.heap.size+2) w.heap.size (w.heap.size+1) o p v f g/\Hid (CurH x t o p (3*x.A.length+1) gk Mt E g)/\Ext w wr)
   case atStart=>exact⟨v3,Mt,S3,_,_,R.1,R.2.1,R.2.2.1,R.2.2.2⟩
   case round=>
    clear R;obtain⟨v,Mt,E,f,g,S,B,P,u⟩:=hrel;have Q:=uU S;have HT:=uU B;obtain⟨bh,M,az⟩:=uH P;rcases az with⟨rfl,rfl,I⟩ | ⟨j,rfl,X,I,hgj⟩
    ·have c1:=S.c1;have F:=uU (And.intro S.m (And.intro S.rlt.2 I.done));clear S B P I M;go_wp2_with fail;go_ret;exact⟨rfl,Mt,F.1,F.2.1,F.2.2,u⟩
    ·have D:j<x.A.length:=S.rg j X;have Y:=uU M;have Z:=uU I;have HJ:=uU X;have hp:=au j D;clear S B P I M X;go_wp2_with fail;refine(c2x w (w.heap.size+2) b w.heap.size (w.heap.size+1) o p x.A.length j v f g Mt E _ Q HT (λi O=>Z.wl j i O) u J (by have:=uH Y j;omega)).mono ?_;rintro e T ⟨rfl,v3,M3,S3,y,ad,L,am⟩;have W3:=uU y;have T3:=uU ad;have I3:=uU ((Z.grow L.1 (λi O=>Z.wh j i O (Z.only j HJ))).freed L.2);have J3:=uU (L.1.m j HJ);have G3:=uU L.1;have X3:=uU am;clear y ad L am;go_wp2_with fail;refine(d3c x w b (w.heap.size+2) w.heap.size (w.heap.size+1) o p j v3 f g M3 S3 _ HV Q2 Q4 hp W3 T3 I3 J3 X3 J (λk=>by have:=uH Y k;omega)).mono ?_;rintro e w4 ⟨rfl,v4,M4,S4,f4,g4,aj,ae,al,ab⟩;have W4:=uU aj;have T4:=uU ae;have I4:=uU al;have X4:=uH ab;clear aj ae al ab;go_wp2_with fail;refine(b0m w.heap.size (w.heap.size+2) b w.heap.size o p x.A.length v4 M4 S4 _ W4 J).mono ?_;rintro e w5 ⟨t,v5,S5,rfl,ao,an,d⟩;obtain⟨ah,W⟩:∃g,gk=g+1:=⟨gk-1,by omega⟩
     have R:=uU (show dV w5 w.heap.size (w.heap.size+2) b w.heap.size o p x.A.length v5 M4 S5/\zY w5 w.heap.size (w.heap.size+2) w.heap.size (w.heap.size+1) o p v5 f4 g4/\CurH x t o p (3*x.A.length+1) ah M4 S5 g4/\Ext w w5 from by
      refine⟨ao,T4.step d,⟨by omega,λk=>?_,?_⟩,W4.kext d X4⟩
      ·have:=I4.2.2 k;have:=uH Y k;omega
      ·have I:=I4.1
       have wg:2*(x.A.length-M4.length)+S4.length<=2*(x.A.length-Mt.length)+E.length:=by
        have a1:=G3.w;have a2:=I4.2.1.w;have a3:=W4.len;have a4:=W3.len;have a5:=G3.l;have a6:=I4.2.1.l;omega
       rcases uH an with⟨e,K,e2⟩ | ⟨i,e,K⟩
       ·rw[K] at I;exact .inl ⟨e,e2,I⟩
       ·have hm:i∈M4:=W4.sub i (by rw[K];simp);rw[K] at I wg;simp only [List.length_append,List.length_singleton] at wg;exact .inr ⟨i,e,hm,I.take,by omega⟩)
     have G:=uU W;clear ao an d W4 T4 I4 X4 W;go_wp2_with fail
     go_roundg ah
     case measure=>have:=uH G;omega
     case rel=>exact⟨v5,M4,S5,f4,g4,R.1,R.2.1,R.2.2.1,R.2.2.2⟩
def spk(x:Hp)(k:Nat):List Nat:=(List.range k).filter (λi=>a0w (x.c i))
theorem spk_no(h:a0w (x.c k)=false):spk x (k+1)=spk x k:=by simp [spk,List.range_succ,List.filter_append,h]
theorem spk_yes(h:a0w (x.c k)=true):spk x (k+1)=spk x k++[k]:=by simp [spk,List.range_succ,List.filter_append,h]
theorem spk_len(x:Hp)(k:Nat):(spk x k).length<=k:=by grind [spk,a0w,Hp.c]
theorem c5y:i∈spk x k↔i<k/\hQ (x.c i):=by simp [spk,a3k]
theorem row_ext{a w2:World}{T:TypeId}{vs:List Value}{o:Obj}(h:w.ownsRow a.heap.size T 1 v n vs)(e:Ext a w)(b:(w.alloc o).grownBy w2 v.ownBlock):Ext a w2:=by
 have g:w.heap.size+1<=w2.heap.size:=by have:=b.size;simpa using this
 refine Below.trans e ⟨b.os,b.tape,b.output,by omega,λk d=>?_⟩;have c:k<w.heap.size:=Nat.lt_of_lt_of_le d e.size;rw[b.block k (by simp;omega) (λf=>by have:=(h.lt k f.symm).1;omega),Below.heap_alloc _ o k c]
theorem b0q(x:Hp)(b:Nat)(w:World){ar:Option Addr}{kr:Nat}{ac:Nat->Option Addr}{kn:Nat}(f l:Nat)(h:VNt w b x ar kr ac (some (aA f l)) kn)(ai:x.A.length<=8000):
  Calls prog 102 #[pP b] w λe w'=>∃(g:Option Addr) (cap:Nat) (B:List Nat),Hid (e=.returned (.slice g B.length cap))/\Hid (a6s x w w' g f l B)/\Hid (SrtN x B/\B.Perm (spk x x.A.length))/\Ext w w':=by
 obtain⟨i0,M,Q,P,F⟩:=info_parts a8k;have o:=h.n13;have HV:=uU h;go_enter func102,ntmps102;go_wp2_with fail;go_loopw [3,10] (λv i wr=>∃(k:Nat),k<=x.A.length/\i=iv k/\Hid (wr.ownsRow w.heap.size 126 1 v (spk x k).length ((spk x k).map (λi=>ptr f (l+i*2))))/\Ext w wr) (λ_ i _=>x.A.length-(intOf i).toNat)
 case atStart=>exact⟨0,Nat.zero_le _,rfl,World.ownsRow_nil _ _ _ _,Ext.refl w⟩
 case round=>
  obtain⟨k,hk,rfl,d,a⟩:=hrel;have Y:=spk_len x k;by_cases p:k<x.A.length
  ·have K:=HV.ext a;have o:=K.n13;obtain⟨n,q,U,W,J,C⟩:=K.H.cell k p;obtain⟨O,G,af,ah,z,r,V,m1⟩:=K.N k p;rw[J] at r;cases z;cases r;have HC:=uU C;have Z:b<wr.heap.size:=uL o;have ag:(0:Int)<=(k:Int):=by omega
   have aa:(k:Int)<(x.A.length:Int):=by omega
   go_wp2_with fail;refine(a3a (x.c k) f (l+k*2) n q U W _ m1 HC).mono ?_;rintro e w1 ⟨rfl,rfl⟩;cases t:a0w (x.c k)
   ·have R:=uU (show _ from spk_no t ▸ uH d);go_wp2;go_roundw
    case rel=>exact⟨k+1,by omega,by go_num,R,a⟩
    case measure=>simp [intOf];omega
   ·have T:=uU t;go_wp2_with (at_builtin;refine wpList_append_lies _ rfl _ _ 130 rfl w.heap.size 126 i0 (.pointer none) 1 8 underlying130 M Q P F rfl (by decide) _ (spk x k).length ((spk x k).map (λi=>ptr f (l+i*2))) rfl (d.alloc _) _ 1 1 [ptr f (l+k*2)] rfl rfl ?c1 ?c2 (by decide) ?c3 ?c4 ?c5 _ rfl ?_)
    case c1=>
     intro j u A
     match j,A with
     | 0,A=>simp at A;subst A;simp [Addr.add]
    case c2=>intro u X;simp at X;subst X;rfl
    case c3=>unfold maxLen;omega
    case c4=>have:=a.size;simp;omega
    case c5=>have:=a.size;simp;omega
    intro g cap w2 s m ae S;have R:=uU (And.intro (show w2.ownsRow w.heap.size 126 1 (sS g ((spk x k).length+1) cap) (spk x (k+1)).length ((spk x (k+1)).map (λi=>ptr f (l+i*2))) by rw[spk_yes (uH T)];simpa using s) (row_ext d a m));go_wp2;go_roundw
    case rel=>exact⟨k+1,by omega,by go_num,R.1,R.2⟩
    case measure=>simp [intOf];omega
  ·have E:k=x.A.length:=by omega
   subst E;have VB:=uU (HV.ext a)
   have BB:=uU (show ∀i,i<x.A.length->∃n q,ac i=some (aA n q)/\n<w.heap.size/\f<w.heap.size from λi y=>by
    obtain⟨O,G,n,q,J,z,V,_⟩:=HV.N i y;obtain⟨ad,ab,U,W,r,C⟩:=HV.H.cell i y;rw[z] at r;cases J;cases r;exact⟨n,q,z,uL C.p0,uL V⟩)
   go_wp2_with fail;refine(d0t x b w.heap.size _ (spk x x.A.length) _ f l VB BB (λi y=>(c5y.1 y).1) (by omega) d a.size).mono ?_;rintro e w3 ⟨rfl,hs,I⟩;have x3:Ext w w3:=Below.trans a I;go_wp2;go_ret;obtain⟨g,cap,L',e,L,hc,D⟩:=uH hs;exact⟨g,cap,L',by show _=_;rw[e];rfl,⟨hc,by have:=L.length_eq;omega,λi=>by rw[L.mem_iff];exact c5y⟩,⟨D,L⟩,x3⟩
theorem b0r(x:Hp)(b:Nat)(w:World){ac:Nat->Option Addr}(f j:Nat)(h:VNt w b x ar kr ac (some (aA f j)) kn)(i:x.A.length<=8000):
  Calls prog 102 #[pP b] w λe w'=>∃(g:Option Addr) (cap:Nat) (d:List Nat),Hid (e=.returned (.slice g d.length cap))/\Hid (a6s x w w' g f j d)/\Ext w w':=
 (b0q x b w f j h i).mono λ_ _ ⟨g,cap,d,a,b,_,c⟩=>⟨g,cap,d,a,b,c⟩
theorem c4c(x:Hp)(b base y r s u j:Nat)(v:Value)(O:List Nat)(w:World){ar:Option Addr}{kr:Nat}{ac:Nat->Option Addr}{kn:Nat}(I:VNt w b x ar kr ac (some (aA s u)) kn)(r2:R2 x)(r4:R4 x)(h:tN w base y b r s u x.A.length v O)(hO:OrdIs x O)(hj:j∈O)(ah:(x.c j).F.length<=200):
  Calls prog 105 #[pP y,ptr s (u+j*2)] w λe w'=>e=.returned (sS w.heap.size (x.c j).F.length (x.c j).F.length)/\Hid (SlP w' (sS w.heap.size (x.c j).F.length (x.c j).F.length) ((x.c j).F.map (np x O))/\Nf1 w.heap.size w')/\Ext w w':=by
 have U:=uU ((hO.r j hj).good r2 r4);have PJ:=uU (hO.p j hj);have t:=U.1;obtain⟨z,an⟩:=mkPairs (x.c j).F.length (by omega) w;obtain⟨bc,oc,ap,kp,e1,C⟩:=I.H.cell j t;obtain⟨au,ak,ao,al,e2,E,m0,m1⟩:=I.N j t;rw[e1] at E;cases e2;cases E;have p7:=C.p7;have av:bc<w.heap.size:=uL p7;have am:s<w.heap.size:=uL m1;have lp:=C.lp;have HP:=uU C.P;have HV:=uU I;have Y:=uU h;have G:=uU r2;have Q4:=uU r4;go_enter func105,ntmps105;go_wp2_with fail;go_loopw [25] (λi wr=>∃(p:Nat),p<=(x.c j).F.length/\i=iv p/\Hid ((∀q (Z:q<((x.c j).F.map (np x O)).length),q<p->qN wr w.heap.size (0+q*6) ((x.c j).F.map (np x O))[q])/\(∀q,q<((x.c j).F.map (np x O)).length*6->qC wr w.heap.size q)/\Nf1 w.heap.size wr)/\Ext w wr) (λi _=>(x.c j).F.length-(intOf i).toNat)
 case atStart=>exact⟨0,Nat.zero_le _,rfl,⟨(λq _ h=>by omega),(λq Z=>a2s _ _ _ _ _ (by simpa using Z)),Nf1.made _ _ _ _⟩,(Ext.refl w).alloc _⟩
 case round=>
  obtain⟨p,hp,rfl,d,f⟩:=hrel;by_cases g:p<(x.c j).F.length
  ·obtain⟨b2,o2,rfl,q0,q1,q2,q3,q4,q5⟩:=uH HP p g;have e0:=f.keep q0;have e1:=f.keep q1;have e2:=f.keep q2;have E:=f.keep q3;have e4:=f.keep q4;have e5:=f.keep q5;have ai:(0:Int)<=(p:Int):=by omega
   have aq:(p:Int)<((x.c j).F.length:Int):=by omega
   have xa:=(Ext.refl wr).alloc (.cells #[iv ((x.c j).p p).key.k,iv ((x.c j).p p).key.n,iv ((x.c j).p p).key.a,iv ((x.c j).p p).val.k,iv ((x.c j).p p).val.n,iv ((x.c j).p p).val.a] 154);have MK:=uU (a0j G Q4 j p U g);have L:=uU (PJ p g g);have EL:=uU (show((x.c j).F.map (np x O))[p]'(by simpa using g)=np x O ((x.c j).p p) by rw[List.getElem_map];congr 1;simp [Cl.p,g]);have B:=f.trans xa;go_wp2_with fail;have D:¬wr.heap.size=w.heap.size:=by have:=d.2.2.1;omega
   have T:¬w.heap.size=wr.heap.size:=λe=>D e.symm
   go_region_held3 (λW=>W.cell? (aA wr.heap.size 0)=some (iv ((x.c j).p p).key.k)/\W.cell? (aA wr.heap.size 1)=some (iv ((x.c j).p p).key.n)/\W.cell? (aA wr.heap.size 2)=some (iv ((x.c j).p p).key.a)/\W.cell? (aA wr.heap.size 3)=some (iv ((x.c j).p p).val.k)/\W.cell? (aA wr.heap.size 4)=some (iv ((x.c j).p p).val.n)/\W.cell? (aA wr.heap.size 5)=some (iv ((x.c j).p p).val.a)) (go_keep) (first
    | (go_at_call 104;refine(b2a x ((x.c j).p p).val b base y r s u v O _ (HV.ext S) G (Y.ext S) MK.2 L.2).mono ?_;rintro e l ⟨rfl,F⟩;have y3:=y2.trans F;have M:l.cell? (aA wr.heap.size 0)=some (iv ((x.c j).p p).key.k):=y3.keep (by simp [go_sem]);have K:l.cell? (aA wr.heap.size 1)=some (iv ((x.c j).p p).key.n):=y3.keep (by simp [go_sem]);have ae:l.cell? (aA wr.heap.size 2)=some (iv ((x.c j).p p).key.a):=y3.keep (by simp [go_sem]);have ad:l.cell? (aA wr.heap.size 3)=some (iv ((x.c j).p p).val.k):=y3.keep (by simp [go_sem]);have V:l.cell? (aA wr.heap.size 4)=some (iv ((x.c j).p p).val.n):=y3.keep (by simp [go_sem]);have ag:l.cell? (aA wr.heap.size 5)=some (iv ((x.c j).p p).val.a):=y3.keep (by simp [go_sem]);have m:=xa.trans y3;have R:=uU (c3n (w:=w) (wr:=wr) (w1:=l) (xs:=(x.c j).F.map (np x O)) (k:=p) (by simpa using g) d.1 d.2.1 f m d.2.2);rw[uH EL] at R;obtain⟨⟨s0,c0⟩,f0⟩:=(d.2.1 (p*6) (by simp;omega)).ext m;obtain⟨⟨s1,c1⟩,f1⟩:=(d.2.1 (p*6+1) (by simp;omega)).ext m;obtain⟨⟨s2,c2⟩,f2⟩:=(d.2.1 (p*6+2) (by simp;omega)).ext m;obtain⟨⟨s3,c3⟩,f3⟩:=(d.2.1 (p*6+3) (by simp;omega)).ext m;obtain⟨⟨s4,c4⟩,f4⟩:=(d.2.1 (p*6+4) (by simp;omega)).ext m;obtain⟨⟨s5,c5⟩,f5⟩:=(d.2.1 (p*6+5) (by simp;omega)).ext m)
    | (go_at_call 104;refine(b2a x ((x.c j).p p).key b base y r s u v O _ (HV.ext B.drew) G (Y.ext B.drew) MK.1 L.1).mono ?_;rintro e o ⟨rfl,A⟩;have y2:=Ext.trans ((Ext.refl _).drew) A;have S:=B.trans y2;have ab:o.cell? (aA wr.heap.size 0)=some (iv ((x.c j).p p).key.k):=y2.keep (by simp [go_sem]);have Q:o.cell? (aA wr.heap.size 1)=some (iv ((x.c j).p p).key.n):=y2.keep (by simp [go_sem]);have J:o.cell? (aA wr.heap.size 2)=some (iv ((x.c j).p p).key.a):=y2.keep (by simp [go_sem]);have af:o.cell? (aA wr.heap.size 3)=some (iv ((x.c j).p p).val.k):=y2.keep (by simp [go_sem]);have aa:o.cell? (aA wr.heap.size 4)=some (iv ((x.c j).p p).val.n):=y2.keep (by simp [go_sem]);have X:o.cell? (aA wr.heap.size 5)=some (iv ((x.c j).p p).val.a):=y2.keep (by simp [go_sem])))
   all_goals
    go_wp2;go_roundw
    case rel=>exact⟨p+1,by omega,by go_num,⟨R.1,R.2.1,R.2.2.2⟩,R.2.2.1⟩
    case measure=>simp [intOf];omega
  ·have aj:p=(x.c j).F.length:=by omega
   have R:=uU (show SlP wr (sS w.heap.size (x.c j).F.length (x.c j).F.length) ((x.c j).F.map (np x O))/\Nf1 w.heap.size wr from⟨⟨some (aA w.heap.size 0),(x.c j).F.length,by rw[List.length_map],by rw[List.length_map];omega,λi hi=>⟨_,_,rfl,d.1 i hi (by rw[List.length_map] at hi;omega)⟩⟩,d.2.2⟩);go_wp2;go_ret;exact⟨rfl,R,f⟩
def a5t(x:Hp)(r:Nat):Prop:=(dX x 0/\∃p:Nat->Bool,(∀i,p i=true↔dE x i)/\r=eY x p x.A.length)\/(¬dX x 0/\r=0)
theorem a5t.uniq{r s:Nat}(h:a5t x r)(k:a5t x s):r=s:=by grind [a5t,a1z.uniq,dX.uniq,Cl.p,VNt.f,b3g]
theorem b3x(x:Hp)(w:World)(m:SlW w (.slice ar x.B.length kr) x.B)(k:SlC w (.slice ac x.A.length kc) x.A)(l:SlI w (.slice ag x.D.length kg) x.D):
  Calls prog 28 #[x.v (.slice ar x.B.length kr) (.slice ac x.A.length kc) (.slice ag x.D.length kg)] w λe w'=>∃r:Nat,Hid (e=.returned (iv (r:Int)))/\a5t x r/\Ext w w':=by
 have d:=(Ext.refl w).alloc (.cells #[iv x.M,iv x.K,iv x.born,.slice ar x.B.length kr,.slice ac x.A.length kc,iv x.E,iv x.I,iv x.sub,.slice ag x.D.length kg,iv x.per,iv x.V,iv x.Q,iv x.S] 34);have p:=uU (SlW.ext d m);have z:=uU (SlC.ext d k);have u:=uU (SlI.ext d l);have A:=uU (b3z x w m k l);go_enter func28,ntmps28;go_wp2_with fail;refine(a4e x _ p z u).mono ?_;rintro e o ⟨n,rfl,b,f⟩;have g:=d.trans f;have a:=uU b;have j:=uU (A.ext f);cases t:(n == 0)
 ·have B:(n != 0)=true:=by simpa using t
  have N:=uU (show a5t x 0 from .inr ⟨λh=>by have:=dX.uniq h a;simp at t;omega,rfl⟩);go_wp2;go_ret;exact⟨0,rfl,N,g⟩
 ·have B:(n != 0)=false:=by simpa using t
  have Y:=uU (show dX x 0 by have:=uH a;simp at t;rw[t] at this;exact this);go_wp2_with fail;refine(a7u x w.heap.size _ j Y.all.2.1 Y.all.2.2.2 Y.n8).mono ?_;rintro e G ⟨v,L,rfl,D,E,c⟩;have y:=g.trans c;have q:=uU D;have C:=uU (j.ext c);go_wp2_with fail;refine(b2b x w.heap.size o.heap.size (λi=>decide ((i:Int)∈L)) _ C q.s Y.n8 Y.p200).mono ?_;rintro e F ⟨rfl,rfl⟩;go_wp2;go_ret;exact⟨_,rfl,.inl ⟨Y,_,λi=>by simpa using uH E i,rfl⟩,y⟩
theorem a6u(x:Hp)(w:World)(I:SlW w (.slice ar x.B.length kr) x.B)(n:SlC w (.slice ac x.A.length kc) x.A)(H:SlI w (.slice ag x.D.length kg) x.D)(f:a2p w x ac):
  Calls prog 25 #[x.v (.slice ar x.B.length kr) (.slice ac x.A.length kc) (.slice ag x.D.length kg)] w λe w'=>∃r:Nat,Hid (e=.returned (iv (r:Int)))/\a5t x r/\Ext w w':=by
 have c:=(Ext.refl w).alloc (.cells #[iv x.M,iv x.K,iv x.born,.slice ar x.B.length kr,.slice ac x.A.length kc,iv x.E,iv x.I,iv x.sub,.slice ag x.D.length kg,iv x.per,iv x.V,iv x.Q,iv x.S] 34);have t:=uU (SlW.ext c I);have A:=uU (SlC.ext c n);have y:=uU (SlI.ext c H);have o:=uU (f.extS n c);go_enter func25,ntmps25;go_wp2_with fail;refine(a3w x _ t A y o).mono ?_;rintro e p ⟨s,k⟩;have m:=c.trans s;rcases uH k with⟨hn,rfl⟩ | ⟨hok,b,an,kn,rfl,hv,han⟩
 ·have N:=uU (show a5t x 0 from .inr ⟨hn,rfl⟩);go_wp2;go_ret;exact⟨0,rfl,N,m⟩
 ·obtain⟨h,j,rfl⟩:=uH han;have a:=uU hok;have V:=uU hv;go_wp2_with fail;refine(d3d x b _ h j V.vn a.all.2.1 a.all.2.2.2 a.n8 a.p200 (λF B=>b0r x b F h j B a.n8)).mono ?_;rintro e K ⟨rfl,G,q,g,D,d⟩;have z:=m.trans d;have M:=uU q;go_wp2_with fail;refine(c6m x b p.heap.size G _ h j (V.ext d).vn M g a.n8 a.p200).mono ?_;rintro e J ⟨u,rfl,C,l⟩;have E:=z.trans l;go_wp2;go_ret;exact⟨u,rfl,.inl ⟨a,_,λi=>by simpa using uH D i,C⟩,E⟩
def gR(x:Hp)(N:List Nat):List Wd:=x.B.map (nw x (yC x N))
def gL(x:Hp)(N:List Nat):List Nd:=(yC x N).map (dJ x (yC x N) N)
theorem b5i.only{S:Nat->Prop}(h:b5i x B w vr vn)(e:uX S w w')(d:∀q,B<=q->¬S q):b5i x B w' vr vn:=by
 obtain⟨N,O,s,v,l,f,j,t,r,u,i,k,y,o,g,n,c,b,a⟩:=h;exact⟨N,O,s,v,l,f,j,t,r,u,i,k.only e (d _ b),y,o,g.only e (d _ a) (λq m=>d _ (g.p q m).2.2.1),n,c,b,a⟩
theorem b5i.less{B':Nat}(h:b5i x B w vr vn)(s:B'<=B):b5i x B' w vr vn:=by
 obtain⟨N,O,m,p,g,f,d,n,l,o,c,e,q,k,r,j,a,i,b⟩:=h;exact⟨N,O,m,p,g,f,d,n,l,o,c,e,q,k,r.less s,j,a,by omega,by omega⟩
theorem b5i.rd(h:b5i x B w vr vn)(b:dX x 0):∃N,IsW x N/\SlW w vr (gR x N)/\SlN w vn (gL x N):=by
 obtain⟨N,O,l,n,I,f,H,m,rfl,F,y,z,G,D,q,J,E,A,v⟩:=h;have K:x.B.length=16:=b.all.1.B;have g:=b5c b.all.2.1 b.all.2.2.2 m;have u:(yC x N).length<=8000:=by have:=a6b g.nd (λi c=>((g.r i c).good b.all.2.1 b.all.2.2.2).1);have:=b.n8;omega
 refine⟨N,m,⟨some (aA l 0),x.B.length,by rw[F];simp [gR],by simp [gR];omega,λi c=>?_⟩,⟨some (aA n 0),(yC x N).length,by rw[y];simp [gL],by simp [gL];omega,λi c=>?_⟩⟩
 ·have a:i<x.B.length:=by simpa [gR] using c
  refine⟨l,0,rfl,?_⟩;have:=z.s i a;rw[G i a] at this
  simpa [gR] using this
 ·have a:i<(yC x N).length:=by simpa [gL] using c
  obtain⟨j,d,t,C,o⟩:=q.s i a;have k:=(q.p i a).1;have e:=D i a;refine⟨n,0,rfl,?_⟩;rw[e] at k;simp only [e] at j d t o;refine⟨_,by simpa [gL,dJ] using j,by simpa [gL,dJ] using d,by simpa [gL,dJ] using t,?_,by simpa [gL,dJ] using o,?_⟩
  ·simpa [gL,dJ,rkN,rkJ,e] using C
  ·simpa [gL,dJ] using k
def IAns(x:Hp)(B:Nat)(w:World)(vr vn:Value):Prop:=(¬dX x 0/\vr=.slice none 0 0/\vn=.slice none 0 0)\/(dX x 0/\b5i x B w vr vn)
def SAns(x:Hp)(w:World)(vr vn:Value):Prop:=(¬dX x 0/\vr=.slice none 0 0/\vn=.slice none 0 0)\/(dX x 0/\∃N,IsW x N/\SlW w vr (gR x N)/\SlN w vn (gL x N))
theorem a4q.meet{Mt Mt' St St':List Nat}(h:a4q x Mt)(b:uZ x i)(a:(i∈Mt/\Mt'=Mt/\St'=St)\/(¬i∈Mt/\Mt'=Mt++[i]/\St'=St++[i])):a4q x Mt'/\(∀j,j∈Mt->j∈Mt')/\i∈Mt'/\((∀i,i∈Mt->i∈St)->(∀i,i∈Mt'->i∈St')):=by grind [a4q,uZ,a6s.at]
def Cur(x:Hp)(n:Nat)(t:Value)(bn on gk:Nat)(Mt St:List Nat):Prop:=(t=.pointer none/\St=[]/\a8w x Mt [] none)\/∃j,t=ptr bn (on+j*2)/\j∈Mt/\a8w x Mt St (some j)/\2*(n-Mt.length)+St.length+1<=gk
theorem c1g(x:Hp)(b:Nat)(w:World){ac:Nat->Option Addr}(y z:Nat)(h:VNt w b x ar kr ac (some (aA y z)) kn)(r2:R2 x)(r4:R4 x)(K:x.A.length<=8000)(an:∀i,i<x.A.length->(x.c i).F.length<=200)
  (az:∀w1,VNt w1 b x ar kr ac (some (aA y z)) kn->Calls prog 102 #[pP b] w1 λe w'=>∃(g:Option Addr) (cap:Nat) (D:List Nat),Hid (e=.returned (.slice g D.length cap))/\Hid (a6s x w1 w' g y z D)/\Ext w1 w') :
  Calls prog 71 #[pP b] w λe w'=>e=.returned (Value.map (some w.heap.size))/\∃Mt:List Nat,a3p w' w.heap.size y (Mt.map (λi=>z+i*2))/\w.heap.size<w'.heap.size/\Hid (∀i,i∈Mt↔uZ x i)/\Ext w w':=by
 have HV:=uU h;have Q2:=uU r2;have Q4:=uU r4;have SP:=uU az;go_enter func71,ntmps71;go_wp2_with fail;refine(d0s x b _ y z HV Q2 Q4 K).mono ?_;rintro e w1 ⟨rfl,v1,M1,S1,aq,i1,x1⟩;have W1:=uU aq;go_wp2_with fail;refine(SP _ (HV.ext x1)).mono ?_;rintro e w2 ⟨g,cap,D,rfl,O,aj⟩;have x2:=x1.trans aj;have A0:=uU (And.intro (W1.ext aj) (O.at W1));have bd:D.length<=8000:=O.2.1;have LI:=uU O.2.2;go_wp2_with fail;go_loopw [14] (λi wr=>∃(k:Nat) (v:Value) (Mt B:List Nat),k<=D.length/\i=iv k/\dV wr w.heap.size (w.heap.size+2) b w.heap.size y z x.A.length v Mt B/\Hid (a4q x Mt/\a6r x x.B.length Mt/\(∀i,i∈Mt->i∈B)/\∀j (h:j<D.length),j<k->D[j]∈Mt)/\Hid (b5d wr g (w.heap.size+2) w.heap.size v y z D)/\Ext w wr) (λi _=>D.length-(intOf i).toNat)
 case atStart=>exact⟨0,v1,M1,S1,Nat.zero_le _,rfl,A0.1,⟨i1.1,i1.2.1,i1.2.2,λj _ S=>by omega⟩,A0.2,x2⟩
 case round=>
  obtain⟨k,v,Mt,B,hk,rfl,Y,d,ai,r⟩:=hrel;have E:=uU Y;by_cases af:k<D.length
  ·obtain⟨gb,go,hg,gc,g1,g2,g3⟩:=ai k af;subst hg;have bk:(0:Int)<=(k:Int):=by omega
   have bf:(k:Int)<(D.length:Int):=by omega
   have HI:=uU ((LI D[k]).1 (List.getElem_mem af));go_wp2_with fail;refine(b0k w.heap.size (w.heap.size+2) b w.heap.size y z x.A.length D[k] v Mt B _ E HI.1 r.size K).mono ?_;rintro e Q ⟨rfl,v',M',S',A,ha,J⟩
   have R:=uU (show dV Q w.heap.size (w.heap.size+2) b w.heap.size y z x.A.length v' M' S'/\(a4q x M'/\a6r x x.B.length M'/\(∀i,i∈M'->i∈S')/\∀j (h:j<D.length),j<k+1->D[j]∈M')/\b5d Q (some (aA gb go)) (w.heap.size+2) w.heap.size v' y z D/\Ext w Q from by
    have hq:=d.1.meet (uZ.U D[k] HI.1 (a0a Q2 _ HI.1 HI.2) HI.2) ha;refine⟨A,⟨hq.1,λj S ag e=>hq.2.1 _ (d.2.1 j S ag e),hq.2.2.2 d.2.2.1,λj S ag=>?_⟩,ai.step J,E.kext J r⟩;by_cases q:j=k
    ·subst q;exact hq.2.2.1
    ·exact hq.2.1 _ (d.2.2.2 j S (by omega)))
   go_wp2;go_roundw
   case rel=>exact⟨k+1,v',M',S',by omega,by go_num,R.1,R.2.1,R.2.2.1,R.2.2.2⟩
   case measure=>simp [intOf];omega
  ·have bj:k=D.length:=by omega
   have I0:=uU (show a8w x Mt B none from⟨d.1,d.2.1,λi hi hs=>by
    obtain⟨j,S,e⟩:=List.getElem_of_mem ((LI i).2 ⟨hi,hs⟩);have:=d.2.2.2 j S (by omega);rw[e] at this;exact this,λi hi=>.inl (d.2.2.1 i hi)⟩)
   go_wp2_with fail;refine(b0m w.heap.size (w.heap.size+2) b w.heap.size y z x.A.length v Mt B _ E K).mono ?_;rintro e Q ⟨t,v3,T,rfl,A,ht,J⟩;have bb:=E.len
   have R:=uU (show dV Q w.heap.size (w.heap.size+2) b w.heap.size y z x.A.length v3 Mt T/\Cur x x.A.length t y z (3*x.A.length+1) Mt T/\Ext w Q from by
    refine⟨A,?_,E.kext J r⟩;rcases uH ht with⟨e,L,e2⟩ | ⟨j,e,L⟩
    ·have:=uH I0;rw[L] at this;exact .inl ⟨e,e2,this⟩
    ·have I:=uH I0;rw[L] at I;have hl:=A.len;exact .inr ⟨j,e,E.sub j (by rw[L];simp),I.take,by omega⟩)
   go_wp2_with fail
   go_loopg [6] (3*x.A.length+1) (λgk t wr=>∃(v:Value) (Mt B:List Nat),dV wr w.heap.size (w.heap.size+2) b w.heap.size y z x.A.length v Mt B/\Hid (Cur x x.A.length t y z gk Mt B)/\Ext w wr)
   case atStart=>exact⟨v3,Mt,T,R.1,R.2.1,R.2.2⟩
   case round=>
    obtain⟨v,Mt,B,Y,ak,r⟩:=hrel;have E:=uU Y;rcases uH ak with⟨rfl,rfl,I⟩ | ⟨j,rfl,S,I,aa⟩
    ·have c1:=Y.c1;have F:=uU (And.intro Y.m (And.intro Y.rlt.2 I.done));go_wp2;go_ret;exact⟨rfl,Mt,F.1,F.2.1,F.2.2,r⟩
    ·have Z:j<x.A.length:=Y.rg j S;have GD:=uU ((I.only j S).good Q2 Q4);have RJ:=uU (I.only j S);obtain⟨bc,oc,ap,kp,L,C⟩:=HV.H.cell j Z;obtain⟨bi,ba,bg,be,e2,e3,m0,aw⟩:=HV.N j Z;rw[L] at e3;cases e2;cases e3;have p7:=r.keep C.p7;have m1:=r.keep aw;have lp:=C.lp;have h2:=an j Z;have HP:=uU C.P;have I1:=uU (And.intro I aa);have B0:=uU r;obtain⟨WO,au⟩:∃W,W=wr:=⟨_,rfl⟩;subst au;go_wp2_with fail;go_loopw [36] (λi wi=>∃(l:Nat) (v:Value) (Mt B:List Nat),l<=(x.c j).F.length/\i=iv l/\dV wi w.heap.size (w.heap.size+2) b w.heap.size y z x.A.length v Mt B/\Hid (a8w x Mt B (some j)/\a3c x Mt j l/\2*(x.A.length-Mt.length)+B.length+1<=gk)/\Ext w wi) (λi _=>(x.c j).F.length-(intOf i).toNat)
     case atStart=>exact⟨0,v,Mt,B,Nat.zero_le _,rfl,E,⟨I1.1,(λp _ h=>by omega),I1.2⟩,B0⟩
     case round=>
      obtain⟨l,v,Mt,B,hl,rfl,Y,d,r⟩:=hrel;have E:=uU Y;by_cases X:l<(x.c j).F.length
      ·obtain⟨b2,o2,rfl,q0,q1,q2,q3,q4,q5⟩:=uH HP l X;have e0:=r.keep q0;have L:=r.keep q1;have e2:=r.keep q2;have e3:=r.keep q3;have e4:=r.keep q4;have e5:=r.keep q5;have bh:(0:Int)<=(l:Int):=by omega
       have bl:(l:Int)<((x.c j).F.length:Int):=by omega
       have xa:=(Ext.refl wr).alloc (.cells #[iv ((x.c j).p l).key.k,iv ((x.c j).p l).key.n,iv ((x.c j).p l).key.a,iv ((x.c j).p l).val.k,iv ((x.c j).p l).val.n,iv ((x.c j).p l).val.a] 154);have MK:=uU (a0j Q2 Q4 j l GD X);go_wp2_with fail;refine(a4h x ((x.c j).p l).key b _ y z (HV.ext (r.trans xa)).f Q2 MK.1).mono ?_;rintro e w2 ⟨t2,rfl,ay,ae⟩;have x2:=xa.trans ae;have HT:=uU ay;have u:=λ(o:Nat) (v:Value) (hc:(wr.alloc (.cells #[iv ((x.c j).p l).key.k,iv ((x.c j).p l).key.n,iv ((x.c j).p l).key.a,iv ((x.c j).p l).val.k,iv ((x.c j).p l).val.n,iv ((x.c j).p l).val.a] 154)).cell? (aA wr.heap.size o)=some v)=>ae.keep hc
       have u3:=u 3 _ (by simp [go_sem];rfl);have u4:=u 4 _ (by simp [go_sem];rfl);have u5:=u 5 _ (by simp [go_sem];rfl);go_wp2_with fail;refine(a8m x ((x.c j).p l).key w.heap.size (w.heap.size+2) b w.heap.size y z t2 v Mt B _ (E.ext x2) MK.1 HT (r.trans x2).size K).mono ?_;rintro e Q ⟨rfl,v3,M3,T,A,V,ad⟩;have am:wr.heap.size<w2.heap.size:=uL u3
       have ab:wr.heap.size≠w.heap.size+2/\wr.heap.size≠w.heap.size/\v.ownBlock≠some wr.heap.size:=by
        have:=E.rlt;exact⟨by omega,by omega,λe=>by have:=(E.s.lt _ e).2;omega⟩
       have kb:=ad.block wr.heap.size am ab.1 ab.2.1 ab.2.2;have y3:=(World.cell?_of_block (a:=(aA wr.heap.size 3)) kb).trans u3;have y4:=(World.cell?_of_block (a:=(aA wr.heap.size 4)) kb).trans u4;have y5:=(World.cell?_of_block (a:=(aA wr.heap.size 5)) kb).trans u5;have B3:=(E.ext x2).kext ad (r.trans x2);have W3:=uU A;have A3:=uU (And.intro (d.1.add V (λe=>uZ.key j l RJ X e)) (And.intro (d.2.1.sub V.sub.1) (And.intro (V.has) (show 2*(x.A.length-M3.length)+T.length+1<=gk by have:=V.weigh;have:=d.2.2;have:=A.len;omega))));go_wp2_with fail;refine(a4h x ((x.c j).p l).val b _ y z (HV.ext B3).f Q2 MK.2).mono ?_;rintro e w4 ⟨t4,rfl,ao,U⟩;have HT:=uU ao;go_wp2_with fail;refine(a8m x ((x.c j).p l).val w.heap.size (w.heap.size+2) b w.heap.size y z t4 v3 M3 T _ (W3.ext U) MK.2 HT (B3.trans U).size K).mono ?_;rintro e w5 ⟨rfl,v5,M5,S5,al,M,ax⟩;have B5:=(W3.ext U).kext ax (B3.trans U);have W5:=uU al
       have A5:=uU (show a8w x M5 S5 (some j)/\a3c x M5 j (l+1)/\2*(x.A.length-M5.length)+S5.length+1<=gk from
        ⟨A3.1.add M (λe=>uZ.val j l RJ X e),λp hp bm=>by
         by_cases q:p=l
         ·subst q;exact⟨λe=>M.sub.1 _ (A3.2.2.1 e),M.has⟩
         ·exact(A3.2.1.sub M.sub.1) p hp (by omega),by have:=M.weigh;have:=A3.2.2.2;have:=al.len;omega⟩)
       go_wp2;go_roundw
       case rel=>exact⟨l+1,v5,M5,S5,by omega,by go_num,W5,A5,B5⟩
       case measure=>simp [intOf];omega
      ·have av:l=(x.c j).F.length:=by omega
       have I2:=uU (And.intro (d.1.shut (by have:=d.2.1;rw[av] at this;exact this)) d.2.2);go_wp2_with fail;refine(b0m w.heap.size (w.heap.size+2) b w.heap.size y z x.A.length v Mt B _ E K).mono ?_;rintro e Q ⟨t,v3,T,rfl,A,ht,J⟩;obtain⟨ah,aa⟩:∃g,gk=g+1:=⟨gk-1,by have:=I2.2;omega⟩
       have R:=uU (show dV Q w.heap.size (w.heap.size+2) b w.heap.size y z x.A.length v3 Mt T/\Cur x x.A.length t y z ah Mt T/\Ext w Q from by
        refine⟨A,?_,E.kext J r⟩;have I:=uH I2;rcases uH ht with⟨e,L,e2⟩ | ⟨j,e,L⟩
        ·rw[L] at I;exact .inl ⟨e,e2,I.1⟩
        ·have hm:j∈Mt:=E.sub j (by rw[L];simp);rw[L] at I;have hl:=I.2;simp only [List.length_append,List.length_singleton] at hl;exact .inr ⟨j,e,hm,I.1.take,by omega⟩)
       have G:=uU aa;go_wp2_with fail
       go_roundg ah
       case measure=>have:=uH G;omega
       case rel=>exact⟨v3,Mt,T,R.1,R.2.1,R.2.2⟩
theorem Ovr.hto(o:Ovr x y φ)(s:Snd x)(h:dE x i):dE y (φ i):=by
 have:=h (λi=>qD x i/\dE y (φ i)) (λk c e=>⟨(a2b s.r2 s.r4 k c e).2.2.2.2,?_⟩) (λi l f=>?_) (λj p a b u e=>⟨((a0j s.r2 s.r4 j p a.1 b).1 e).2.2.2.2,?_⟩) (λj p a b t v e=>⟨((a0j s.r2 s.r4 j p a.1 b).2 e).2.2.2.2,?_⟩)
 ·exact this.2
 ·have m:k<y.B.length:=by rw[o.rl];exact c
  have r:=o.rg k c m;rw[<-r.2 e];exact dE.reg k m (by rw[r.1];exact e)
 ·have n:=a0q s.r4 i l (a0a s.r2 i l (.inr f)) (.inr f);have r:=o.g i n;exact⟨n,dE.due _ r.2.1 (by rw[r.2.2.1];exact f)⟩
 ·have r:=o.ky j p a.1 b;rw[<-r.2 e];exact dE.key _ p a.2 (by rw[(o.g j a.1).2.2.2];exact b) (by unfold SK at u ⊢;rw[o.wk j a.1];exact u) (by rw[r.1];exact e)
 ·have r:=o.vl j p a.1 b;have q:=o.ky j p a.1 b;rw[<-r.2 e];exact dE.val _ p a.2 (by rw[(o.g j a.1).2.2.2];exact b) (by unfold SV at t ⊢;rw[o.wk j a.1];exact t) (λd=>by rw[q.1] at d;rw[q.2 d];exact(v d).2) (by rw[r.1];exact e)
theorem Ovr.hfrom(o:Ovr x y φ)(s:Snd x)(t:Snd y)(h:dE y j):∃i,dE x i/\j = φ i:=by
 refine h (λj=>∃i,dE x i/\j = φ i) (λk u e=>?_) (λj d n=>?_) (λj p d c w e=>?_) (λj p d c v A e=>?_)
 ·have l:k<x.B.length:=by rw[<-o.rl];exact u
  have r:=o.rg k l u;rw[r.1] at e;exact⟨_,dE.reg k l e,r.2 e⟩
 ·obtain⟨i,a,rfl⟩:=o.b j (a0q t.r4 j d (a0a t.r2 j d (.inr n)) (.inr n));exact⟨i,dE.due i a.1 (by rw[<-(o.g i a).2.2.1];exact n),rfl⟩
 ·obtain⟨i,f,rfl⟩:=d;have a:=dE.good s.r2 s.r4 f;rw[(o.g i a).2.2.2] at c;have r:=o.ky i p a c;rw[r.1] at e;exact⟨_,dE.key i p f c (by unfold SK at w ⊢;rw[<-o.wk i a];exact w) e,r.2 e⟩
 ·obtain⟨i,f,rfl⟩:=d;have a:=dE.good s.r2 s.r4 f;rw[(o.g i a).2.2.2] at c;have r:=o.vl i p a c;have q:=o.ky i p a c;rw[r.1] at e;refine⟨_,dE.val i p f c (by unfold SV at v ⊢;rw[<-o.wk i a];exact v) (λm=>?_) e,r.2 e⟩;obtain⟨B,l,z⟩:=A (by rw[q.1];exact m);rw[q.2 m] at z;have:=o.ij _ _ ((a0j s.r2 s.r4 i p a c).1 m).2.2.2.2 (dE.good s.r2 s.r4 l) z;rw[this];exact l
def im(φ:Nat->Nat)(p:Nat->Bool):Nat->Nat->Bool
 | 0,_=>false
 | k+1,j=>im φ p k j || (p k && j == φ k)
theorem c5n(φ:Nat->Nat)(p:Nat->Bool):∀k j,im φ p k j=true↔∃i,i<k/\p i=true/\j = φ i
 | 0,j=>by simp [im]
 | k+1,j=>by
  unfold im;rw[Bool.or_eq_true,c5n φ p k j,Bool.and_eq_true,beq_iff_eq];constructor
  ·grind [Cl.p,im]
  ·grind [Hp.c,Cl.p,im]
theorem c2z{x y:Hp}{φ:Nat->Nat}(o:Ovr x y φ){p q:Nat->Bool}(d:∀i,p i=true->qD x i)(m:∀j,q j=true↔∃i,p i=true/\j = φ i):eY y q y.A.length=eY x p x.A.length:=by
 have b:∀k,S0 (λj=>if im φ p k j=true then 1+(y.c j).F.length else 0) y.A.length=S0 (λi=>if p i then 1+(x.c i).F.length else 0) k:=λk=>by
  induction k with
  | zero=>exact(a8c _ (λj _=>by simp [im])).trans (c6k _)
  | succ k ih=>
   show _=S0 _ k+(if p k=true then _ else _);by_cases e:p k=true
   ·have g:=d k e
    have c:∀j,j<y.A.length->(if im φ p (k+1) j=true then 1+(y.c j).F.length else 0)=(λj=>(if im φ p k j=true then 1+(y.c j).F.length else 0)+(if j = φ k then 1+(y.c j).F.length else 0)) j:=λj _=>by
     show(if (im φ p k j || (p k && j == φ k))=true then _ else _)=(if im φ p k j=true then _ else _)+(if j = φ k then _ else _);by_cases a:j = φ k
     ·have n:im φ p k j=false:=by
       cases h:im φ p k j
       ·rfl
       ·obtain⟨i,l,f,q⟩:=(c5n φ p k j).1 h;have:=o.ij i k (d i f) g (q.symm.trans a);omega
      rw[n,e,if_pos a];simp [a]
     ·rw[if_neg a,e];simp [a]
    rw[a8c _ c,d2w,ih,c2v,if_pos (o.g k g).2.1,(o.g k g).2.2.2,if_pos e]
   ·grind [Hp.c,im,Cl.p,a8c,qD,eY]
 rw[c5k,c5k,<-b x.A.length];refine a8c _ (λj _=>?_)
 have:q j=im φ p x.A.length j:=by grind [im,Cl.p,c5n,qD,eY]
 rw[this]
theorem Ovr.lives(o:Ovr x y φ)(s:Snd x)(t:Snd y){r:Nat}(l:a1z x r):a1z y r:=by
 classical
 obtain⟨_,p,c,rfl⟩ | ⟨d,_⟩:=l
 ·refine .inl ⟨t.ok,λj=>decide (uZ y j),λj=>by simp,?_⟩;refine(c2z o (λi h=>uZ.good s.r2 s.r4 ((c i).1 h)) (λj=>?_)).symm;rw[decide_eq_true_eq];exact⟨λh=>by obtain⟨i,a,b⟩:=o.from s t h;exact⟨i,(c i).2 a,b⟩,λ⟨i,a,b⟩=>by rw[b];exact o.to s ((c i).1 a)⟩
 ·exact absurd s.ok d
theorem Ovr.cnt(o:Ovr x y φ)(s:Snd x)(t:Snd y){r:Nat}(l:a5t x r):a5t y r:=by
 classical
 obtain⟨_,p,c,rfl⟩ | ⟨d,_⟩:=l
 ·refine .inl ⟨t.ok,λj=>decide (dE y j),λj=>by simp,?_⟩;refine(c2z o (λi h=>dE.good s.r2 s.r4 ((c i).1 h)) (λj=>?_)).symm;rw[decide_eq_true_eq];exact⟨λh=>by obtain⟨i,a,b⟩:=o.hfrom s t h;exact⟨i,(c i).2 a,b⟩,λ⟨i,a,b⟩=>by rw[b];exact o.hto s ((c i).1 a)⟩
 ·exact absurd s.ok d
theorem cnt_ex(x:Hp)(s:Snd x):∃n,a5t x n:=by
 classical
 exact⟨_,.inl ⟨s.ok,λi=>decide (dE x i),λi=>by simp,rfl⟩⟩
theorem cnt_le{x:Hp}(s:Snd x){c r:Nat}(h:a5t x c)(l:a1z x r):c<=r:=by
 obtain⟨_,p,b,rfl⟩ | ⟨a,_⟩:=h
 ·obtain⟨_,q,d,rfl⟩ | ⟨a,_⟩:=l
  ·have:∀k,eY x p k<=eY x q k:=λk=>by
    induction k with
    | zero=>exact Nat.le_refl _
    | succ k ih=>
     unfold eY;by_cases e:p k=true
     ·rw[if_pos e,if_pos ((d k).2 (dE.reached s.r2 ((b k).1 e)))];omega
     ·rw[if_neg e];omega
   exact this _
  ·exact absurd s.ok a
 ·exact absurd s.ok a
end Go.Proofs.YtddkhnclmeikfaaGreat
