import Derived.Test.YtddkhnclmeikfaaGreatVn
set_option maxRecDepth 100000
set_option maxHeartbeats 40000000
namespace Go.Proofs.YtddkhnclmeikfaaGreat
open Go.RowKit Tryz
attribute [local go_sem ↓] Go.wp_at_zero Go.wp_at_succ
variable{ar ac ag an:Option Addr}{kr kc kg kn:Nat}
def qV(c:Cl):Bool:=(c.st == 1) && (c.J == 0)
def a0w(c:Cl):Bool:=(c.U == 1) || (c.U == 2)
theorem a3k{c:Cl}:a0w c=true↔hQ c:=by simp [a0w,hQ]
theorem a5g(c:Cl)(a q bc r:Nat)(b:Option Addr)(d:Nat)(w:World)(i:w.cell? (aA a (q+1))=some (pQ bc r))(h:CAt w bc r c b d):
  Calls prog 146 #[pQ a q] w λe w'=>e=.returned (.bool (qV c))/\w'=w:=by
 have g:=h.p0;have f:=h.p5;cases t:(c.st == 1)
 all_goals
  go_enter func146,ntmps146
  go_wp2
  go_ret;exact⟨by simp [qV,t],rfl⟩
theorem a3a(c:Cl)(a q bc r:Nat)(b:Option Addr)(d:Nat)(w:World)(g:w.cell? (aA a (q+1))=some (pQ bc r))(h:CAt w bc r c b d):
  Calls prog 166 #[pQ a q] w λe w'=>e=.returned (.bool (a0w c))/\w'=w:=by
 have f:=h.p3;cases t:(c.U == 1)
 all_goals
  go_enter func166,ntmps166
  go_wp2
  go_ret;exact⟨by simp [a0w,t],rfl⟩
def a2a(x:Hp):Bool:=(x.E == 1) || (x.E == 2)
theorem b3b(x:Hp)(b:Nat)(w:World)(a:w.cell? (aA b 5)=some (iv x.E)):
  Calls prog 145 #[pP b] w λe w'=>e=.returned (.bool (a2a x))/\w'=w:=by
 cases t:(x.E == 1)
 all_goals
  go_enter func145,ntmps145
  go_wp2
  go_ret;exact⟨by simp [a2a,t],rfl⟩
theorem d0c(c:Cl)(a q bc r:Nat)(b:Option Addr)(d:Nat)(s:Bool)(g:qV c=s)(w:World)(f:w.cell? (aA a (q+1))=some (pQ bc r))(h:CAt w bc r c b d):
  Calls prog 146 #[pQ a q] w λe w'=>e=.returned (.bool s)/\w'=w:=by grind [Hp.c,qV,HAt.cell,a5g]
theorem b4r(x:Hp)(b i:Nat)(w:World)(h:VAt w b x ar kr ac kc ag kg an kn)(k:i<x.A.length)(d f:Nat)(D:an=some (aA d f)):
  Calls prog 177 #[pP b,pQ d (f+i*2)] w λe w'=>e=.returned (.bool (a0p x i))/\Ext w w':=by
 obtain⟨B,p,l,r,g,rfl,F,o⟩:=h.N i k;rw[D] at g;cases g;obtain⟨u,A,m,t,v,C⟩:=h.H.cell i k;cases v;have E:=h.H.c5;have G:=h.H.c6;have j:=uU (λn s (y:qV (x.c i)=s)=>d0c (x.c i) d (f+i*2) l (r+i*8) m t s y (w.drewN n) (((Ext.refl w).drewN n).keep o) (C.ext ((Ext.refl w).drewN n)));cases z:(x.E == 3)
 ·go_enter func177,ntmps177;go_wp2_with fail;go_quiet (fail);go_wp2;go_ret;exact⟨by simp [a0p,z],(Ext.refl w).drewN _⟩
 ·cases a:qV (x.c i)
  ·go_enter func177,ntmps177;go_wp2_with fail;go_quiet ((go_at_call 146;exact Calls.quiet_of_same (j _ _ a)));go_wp2;go_ret;exact⟨by unfold qV at a;unfold a0p;cases q:((x.c i).st == 1) <;> simp_all,(Ext.refl w).drewN _⟩
  ·go_enter func177,ntmps177;go_wp2_with fail;go_quiet ((go_at_call 146;exact Calls.quiet_of_same (j _ _ a)));go_wp2;go_ret;exact⟨by unfold qV at a;unfold a0p;simp_all,(Ext.refl w).drewN _⟩
def limB(x:Hp):Bool:=cQ x.M 1 4000 && ((x.B.length:Int) == 16) && decide ((x.A.length:Int)<=2*x.M) && decide ((x.D.length:Int)<=(x.A.length:Int)) && cQ x.born 0 1000000000 && cQ x.Q 0 1000000000 && cQ x.S 0 1000000000 && cQ x.per 0 64 && cQ x.V 0 4000 && cQ x.E 0 6 && cQ x.I 0 (x.A.length:Int) && cQ x.sub 0 200
theorem d0o(x:Hp):limB x=true↔R1 x:=by
 simp only [limB,cQ,Bool.and_eq_true,decide_eq_true_eq,beq_iff_eq];constructor
 ·rintro h;exact⟨by omega,by omega,by omega,by omega,by omega,by omega,by omega,by omega,by omega,by omega,by omega,by omega⟩
 ·rintro⟨_,_,_,_,_,_,_,_,_,_,_,_⟩;omega
theorem a4g(x:Hp)(b:Nat)(w:World)(h:HAt w b x ar kr ac kc ag kg):
  Calls prog 106 #[.pointer (some ⟨b,0,none⟩)] w λe w'=>∃r:Bool,Hid (e=.returned (.bool r))/\(r=true↔R1 x)/\Ext w w':=by
 have key:∀r,limB x=r->Calls prog 106 #[.pointer (some ⟨b,0,none⟩)] w λe w'=>e=.returned (.bool r)/\Ext w w':=by
  intro r hr;obtain⟨c0,c1,c2,c3,c4,c5,c6,c7,c8,c9,c10,c11,c12,lr,lc,lg,R,C,G⟩:=h;unfold limB at hr;cases q0:cQ x.M 1 4000;rotate_left;have p0:=a0e q0;have p1:(0:Int)<=x.M:=by omega
  cases q1:((x.B.length:Int) == 16);rotate_left;have q1b:(x.B.length:Int)=16:=by simpa using q1
  cases q2:decide ((x.A.length:Int)<=2*x.M);rotate_left;have q2b:(x.A.length:Int)<=2*x.M:=of_decide_eq_true q2;cases q3:decide ((x.D.length:Int)<=(x.A.length:Int));rotate_left;have q3b:x.D.length<=x.A.length:=by have:=of_decide_eq_true q3;omega
  cases q4:cQ x.born 0 1000000000;rotate_left;cases q5:cQ x.Q 0 1000000000;rotate_left;cases q6:cQ x.S 0 1000000000;rotate_left;cases q7:cQ x.per 0 64;rotate_left;cases q8:cQ x.V 0 4000;rotate_left;cases q9:cQ x.E 0 6;rotate_left;cases q10:cQ x.I 0 (x.A.length:Int);rotate_left;cases q11:cQ x.sub 0 200
  all_goals
   simp only [*,Bool.false_and,Bool.and_false,Bool.and_true] at hr;subst hr
   try have q3n:decide (x.D.length<=x.A.length)=false:=decide_eq_false (by have:=of_decide_eq_false q3;omega)
   as_aux_lemma=>
    go_enter func106,ntmps106;go_wp2_with fail;simp only [List.append];refine wp_region_quiet_lit (by kernel_rfl) lim_lex ?_
    repeat (go_big_quiet_step ((go_at_call 78;first | (refine Calls.quiet_of_same (a0h _ _ _ true ?_ _);assumption) | (refine Calls.quiet_of_same (a0h _ _ _ false ?_ _);assumption))))
    refine wpQuiet_nil ?_;intro _ hw';obtain⟨nq,hw''⟩:=hw';subst hw''
    go_wp2
    go_ret;exact⟨rfl,Ext.drewN (Ext.refl w) _⟩
 exact(key _ rfl).mono λ_ _ h=>⟨_,h.1,d0o x,h.2⟩
theorem b1s(x:Hp)(b:Nat)(y:Wd)(l:Bool)(w:World)(h:VAt w b x ar kr ac kc ag kg an kn):
  Calls prog 176 #[pP b,y.v,.bool l] w λe w'=>e=.returned (.bool (eV x y (!l)))/\Ext w w':=by
 go_enter func176,ntmps176;go_wp2_with fail;refine(a9j y b x.A.length an kn _ (Ext.keep ((Ext.refl w).alloc _) h.n13) h.H.lc).mono ?_;rintro e B ⟨rfl,g⟩;have q:Ext w B:=Ext.trans ((Ext.refl w).alloc _) g;have R:=g.keep (b:=w.heap.size) (o:=0) (v:=iv y.k) (by simp [go_sem]);have V:=g.keep (b:=w.heap.size) (o:=1) (v:=iv y.n) (by simp [go_sem]);have J:=g.keep (b:=w.heap.size) (o:=2) (v:=iv y.a) (by simp [go_sem]);cases s:dY y x.A.length
 ·have E:=uU (show eV x y (!l)=false by simp [eV,s]);go_wp2_with fail;go_ret;exact⟨by rw[uH E];rfl,q⟩
 cases p:(y.k == 2)
 ·have E:=uU (show eV x y (!l)=true by simp [eV,s,p]);go_wp2_with fail;refine(a8i y b _ p).mono ?_;rintro e t ⟨rfl,d⟩;go_wp2_with fail;go_ret;exact⟨by rw[uH E];rfl,q.trans d⟩
 have P:y.k=2:=by simpa using p
 have L:=a0n.1 s;unfold uW at L;have O:0<=y.a/\y.a<x.A.length:=by omega
 have r:=uU (show eV x y (!l)=(if (x.c y.a.toNat).st=2 then !l else ((x.c y.a.toNat).st == 1) && !a0p x y.a.toNat) by simp [eV,s,P]);obtain⟨i,F⟩:=Int.eq_ofNat_of_zero_le O.1;rw[F] at r J;rw[Int.toNat_natCast] at r;have j:i<x.A.length:=by omega
 clear P L O F;have m:=h.ext q;obtain⟨G,M,Y,oc,rfl,rfl,T,D⟩:=m.N i j;obtain⟨U,X,Z,kp,W,C⟩:=m.H.cell i j;cases W;have Q:=uU (λw' (e:Ext B w')=>b4r x b i w' (m.ext e) j G M rfl);have S:=uU (a3b y b x.A.length G M kn i B p m.n13 j);clear h m;go_wp2_with fail;refine S.mono ?_;rintro e t ⟨rfl,d⟩;have u:Ext w t:=q.trans d;have u1:=d.keep D;have r0:=d.keep C.p0;have z:=uU (Q t d);clear C T D R V J;cases I:((x.c i).st == 2)
 ·have f:¬(x.c i).st=2:=by simpa using I
  have E:=uU (show eV x y (!l)=(((x.c i).st == 1) && !a0p x i) by rw[uH r,if_neg f]);cases K:((x.c i).st == 1)
  ·go_wp2_with fail;go_ret;exact⟨by rw[uH E,K];rfl,u⟩
  ·go_wp2_with (go_at_call 177;refine z.mono ?_;rintro e w3 ⟨rfl,A⟩);go_ret;exact⟨by rw[uH E,K];simp,u.trans A⟩
 ·have f:(x.c i).st=2:=by simpa using I
  have E:=uU (show eV x y (!l) = !l by rw[uH r,if_pos f]);clear f;go_wp2_with fail;go_ret;exact⟨by rw[uH E];rfl,u⟩
theorem b4s(x:Hp)(b k:Nat)(w:World)(h:VAt w b x ar kr ac kc ag kg an kn)(t:k<x.A.length)(F G:Nat)(ha:an=some (aA F G)):
  Calls prog 178 #[pP b,pQ F (G+k*2)] w λe w'=>∃r:Bool,e=.returned (.bool r)/\(r=true↔(∀l,l<(x.c k).F.length->uW ((x.c k).p l).key x.A.length/\uW ((x.c k).p l).val x.A.length)/\¬hQ (x.c k))/\Ext w w':=by
 obtain⟨ae,V,R,oc,z,rfl,m0,T⟩:=h.N k t;rw[ha] at z;cases z;obtain⟨aa,ab,W,kp,K,C⟩:=h.H.cell k t;cases K;have p7:=C.p7;have lp:=C.lp;have HP:=uU C.P;have O:=uU C;go_enter func178,ntmps178;go_wp2_with fail;go_loopw [15] (λi wr=>∃l:Nat,l<=(x.c k).F.length/\i=iv l/\(∀j,j<l->uW ((x.c k).p j).key x.A.length/\uW ((x.c k).p j).val x.A.length)/\Ext w wr) (λi _=>(x.c k).F.length-(intOf i).toNat)
 case atStart=>exact⟨0,Nat.zero_le _,rfl,λj h=>by omega,Ext.refl _⟩
 case round=>
  obtain⟨l,hl,rfl,s,d⟩:=hrel;have J:=uU s;by_cases g:l<(x.c k).F.length
  ·obtain⟨b2,o2,rfl,X,q1,q2,Q,q4,q5⟩:=uH HP l g;have e0:=d.keep X;have z:=d.keep q1;have K:=d.keep q2;have e3:=d.keep Q;have e4:=d.keep q4;have e5:=d.keep q5;have U:(0:Int)<=(l:Int):=by omega
   have ad:(l:Int)<((x.c k).F.length:Int):=by omega
   have m:=d.alloc (.cells #[iv ((x.c k).p l).key.k,iv ((x.c k).p l).key.n,iv ((x.c k).p l).key.a,iv ((x.c k).p l).val.k,iv ((x.c k).p l).val.n,iv ((x.c k).p l).val.a] 154);go_wp2_with fail;refine(a9j ((x.c k).p l).key b x.A.length an kn _ (h.ext m).n13 h.H.lc).mono ?_;rintro e w3 ⟨rfl,q⟩;have y:=m.trans q;have u:=λ(o:Nat) (v:Value) (hc:(wr.alloc (.cells #[iv ((x.c k).p l).key.k,iv ((x.c k).p l).key.n,iv ((x.c k).p l).key.a,iv ((x.c k).p l).val.k,iv ((x.c k).p l).val.n,iv ((x.c k).p l).val.a] 154)).cell? (aA wr.heap.size o)=some v)=>q.keep hc
   have v3:=u 3 _ (by simp [go_sem];rfl);have v4:=u 4 _ (by simp [go_sem];rfl);have v5:=u 5 _ (by simp [go_sem];rfl);cases B:dY ((x.c k).p l).key x.A.length
   ·have N:=uU (show ¬((∀l,l<(x.c k).F.length->uW ((x.c k).p l).key x.A.length/\uW ((x.c k).p l).val x.A.length)/\¬hQ (x.c k)) from λr=>by
     have:=a0n.2 (r.1 l g).1;rw[this] at B;simp at B)
    go_wp2;go_ret
    first | (exact Or.inl ⟨rfl,N,y⟩) | (exact⟨false,rfl,⟨λf=>by simp at f,λr=>(N r).elim⟩,y⟩)
   ·go_wp2_with fail;refine(a9j ((x.c k).p l).val b x.A.length an kn _ (h.ext y).n13 h.H.lc).mono ?_;rintro e w4 ⟨rfl,E⟩;have D:=y.trans E;cases A:dY ((x.c k).p l).val x.A.length
    ·have N:=uU (show ¬((∀l,l<(x.c k).F.length->uW ((x.c k).p l).key x.A.length/\uW ((x.c k).p l).val x.A.length)/\¬hQ (x.c k)) from λr=>by
      have:=a0n.2 (r.1 l g).2;rw[this] at A;simp at A)
     go_wp2;go_ret
     first | (exact Or.inl ⟨rfl,N,D⟩) | (exact⟨false,rfl,⟨λf=>by simp at f,λr=>(N r).elim⟩,D⟩)
    ·have S:=uU (show ∀j,j<l+1->uW ((x.c k).p j).key x.A.length/\uW ((x.c k).p j).val x.A.length from λj hj=>by
      by_cases e:j=l
      ·subst e;exact⟨a0n.1 B,a0n.1 A⟩
      ·exact J j (by omega))
     go_wp2;go_roundw
     case rel=>exact⟨l+1,by omega,by go_num,S,D⟩
     case measure=>simp [intOf];omega
  ·have Y:=uU (show ∀l,l<(x.c k).F.length->uW ((x.c k).p l).key x.A.length/\uW ((x.c k).p l).val x.A.length from λj hj=>uH J j (by omega));have I:=uU (a3a (x.c k) F (G+k*2) R (oc+k*8) W kp wr (d.keep T) (O.ext d));cases L:a0w (x.c k)
   ·have Z:=uU (show(∀l,l<(x.c k).F.length->uW ((x.c k).p l).key x.A.length/\uW ((x.c k).p l).val x.A.length)/\¬hQ (x.c k) from⟨Y,λM=>by rw[<-a3k,L] at M;simp at M⟩);go_wp2_with (go_at_call 166;refine I.mono ?_;rintro e w' ⟨rfl,rfl⟩);go_ret
    first | (exact Or.inr ⟨by simp,Z,d⟩) | (exact⟨true,by simp,⟨λ_=>uH Z,λ_=>rfl⟩,d⟩)
   ·have N:=uU (show ¬((∀l,l<(x.c k).F.length->uW ((x.c k).p l).key x.A.length/\uW ((x.c k).p l).val x.A.length)/\¬hQ (x.c k)) from λr=>r.2 (a3k.1 L));go_wp2_with (go_at_call 166;refine I.mono ?_;rintro e w' ⟨rfl,rfl⟩);go_ret
    first | (exact Or.inl ⟨by simp,N,d⟩) | (exact⟨false,by simp,⟨λf=>by simp at f,λr=>(N r).elim⟩,d⟩)
end Go.Proofs.YtddkhnclmeikfaaGreat
