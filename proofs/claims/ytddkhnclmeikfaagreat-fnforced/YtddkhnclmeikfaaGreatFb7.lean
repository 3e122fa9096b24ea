import Derived.Test.YtddkhnclmeikfaaGreatFb5
namespace Go.Proofs.YtddkhnclmeikfaaGreat
open Go.RowKit
def Sti(R:Int)(g:List Wd)(T:List (List Pr))(A:Ak)(g':List Wd)(T':List (List Pr)):Prop:=
 (∃a,a<16∧A=ak 3 a 0 0∧g'=g.set a Wd0∧T'=T)∨
 (∃b c,b≤64∧c≤4000∧A=ak 23 0 b c∧g'=g∧T'=T)∨
 (∃a b c i,a<16∧b<16∧i<T.length∧c<(tI T i).length∧c<200∧(rI g b).k=2∧(rI g b).a=(i:Nat)∧A=ak 6 a b c∧g'=g.set a (pI (tI T i) c).val∧T'=T)∨
 (∃a b c i,a<16∧b<16∧i<T.length∧c<(tI T i).length∧c<200∧(rI g a).k=2∧(rI g a).a=(i:Nat)∧A=ak 8 a b c∧g'=g∧T'=putV T i c (rI g b))∨
 (∃(a c:Nat)(P:Nat→Prop)(M:Nat),a<16∧c≤199∧Rp g T.length P∧Kp T P∧T.length≤2000∧(∀i,i<T.length→(tI T i).length≤200)∧(∀q,Qin T.length q P→sumT T q T.length≤M)∧(M:Int)+(1+c)≤R∧A=ak 1 a 0 c∧g'=g.set a ⟨2,0,T.length⟩∧T'=T++[List.replicate c Pr0])
section
variable {R : Int} {g : List Wd} {T : List (List Pr)}
theorem Sti.nil{a:Nat}(h:a<16):Sti R g T (ak 3 a 0 0) (g.set a Wd0) T:=Or.inl ⟨a,h,rfl,rfl,rfl⟩
theorem Sti.pace{b c:Nat}(h:b≤64)(k:c≤4000):Sti R g T (ak 23 0 b c) g T:=Or.inr (Or.inl ⟨b,c,h,k,rfl,rfl,rfl⟩)
theorem Sti.get{a b c i:Nat}(h1:a<16)(h2:b<16)(h3:i<T.length)(h4:c<(tI T i).length)(h5:c<200)(h6:(rI g b).k=2)(h7:(rI g b).a=(i:Nat)):Sti R g T (ak 6 a b c) (g.set a (pI (tI T i) c).val) T:=Or.inr (Or.inr (Or.inl ⟨a,b,c,i,h1,h2,h3,h4,h5,h6,h7,rfl,rfl,rfl⟩))
theorem Sti.put{a b c i:Nat}(h1:a<16)(h2:b<16)(h3:i<T.length)(h4:c<(tI T i).length)(h5:c<200)(h6:(rI g a).k=2)(h7:(rI g a).a=(i:Nat)):Sti R g T (ak 8 a b c) g (putV T i c (rI g b)):=Or.inr (Or.inr (Or.inr (Or.inl ⟨a,b,c,i,h1,h2,h3,h4,h5,h6,h7,rfl,rfl,rfl⟩)))
theorem Sti.make{a c:Nat}(P:Nat→Prop)(M:Nat)(h1:a<16)(h2:c≤199)(h3:Rp g T.length P)(h4:Kp T P)(h5:T.length≤2000)(h6:∀i,i<T.length→(tI T i).length≤200)(h7:∀q,Qin T.length q P→sumT T q T.length≤M)(h8:(M:Int)+(1+c)≤R):Sti R g T (ak 1 a 0 c) (g.set a ⟨2,0,T.length⟩) (T++[List.replicate c Pr0]):=Or.inr (Or.inr (Or.inr (Or.inr ⟨a,c,P,M,h1,h2,h3,h4,h5,h6,h7,h8,rfl,rfl,rfl⟩)))
end
def Rni(R:Int):List Wd→List (List Pr)→List Ak→List Wd→List (List Pr)→Prop
 | g,T,[],g2,T2=>g2=g∧T2=T
 | g,T,A::L,g2,T2=>∃g1 T1,Sti R g T A g1 T1∧Rni R g1 T1 L g2 T2
theorem Rni.nil{R:Int}{g:List Wd}{T:List (List Pr)}:Rni R g T [] g T:=And.intro rfl rfl
theorem Rni.cons{R:Int}{g:List Wd}{T:List (List Pr)}{A:Ak}{g1:List Wd}{T1:List (List Pr)}{L:List Ak}{g2:List Wd}{T2:List (List Pr)}(s:Sti R g T A g1 T1)(k:Rni R g1 T1 L g2 T2):Rni R g T (A::L) g2 T2:=Exists.intro g1 (Exists.intro T1 (And.intro s k))
theorem Rni.app{R:Int}{g:List Wd}{T:List (List Pr)}{L:List Ak}{g1:List Wd}{T1:List (List Pr)}{L2:List Ak}{g2:List Wd}{T2:List (List Pr)}(h:Rni R g T L g1 T1)(k:Rni R g1 T1 L2 g2 T2):Rni R g T (L++L2) g2 T2:=by
 induction L generalizing g T with
 | nil=>obtain⟨rfl,rfl⟩:=h;exact k
 | cons A L ih=>obtain⟨_,_,s,r⟩:=h;exact .cons s (ih r)
def PT(t:Nat):Nat→Prop:=fun i=>i=0∨t≤i
structure Ji(g:List Wd)(T:List (List Pr))(t l:Nat):Prop where
 n:g.length=16
 r0:rI g 0=⟨2,0,0⟩
 r3:∀i,3≤i→(rI g i).k≠2
 z:0<T.length∧(tI T 0).length=4
 t1:t≤T.length
 rp:Rp g T.length (PT t)
 kp:Kp T (PT t)
 ln:∀i,i<T.length→(tI T i).length≤200
 sm:∀q,Qin T.length q (PT t)→sumT T q T.length≤5+l
 fr:∀i,i<16→Formed (rI g i) T.length
 fp:∀i,i<T.length→∀k,k<(tI T i).length→Formed (pI (tI T i) k).key T.length∧Formed (pI (tI T i) k).val T.length
theorem formed0(n:Nat):Formed Wd0 n:=.inl ⟨rfl,rfl,rfl⟩
theorem Formed.up{w:Wd}{n:Nat}(h:Formed w n):Formed w (n+1):=by unfold Formed at *;omega
section
variable {g : List Wd} {T : List (List Pr)} {t l : Nat}
theorem Ji.reg(h:Ji g T t l)(a:Nat)(ha:a<3)(a0:a≠0)(u:Wd)(fu:Formed u T.length)(hu:u.k=2→0≤u.a∧u.a<T.length∧PT t u.a.toNat):Ji (g.set a u) T t l:=by
 have e:=fun i=>rI_set g a u (by rw[h.n];omega) i
 refine⟨by rw[List.length_set];exact h.n,by rw[e,if_neg (by omega)];exact h.r0,fun i hi=>by rw[e,if_neg (by omega)];exact h.r3 i hi,h.z,h.t1,fun i hi=>?_,h.kp,h.ln,h.sm,fun i hi=>?_,h.fp⟩
 ·rw[e];by_cases c:i=a
  ·rw[if_pos c];exact hu
  ·rw[if_neg c];exact h.rp i hi
 ·rw[e];by_cases c:i=a
  ·rw[if_pos c];exact fu
  ·rw[if_neg c];exact h.fr i hi
theorem sumT_same(T T':List (List Pr))(q:Nat→Bool):∀n,(∀i,i<n→(tI T' i).length=(tI T i).length)→sumT T' q n=sumT T q n
 | 0,_=>rfl
 | n+1,h=>by simp only [sumT];rw[sumT_same T T' q n (fun i hi=>h i (by omega)),h n (by omega)]
theorem putV_all(T:List (List Pr))(i c:Nat)(u:Wd):(putV T i c u).length=T.length:=by unfold putV;simp
theorem Ji.put(h:Ji g T t l)(i c:Nat)(hi:i<T.length)(hc:c<(tI T i).length)(u:Wd)(fu:Formed u T.length)(hu:u.k=2→0≤u.a∧u.a<T.length∧PT t u.a.toNat):Ji g (putV T i c u) t l:=by
 have ll:=putV_len T i c u hi;have la:=putV_all T i c u;refine⟨h.n,h.r0,h.r3,⟨by rw[la];exact h.z.1,by rw[ll];exact h.z.2⟩,by rw[la];exact h.t1,by rw[la];exact h.rp,fun j hj pj k hk=>?_,fun j hj=>by rw[ll];exact h.ln j (by omega),fun q hq=>?_,by rw[la];exact h.fr,fun j hj k hk=>?_⟩
 ·rw[la] at hj ⊢;rw[ll] at hk;have o:=h.kp j hj pj k hk;rw[putV_tI T i c u hi];by_cases e:j=i
  ·rw[if_pos e,pI_set _ c _ hc];rw[e] at o;by_cases e2:k=c
   ·rw[if_pos e2];rw[e2] at o;exact⟨o.1,hu⟩
   ·rw[if_neg e2];exact o
  ·rw[if_neg e];exact o
 ·rw[la] at hq ⊢;rw[sumT_same T _ q _ (fun i _=>ll i)];exact h.sm q hq
 ·rw[la] at hj ⊢;rw[ll] at hk;have o:=h.fp j hj k hk;rw[putV_tI T i c u hi];by_cases e:j=i
  ·rw[if_pos e,pI_set _ c _ hc];rw[e] at o;by_cases e2:k=c
   ·rw[if_pos e2];rw[e2] at o;exact⟨o.1,fu⟩
   ·rw[if_neg e2];exact o
  ·rw[if_neg e];exact o
theorem Ji.word(h:Ji g T t l)(b:Nat)(hb:b<16):(rI g b).k=2→0≤(rI g b).a∧(rI g b).a<T.length∧PT t (rI g b).a.toNat:=h.rp b hb
theorem Ji.make(h:Ji g T t l)(c:Nat)(hc:c≤199):Ji (g.set 1 ⟨2,0,T.length⟩) (T++[List.replicate c Pr0]) t (l+(1+c)):=by
 have e:=fun i=>rI_set g 1 ⟨2,0,T.length⟩ (by rw[h.n];omega) i
 have z:=h.z;have t1:=h.t1;have la:(T++[List.replicate c Pr0]).length=T.length+1:=by simp
 have te:=tI_app T (List.replicate c Pr0);refine⟨by rw[List.length_set];exact h.n,by rw[e,if_neg (by omega)];exact h.r0,fun i hi=>by rw[e,if_neg (by omega)];exact h.r3 i hi,⟨by omega,by rw[te,if_neg (by omega)];exact z.2⟩,by omega,fun i hi=>?_,fun j hj pj k hk=>?_,fun j hj=>?_,fun q hq=>?_,fun i hi=>?_,fun j hj k hk=>?_⟩
 ·rw[e,la];by_cases c:i=1
  ·rw[if_pos c];intro _;simp only [PT];omega
  ·rw[if_neg c];intro k;obtain⟨a,b,p⟩:=h.rp i hi k;exact⟨a,by omega,p⟩
 ·rw[la] at hj ⊢;rw[te] at hk ⊢;by_cases c0:j=T.length
  ·simp only [if_pos c0,List.length_replicate] at hk ⊢;have:pI (List.replicate c Pr0) k=Pr0:=by unfold pI;rw[List.getD_eq_getElem?_getD,List.getElem?_replicate,if_pos hk];rfl
   rw[this];simp [Pr0]
  ·simp only [if_neg c0] at hk ⊢;obtain⟨a,b⟩:=h.kp j (by omega) pj k hk;exact⟨a,fun y=>by obtain⟨p,q,r⟩:=b y;exact⟨p,by omega,r⟩⟩
 ·rw[la] at hj;rw[te];by_cases c:j=T.length
  ·rw[if_pos c,List.length_replicate];omega
  ·rw[if_neg c];exact h.ln j (by omega)
 ·rw[la] at hq ⊢;have s:=h.sm q (fun i hi k=>hq i (by omega) k);have s2:=sumT_same T (T++[List.replicate c Pr0]) q T.length (fun i hi=>by rw[te,if_neg (by omega)]);simp only [sumT,s2,te,if_true,List.length_replicate]
  split <;> omega
 ·rw[e,la];by_cases c:i=1
  ·rw[if_pos c];exact .inr (.inr ⟨rfl,rfl,by show(0:Int)≤(T.length:Int);omega,by show(T.length:Int)<((T.length+1:Nat):Int);omega⟩)
  ·rw[if_neg c];exact(h.fr i hi).up
 ·rw[la] at hj ⊢;rw[te] at hk ⊢;by_cases c0:j=T.length
  ·simp only [if_pos c0,List.length_replicate] at hk ⊢;have:pI (List.replicate c Pr0) k=Pr0:=by unfold pI;rw[List.getD_eq_getElem?_getD,List.getElem?_replicate,if_pos hk];rfl
   rw[this];exact⟨formed0 _,formed0 _⟩
  ·simp only [if_neg c0] at hk ⊢;obtain⟨a,b⟩:=h.fp j (by omega) k hk;exact⟨a.up,b.up⟩
theorem sumT_zero(T:List (List Pr))(q:Nat→Bool):∀n,(∀i,i<n→q i=true→i=0)→sumT T q n≤1+(tI T 0).length
 | 0,_=>by simp [sumT]
 | n+1,h=>by
  simp only [sumT];by_cases c:n=0
  ·subst c;simp only [sumT];split <;> omega
  ·have:q n≠true:=fun e=>c (h n (by omega) e)
   rw[if_neg this];exact sumT_zero T q n (fun i hi e=>h i (by omega) e)
theorem Ji.cut(h:Ji g T t l)(hv:∀k,k<4→(pI (tI T 0) k).val.k≠2)(h1:(rI g 1).k≠2)(h2:(rI g 2).k≠2):Ji g T T.length 0:=by
 refine⟨h.n,h.r0,h.r3,h.z,Nat.le_refl _,fun i hi k=>?_,fun j hj pj k hk=>?_,h.ln,fun q hq=>?_,h.fr,h.fp⟩
 ·by_cases c:i=0
  ·rw[c,h.r0];have:=h.z.1;simp only [PT];omega
  ·by_cases c1:i=1
   ·rw[c1] at k;exact absurd k h1
   ·by_cases c2:i=2
    ·rw[c2] at k;exact absurd k h2
    ·exact absurd k (h.r3 i (by omega))
 ·simp only [PT] at pj;have e:j=0:=by omega
  rw[e] at hk ⊢;rw[h.z.2] at hk;exact⟨(h.kp 0 h.z.1 (.inl rfl) k (by rw[h.z.2];exact hk)).1,fun y=>absurd y (hv k hk)⟩
 ·have:=sumT_zero T q T.length (fun i hi e=>by have:=hq i hi e;simp only [PT] at this;omega);rw[h.z.2] at this;omega
section
variable {R : Int}
theorem Ji.nil(h:Ji g T t l)(a:Nat)(ha:a<3)(a0:a≠0):Sti R g T (ak 3 a 0 0) (g.set a Wd0) T∧Ji (g.set a Wd0) T t l:=⟨.nil (by omega),h.reg a ha a0 Wd0 (formed0 _) (fun e=>by simp [Wd0] at e)⟩
theorem Ji.two(h:Ji g T t l)(k:Nat)(hk:k<4)(v:∀j,j<k→(pI (tI T 0) j).val.k≠2):∃g' T',Rni R g T [ak 3 2 0 0,ak 8 0 2 k] g' T'∧Ji g' T' t l∧T'.length=T.length∧(rI g' 2).k≠2∧∀j,j<k+1→(pI (tI T' 0) j).val.k≠2:=by
 obtain⟨s1,h1⟩:=h.nil (R:=R) 2 (by omega) (by omega);have e2:rI (g.set 2 Wd0) 2=Wd0:=by rw[rI_set g 2 Wd0 (by rw[h.n];omega),if_pos rfl]
 have n2:(rI (g.set 2 Wd0) 2).k≠2:=by rw[e2];simp [Wd0]
 have z:=h.z;refine⟨_,_,.cons s1 (.cons (.put (a:=0) (b:=2) (c:=k) (i:=0) (by omega) (by omega) z.1 (by omega) (by omega) (by rw[h1.r0]) (by rw[h1.r0];rfl)) .nil),h1.put 0 k z.1 (by omega) _ (h1.fr 2 (by omega)) (h1.word 2 (by omega)),putV_all _ _ _ _,n2,fun j hj=>?_⟩;rw[putV_tI T 0 k _ z.1,if_pos rfl,pI_set _ k _ (by omega)];by_cases c:j=k
 ·rw[if_pos c];exact n2
 ·rw[if_neg c];exact v j (by omega)
theorem Ji.clear(h:Ji g T t l):∃g' T',Rni R g T clearA g' T'∧Ji g' T' T'.length 0∧T'.length=T.length:=by
 obtain⟨g1,T1,r1,h1,l1,_,v1⟩:=h.two (R:=R) 0 (by omega) (fun j hj=>by omega);obtain⟨g2,T2,r2,h2,l2,_,v2⟩:=h1.two (R:=R) 1 (by omega) v1;obtain⟨g3,T3,r3,h3,l3,_,v3⟩:=h2.two (R:=R) 2 (by omega) v2;obtain⟨g4,T4,r4,h4,l4,n4,v4⟩:=h3.two (R:=R) 3 (by omega) v3;obtain⟨s5,h5⟩:=h4.nil (R:=R) 1 (by omega) (by omega);have e:=fun i=>rI_set g4 1 Wd0 (by rw[h4.n];omega) i
 exact⟨_,_,r1.app (r2.app (r3.app (r4.app (.cons s5 .nil)))),h5.cut v4 (by rw[e,if_pos rfl];simp [Wd0]) (by rw[e,if_neg (by omega)];exact n4),by omega⟩
theorem Ji.new(h:Ji g T t l)(c:Nat)(hc:c≤199)(hT:T.length≤2000)(hR:((5+l:Nat):Int)+(1+c)≤R):Sti R g T (ak 1 1 0 c) (g.set 1 ⟨2,0,T.length⟩) (T++[List.replicate c Pr0]):=.make (PT t) (5+l) (by omega) hc h.rp h.kp hT h.ln h.sm hR
theorem Ji.hang(h:Ji g T t l)(c k:Nat)(hc:c≤199)(c0:0<c)(hk:k<4)(hT:T.length≤2000)(hR:((5+l:Nat):Int)+(1+c)≤R):∃g' T',Rni R g T (hangA c k) g' T'∧Ji g' T' t (l+(1+c))∧T'.length=T.length+1:=by
 have s1:=h.new c hc hT hR;have h1:=h.make c hc;have la:(T++[List.replicate c Pr0]).length=T.length+1:=by simp
 have tt:tI (T++[List.replicate c Pr0]) T.length=List.replicate c Pr0:=by rw[tI_app,if_pos rfl]
 have g1:rI (g.set 1 ⟨2,0,T.length⟩) 1=⟨2,0,T.length⟩:=by rw[rI_set g 1 _ (by rw[h.n];omega),if_pos rfl]
 obtain⟨T1,hT1⟩:∃X,X=T++[List.replicate c Pr0]:=⟨_,rfl⟩;rw[←hT1] at s1 h1 la tt;obtain⟨gg,hgg⟩:∃X,X=g.set 1 ⟨2,0,(T.length:Int)⟩:=⟨_,rfl⟩;rw[←hgg] at s1 h1 g1;have z:=h1.z;have s2:Sti R gg T1 (ak 6 2 0 k) (gg.set 2 (pI (tI T1 0) k).val) T1:=.get (i:=0) (by omega) (by omega) z.1 (by omega) (by omega) (by rw[h1.r0]) (by rw[h1.r0];rfl);have h2:=h1.reg 2 (by omega) (by omega) (pI (tI T1 0) k).val (h1.fp 0 z.1 k (by omega)).2 (fun e=>(h1.kp 0 z.1 (.inl rfl) k (by omega)).2 e);have g2:rI (gg.set 2 (pI (tI T1 0) k).val) 1=⟨2,0,T.length⟩:=by rw[rI_set gg 2 _ (by rw[h1.n];omega),if_neg (by omega)];exact g1
 obtain⟨gh,hgh⟩:∃X,X=gg.set 2 (pI (tI T1 0) k).val:=⟨_,rfl⟩;rw[←hgh] at s2 h2 g2;have tl:(tI T1 T.length).length=c:=by rw[tt,List.length_replicate]
 have s3:Sti R gh T1 (ak 8 1 2 0) gh (putV T1 T.length 0 (rI gh 2)):=.put (i:=T.length) (by omega) (by omega) (by omega) (by omega) (by omega) (by rw[g2]) (by rw[g2]);have h3:=h2.put T.length 0 (by omega) (by omega) (rI gh 2) (h2.fr 2 (by omega)) (h2.word 2 (by omega));have l3:=putV_all T1 T.length 0 (rI gh 2);obtain⟨T3,hT3⟩:∃X,X=putV T1 T.length 0 (rI gh 2):=⟨_,rfl⟩;rw[←hT3] at s3 h3 l3;have z3:=h3.z;have s4:Sti R gh T3 (ak 8 0 1 k) gh (putV T3 0 k (rI gh 1)):=.put (i:=0) (by omega) (by omega) z3.1 (by omega) (by omega) (by rw[h3.r0]) (by rw[h3.r0];rfl);have h4:=h3.put 0 k z3.1 (by omega) (rI gh 1) (h3.fr 1 (by omega)) (h3.word 1 (by omega));obtain⟨s5,h5⟩:=h4.nil (R:=R) 2 (by omega) (by omega);exact⟨_,_,.cons s1 (.cons s2 (.cons s3 (.cons s4 (.cons s5 .nil)))),h5,by rw[putV_all,l3,la]⟩
end
end
def g0I:List Wd:=List.replicate 16 Wd0
theorem g0I_r(i:Nat):rI g0I i=Wd0:=by
 unfold rI g0I;rw[List.getD_eq_getElem?_getD,List.getElem?_replicate]
 split <;> rfl
theorem ideal_head(R:Int)(st:Nat)(hR:3000≤R)(hs:st≤4000):∃g T,Rni R g0I [] (headA0 st) g T∧Ji g T 1 0∧T.length=1:=by
 have e:=fun i=>rI_set g0I 0 ⟨2,0,((0:Nat):Int)⟩ (by simp [g0I]) i
 have z:∀i,(rI g0I i).k≠2:=fun i=>by rw[g0I_r];simp [Wd0]
 have t0:∀i,i<1→tI ([]++[List.replicate 4 Pr0]) i=List.replicate 4 Pr0:=fun i hi=>by
  have:i=0:=by omega
  subst this;rfl
 refine⟨_,_,.cons (.pace (by omega) hs) (.cons (.make (fun _=>False) 0 (by omega) (by omega) (fun i _ k=>absurd k (z i)) (fun i hi=>by simp at hi) (by simp) (fun i hi=>by simp at hi) (fun q _=>by simp [sumT]) (by omega)) .nil),⟨by simp [g0I],by rw[show(([]:List (List Pr)).length)=0 from rfl,e,if_pos rfl];rfl,fun i hi=>by rw[show(([]:List (List Pr)).length)=0 from rfl,e,if_neg (by omega)];exact z i,⟨by simp,by rw[t0 0 (by omega)];rfl⟩,by simp,fun i hi k=>?_,fun i hi _ k hk=>?_,fun i hi=>?_,fun q hq=>?_,fun i hi=>?_,fun i hi k hk=>?_⟩,by simp⟩
 ·rw[show(([]:List (List Pr)).length)=0 from rfl,e] at k ⊢;by_cases c:i=0
  ·rw[if_pos c];simp [PT]
  ·rw[if_neg c] at k;exact absurd k (z i)
 ·simp at hi;rw[t0 i (by omega)] at hk ⊢;simp at hk;have:pI (List.replicate 4 Pr0) k=Pr0:=by unfold pI;rw[List.getD_eq_getElem?_getD,List.getElem?_replicate,if_pos hk];rfl
  rw[this];simp [Pr0]
 ·simp at hi;rw[t0 i (by omega)];simp
 ·have:=sumT_zero ([]++[List.replicate 4 Pr0]) q ([]++[List.replicate 4 Pr0]).length (fun i hi _=>by simp at hi;omega);rw[t0 0 (by omega)] at this;simp at this ⊢;omega
 ·rw[show(([]:List (List Pr)).length)=0 from rfl,e];by_cases c:i=0
  ·rw[if_pos c];simp [Formed]
  ·rw[if_neg c,g0I_r];exact formed0 _
 ·simp at hi;rw[t0 i (by omega)] at hk ⊢;simp at hk;have:pI (List.replicate 4 Pr0) k=Pr0:=by unfold pI;rw[List.getD_eq_getElem?_getD,List.getElem?_replicate,if_pos hk];rfl
  rw[this];exact⟨formed0 _,formed0 _⟩
theorem ideal_all(R st:Nat)(hR:3000≤R∧R≤4000)(hs:st≤4000):∀ms,bOk R ms→ms.length≤1900→∃g T t,Rni R g0I [] (headA0 st++bA ms) g T∧Ji g T t (bL ms)∧T.length≤1+ms.length
 | [],_,_=>by
  obtain⟨g,T,r,j,e⟩:=ideal_head R st (by omega) hs;exact⟨g,T,1,by simpa [bA] using r,j,by omega⟩
 | m::ms,h,hl=>by
  simp only [List.length_cons] at hl;obtain⟨g,T,t,r,j,e⟩:=ideal_all R st hR hs ms h.1 (by omega);rw[show headA0 st++bA (m::ms)=(headA0 st++bA ms)++mvA m by simp [bA]]
  match m,h.2 with
  | none,_=>
   obtain⟨g',T',r',j',e'⟩:=j.clear (R:=R);exact⟨g',T',_,r.app r',j',by simp only [List.length_cons];omega⟩
  | some (n,none),k=>
   have k1:=k.1;have k2:=k.2.1;exact⟨_,_,t,r.app (.cons (j.new n (by omega) (by omega) (by omega)) .nil),j.make n (by omega),by simp only [List.length_cons,List.length_append,List.length_nil];omega⟩
  | some (n,some q),k=>
   have k1:=k.1;have k2:=k.2.1;have k3:=k.2.2 q rfl;obtain⟨g',T',r',j',e'⟩:=j.hang (R:=R) n q (by omega) k3.1 k3.2 (by omega) (by omega);exact⟨g',T',t,r.app r',j',by simp only [List.length_cons];omega⟩
end Go.Proofs.YtddkhnclmeikfaaGreat
