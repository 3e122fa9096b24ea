import Derived.Test.YtddkhnclmeikfaaGreatUv2
namespace Go.Proofs.YtddkhnclmeikfaaGreat
open Go.RowKit Go.Proofs.Tryz
variable{x y:Hp}{R:List Wd}{l c B:Nat}{w:World}{vr vn:Value}
structure Sam(R:List Wd)(L:List Nd)(l c:Nat)(z:Hp):Prop where
 s:Snd z
 g:∃N,IsW z N/\gR z N=R/\gL z N=L
 l:a1z z l
 c:a5t z c
theorem Sam.ovr{L:List Nd}{φ:Nat->Nat}(h:Sam R L l c x)(o:Ovr x y φ)(t:Snd y):Sam R L l c y:=by
 obtain⟨N,a,d,b⟩:=h.g;have e:=o.shape h.s t a;exact⟨t,⟨N.map φ,o.isW h.s t a,e.1.trans d,e.2.trans b⟩,o.lives h.s t h.l,o.cnt h.s t h.c⟩
theorem Sam.units{R:List Wd}{L:List Nd}{l c:Nat}{x:Hp}(h:Sam R L l c x):∀k,Sam R L l c (itU k x)
 | 0=>h
 | k+1=>by
  have g:=Sam.units h k;obtain⟨φ,o⟩:=g.s.ovrU;exact g.ovr o g.s.unit
theorem Sam.begin{L:List Nd}(h:Sam R L l c x)(a:x.E=0):Sam R L l c (cZ x 1 0):=
 h.ovr (a4n (x:=x) (by omega) 1 0 0 x.Q) (h.s.begin a)
theorem Sam.step{L:List Nd}{n:Int}{k:Nat}(h:Sam R L l c x)(b:0<=n)(a:n<=100000)(d:StIs x n y k):Sam R L l c y:=by
 rcases d with⟨_,_,rfl⟩ | ⟨no,_⟩
 ·refine Sam.units ?_ k;unfold stepH
  split
  ·rename_i e;exact h.begin e.1
  ·exact h
 ·exact absurd ⟨h.s.ok,b,a⟩ no
theorem Sam.round{L:List Nd}(h:Sam R L l c x)(a:RoIs x y):Sam R L l c y:=by
 rcases a with⟨_,z,⟨k,e1,rfl⟩,⟨m,e2,rfl⟩⟩ | ⟨no,_⟩
 ·exact((h.units k).begin e1.1).units m
 ·exact absurd h.s.ok no
theorem Sam.shade{L:List Nd}{i:Nat}(h:Sam R L l c x)(b:i<x.A.length)(k:(x.c i).st=1)(f:ShIs x i y):Sam R L l c y:=by
 rcases f with⟨_,rfl⟩ | ⟨no,_⟩
 ·rw[Int.toNat_natCast];have sm:=cU x i;have a:=a3m x i b;refine h.ovr (a4z sm.2.2.2.1 sm.2.2.2.2.1 a (λj g=>?_)) (h.s.shade i b);refine⟨by rw[<-sm.2.2.2.2.1];exact g.1,by rw[<-(dN (a j)).1];exact g.2.1,λd=>?_⟩;have e:¬uY x:=λm=>by have:=d.1;rcases m with m | m <;> omega
  have:=g.2.2;rw[a4u e i] at this;exact this d
 ·exact absurd ⟨h.s.ok,by omega,by omega,by simpa using k⟩ no
theorem Sam.rd{L:List Nd}(h:Sam R L l c x)(a:IAns x B w vr vn):SlW w vr R/\SlN w vn L:=by
 rcases a with⟨no,_⟩ | ⟨ok,a⟩
 ·exact absurd h.s.ok no
 ·obtain⟨N,i,d,b⟩:=a.rd ok;obtain⟨M,f,e,j⟩:=h.g;obtain rfl:=i.uniq h.s.r2 f;rw[e] at d;rw[j] at b;exact⟨d,b⟩
theorem Sam.rdS{L:List Nd}(h:Sam R L l c x)(a:SAns x w vr vn):SlW w vr R/\SlN w vn L:=by
 rcases a with⟨no,_⟩ | ⟨ok,N,h1,h2,h3⟩
 ·exact absurd h.s.ok no
 ·obtain⟨M,b,d,e⟩:=h.g;obtain rfl:=h1.uniq h.s.r2 b;rw[d] at h2;rw[e] at h3;exact⟨h2,h3⟩
theorem Sam.first(s:Snd x)(a:IAns x B w vr vn):∃R L l c,Sam R L l c x:=by
 rcases a with⟨no,_⟩ | ⟨ok,a⟩
 ·exact absurd s.ok no
 ·obtain⟨N,e,_,_⟩:=a.rd ok;obtain⟨l,d⟩:=live_ex x s;obtain⟨c,b⟩:=cnt_ex x s;exact⟨_,_,l,c,s,⟨N,e,rfl,rfl⟩,d,b⟩
end Go.Proofs.YtddkhnclmeikfaaGreat
