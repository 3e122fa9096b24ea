import Derived.Test.YtddkhnclmeikfaaGreatImpJ
import Derived.Test.YtddkhnclmeikfaaGreatEc0
import Derived.Test.YtddkhnclmeikfaaGreatPq
import Derived.Test.YtddkhnclmeikfaaGreatPw
import Derived.Test.YtddkhnclmeikfaaGreatTd
set_option maxRecDepth 100000
set_option maxHeartbeats 1000000
namespace Go.Proofs.YtddkhnclmeikfaaGreat
open Go.RowKit Tryz
attribute [local go_sem ↓] Go.wp_at_zero Go.wp_at_succ
variable{x y:Hp}{K:List Nat}{F F':List Int}{B bn b kr br kn hd C j i l:Nat}{w:World}{ar:Option Addr}{v4 v8 vf vk:Value}{cB cO pb pk role φ:Nat->Nat}{pa:Nat->Option Addr}
theorem SAt.move[Inhabited uQ]{w':World}(h:SAt B w b x ar kr v4 v8 br cB cO bn pb pa pk kn hd vf F vk K role)(t f:Nat)(z:t≠f)(I:t<x.A.length)(r:f<x.A.length)(o:uX (λq=>∃j,j<x.A.length/\q=cB j) w w')(C:∀j,j<x.A.length->Nf1 (cB j) w')(D:S7 w' (cB t) (cO t) (x.c f))(H:w'.cell? (aA (cB t) (cO t+7))=some (.slice (pa f) (x.c f).F.length (pk f)))(A:S7 w' (cB f) (cO f) (mvC t))(J:w'.cell? (aA (cB f) (cO f+7))=some (.slice none 0 0))
  (v:∀q,q<x.A.length->q≠t->q≠f->∀k,k<8->w'.cell? (aA (cB q) (cO q+k))=w.cell? (aA (cB q) (cO q+k))) :
  ∃pb' pa' pk' role',SAt B w' b { x with A:=(x.A.set t (x.c f)).set f (mvC t) } ar kr v4 v8 br cB cO bn pb' pa' pk' kn hd vf F vk K role':=by
 have m:∀q,({ x with A:=(x.A.set t (x.c f)).set f (mvC t) }:Hp).c q=if q=f then mvC t else if q=t then x.c f else x.c q:=λq=>by grind [Hp.c,VNt.f,mvC,Hp.c_set,Nf1,S7]
 refine⟨_,_,_,_,h.turned ((x.A.set t (x.c f)).set f (mvC t)) (by simp) (λq=>if q=t then f else q) (λq=>if q=f then none else if q=t then pa f else pa q) (λq=>if q=f then 0 else if q=t then pk f else pk q) (λd=>if 0<pk f/\d=pb f then 6+t else role d) o C (λq i=>?_) (λq i=>?_) (λq i=>?_) (λq i l=>?_) (λd G=>?_)⟩
 ·have n:q<x.A.length:=by simpa using i
  rw[m q];by_cases a:q=f
  ·rw[if_pos a];exact Nat.zero_le _
  ·simp only [if_neg a];by_cases g:q=t
   ·simp only [if_pos g];exact h.rw.kp f r
   ·simp only [if_neg g];exact h.rw.kp q n
 ·rw[m q];by_cases a:q=f
  ·subst a;rw[if_pos rfl];exact A
  ·rw[if_neg a];by_cases g:q=t
   ·subst g;rw[if_pos rfl];exact D
   ·rw[if_neg g];exact(h.rw.s q i).of λj E=>v q i g a j (by omega)
 ·rw[m q];by_cases a:q=f
  ·grind [Nf1,S7,Hp.c,mvC]
  ·simp only [if_neg a];by_cases g:q=t
   ·grind [Nf1,S7,Hp.c,mvC]
   ·simp only [if_neg g];rw[v q i g a 7 (by omega)];exact h.rw.p7 q i
 ·rw[m q];by_cases a:q=f
  ·rw[if_pos a] at l;omega
  ·rw[if_neg a] at l;simp only [if_neg a];by_cases g:q=t
   ·grind [Grw.at,Nf1,S7,Hp.c,mvC]
   ·rw[if_neg g] at l;simp only [if_neg g];refine⟨⟨i,trivial⟩,trivial,trivial,?_⟩;rw[if_neg (λe=>?_)]
    ·exact h.sp.p q i l
    ·have y:=h.sp.p q i l;have u:=h.sp.p f r e.1;rw[e.2] at y;omega
 ·by_cases e:0<pk f/\d=pb f
  ·have u:=h.sp.p f r e.1;rw[<-e.2] at u;omega
  ·rw[if_neg e]
theorem c2o[Inhabited uQ](h:SAt B w b x ar kr v4 v8 br cB cO bn pb pa pk kn hd vf F vk K role)(t f:Nat)(g:t≠f)(i:t<x.A.length)(m:f<x.A.length):
  ∃pb' pa' pk' role',SAt B (qW (qQ w (cB t) (cO t) (x.c f) (.slice (pa f) (x.c f).F.length (pk f))) (cB f) (cO f) 2 t) b (b3u x t f) ar kr v4 v8 br cB cO bn pb' pa' pk' kn hd vf F vk K role':=by
 obtain⟨z,y⟩:=a9r w (cB t) (cO t) (x.c f) (x.c t) (.slice (pa f) (x.c f).F.length (pk f)) _ (h.rw.s t i) (h.rw.p7 t i);have o:=a3o w (cB t) (cO t) (x.c f) (.slice (pa f) (x.c f).F.length (pk f));have y1:=a0k w (cB t) (cO t) (x.c f) (.slice (pa f) (x.c f).F.length (pk f));have d:∀q,q<x.A.length->q≠t->∀k,k<8->(qQ w (cB t) (cO t) (x.c f) (.slice (pa f) (x.c f).F.length (pk f))).cell? (aA (cB q) (cO q+k))=w.cell? (aA (cB q) (cO q+k)):=λq l e k n=>h.rw.far8 i l e (Nat.le_refl _) y1 o k n
 have E:S7 (qQ w (cB t) (cO t) (x.c f) (.slice (pa f) (x.c f).F.length (pk f))) (cB f) (cO f) (x.c f):=(h.rw.s f m).of λj D=>d f m (λe=>g e.symm) j (by omega)
 have p:=(d f m (λe=>g e.symm) 7 (by omega)).trans (h.rw.p7 f m);obtain⟨u,r⟩:=a5k (qQ w (cB t) (cO t) (x.c f) (.slice (pa f) (x.c f).F.length (pk f))) (cB f) (cO f) 2 t _ _ E p;have v:=a4k (qQ w (cB t) (cO t) (x.c f) (.slice (pa f) (x.c f).F.length (pk f))) (cB f) (cO f) 2 t;have y2:=a0i (qQ w (cB t) (cO t) (x.c f) (.slice (pa f) (x.c f).F.length (pk f))) (cB f) (cO f) 2 t;have a:∀q,q<x.A.length->q≠f->∀k,k<8->(qW (qQ w (cB t) (cO t) (x.c f) (.slice (pa f) (x.c f).F.length (pk f))) (cB f) (cO f) 2 t).cell? (aA (cB q) (cO q+k))=(qQ w (cB t) (cO t) (x.c f) (.slice (pa f) (x.c f).F.length (pk f))).cell? (aA (cB q) (cO q+k)):=λq l e k n=>h.rw.far8 m l e y1.size y2 v k n
 refine h.move t f g i m ((y1.mono (λq e=>⟨t,i,e⟩)).trans (y2.mono (λq e=>⟨f,m,e⟩))) (λq l=>a7w (a7w (h.rw.nc q l).1 (a5n (h.rw.nc t i).1 _ _ _) y1) (b0w (a7w (h.rw.nc f m).1 (a5n (h.rw.nc t i).1 _ _ _) y1) _ _ _) y2) ?_ ?_ u r (λq l C A k n=>?_)
 ·exact z.of λj D=>a t i g j (by omega)
 ·rw[a t i g 7 (by omega)];exact y
 ·rw[a q l A k n,d q l C k n]
def rgR(x:Hp)(t f j:Nat):Hp:={ x with B:=(x.B.take j).map (mvW t f)++x.B.drop j }
theorem d2c(x:Hp)(t f j:Nat)(a:j<x.B.length):∃h:j<(rgR x t f j).B.length,(rgR x t f j).B[j]=x.B[j]:=by grind [VNt.f,rgR]
theorem c2p(x:Hp)(t f j:Nat)(a:j<x.B.length):({ rgR x t f j with B:=(rgR x t f j).B.set j (mvW t f x.B[j]) }:Hp)=rgR x t f (j+1):=by
 have:(rgR x t f j).B.set j (mvW t f x.B[j])=(rgR x t f (j+1)).B:=by
  simp only [rgR];rw[List.set_append_right _ _ (by simp;omega),List.take_succ_eq_append_getElem a,List.map_append];simp only [List.length_map,List.length_take,Nat.min_eq_left (Nat.le_of_lt a),Nat.sub_self];have b:=List.drop_eq_getElem_cons a;rw[b];simp only [List.set_cons_zero,List.map_cons,List.map_nil,List.append_assoc,List.singleton_append]
 rw[this];rfl
theorem d2d(x:Hp)(t f j:Nat)(a:j<x.B.length)(h:mvW t f x.B[j]=x.B[j]):rgR x t f (j+1)=rgR x t f j:=by
 rw[<-c2p x t f j a,h];obtain⟨b,e⟩:=d2c x t f j a;rw[<-e];simp
theorem d2e(x:Hp)(t f:Nat):rgR x t f 0=x:=by simp [rgR]
theorem rgR_all(x:Hp)(t f:Nat):b3u (rgR x t f x.B.length) t f=dL x t f:=by simp [rgR,b3u,dL,Hp.c]
theorem SAt.black[Inhabited uQ](h:SAt B w b x ar kr v4 v8 br cB cO bn pb pa pk kn hd vf F vk K role)(i:Nat)(a:i<x.A.length):SAt B (w.setCell (aA (cB i) (cO i+5)) (iv 2)) b { x with A:=x.A.set i (a1j (x.c i)) } ar kr v4 v8 br cB cO bn pb pa pk kn hd vf F vk K role:=by
 refine h.setc a rfl (uX.setCell (S:=λq=>q=cB i) (uX.refl _ w) (p:=(aA (cB i) (cO i+5))) rfl _) ?_ (λk n=>uC _ (.inr (by omega))) ((h.rw.nc i a).1.set _ _);obtain⟨f,g,j,d,m,e,l⟩:=h.rw.s i a;refine⟨?_,?_,?_,?_,?_,World.cell?_setCell_same _ _ _ e,?_⟩
 ·rw[uC _ (.inr (by omega))];exact f
 ·rw[uC _ (.inr (by omega))];exact g
 ·rw[uC _ (.inr (by omega))];exact j
 ·rw[uC _ (.inr (by omega))];exact d
 ·rw[uC _ (.inr (by omega))];exact m
 ·rw[uC _ (.inr (by omega))];exact l
theorem c5e[Inhabited uQ](h:SAt B w b x ar kr v4 v8 br cB cO bn pb pa pk kn hd vf F vk K role)(n8:x.A.length<=8000)(hp:x.E=2)(i:Nat)(G:List Int)(y:x.D=(i:Int)::G)(d:i<x.A.length)(z:¬x.sub<((x.c i).F.length:Int))(a:World)(ha:a.heap.size<=B)(hx:Ext a w):
  Calls prog 329 #[.agg #[pP b]] w λe w'=>e=.returned (zV (cX x).E b)/\Hid (SAt B w' b (cX x) ar kr v4 v8 br cB cO bn pb pa pk kn ((hd+1) % 4000) vf F vk K role)/\Ext a w':=by
 have L:((i:Int)).toNat=i:=by omega
 have E:=uU (show cX x={ x with A:=x.A.set i (a1j (x.c i)),D:=G,sub:=0 } by
  unfold cX;rw[y];simp only [L,if_neg z])
 have U:=uU (show(cX x).E=2 by rw[uH E];exact hp);have H:=uU h;have M:=(Ext.refl w).alloc (.cells #[pP b] 234);have RG:=uU (show RAt w b bn hd ((i:Int)::G) by have:=h.sb.rg;rw[y] at this;exact this);have QA:=uU (a8a b bn hd i G _ (RG.block (M.block b h.sb.nb.1)));have v:=uU M;have ae:b<w.heap.size:=h.sb.nb.1;have lo:=h.sb.lo.1;have HG:=uU y;have hn:0<x.A.length:=by omega
 go_enter func329,ntmps329;go_wp2_with fail;refine QA.mono ?_;rintro e j ⟨rfl,J⟩;rw[L];have D:j.cell? (aA w.heap.size 0)=some (pP b):=J.keep (by simp [go_sem]);have A:=uU (v.trans J);have f:=uU (H.ext A);have m1:=(f.sb.nd i d).2;have R:=(f.rw.s i d).2.2.2.2.2.1;have p7:=f.rw.p7 i d;have Y:=f.sb.bx.2.2.2.2.2.2.2.1;have f7:=f.sb.nb.2 7;have fc:=(f.rw.nc i d).1.2 (cO i+5);have P:b<j.heap.size:=uL Y;have ab:w.heap.size<j.heap.size:=uL D;have ad:cB i<j.heap.size:=uL R;have N:¬b=w.heap.size:=by omega
 have T:¬w.heap.size=b:=by omega
 have l:=uU (H.rw.nc i d);have aa:=uU (show ¬b=cB i from λe=>by have h1:=f.sp.b;have h2:=f.sp.c i d;rw[e] at h1;omega);go_wp2_with fail;go_quiet (fail);have n:=uU ((f.ext ((Ext.refl j).drewN nq)).black i d);obtain⟨m,g⟩:∃W,W=(j.drewN nq).setCell (aA (cB i) (cO i+5)) (iv 2):=⟨_,rfl⟩;rw[<-g] at n;have O:=uU (show Ext a m by rw[g];exact((hx.trans A).drewN _).setCell (p:=(aA (cB i) (cO i+5))) (Nat.le_trans ha l.2) _)
 have I:m.cell? (aA w.heap.size 0)=some (pP b):=by
  rw[g,uC _ (.inl (by have:=l.1.1;omega))];exact((Ext.refl j).drewN nq).keep D
 have u:=uU (show RAt m b bn hd ((i:Int)::G) by have:=n.sb.rg;rw[<-uH HG];exact this);go_wp2_with fail;rw[<-g];refine(c8r b bn hd i G _ u n.sb.nb).mono ?_;rintro e r ⟨rfl,k⟩;have o:=uU (n.rdrop k);have C:=k.2.1;have t:w.heap.size<m.heap.size:=uL I;have t0:r.cell? (aA w.heap.size 0)=some (pP b):=(World.cell?_of_block (a:=(aA w.heap.size 0)) (C.block w.heap.size t (by omega))).trans I;have Q:=uU (C.ext O (λq hq e=>by omega));have Z:=o.sb.bx.2.2.2.2.2.2.2.1;have g7:=o.sb.nb.2 7;have S:b<r.heap.size:=uL Z;have ac:w.heap.size<r.heap.size:=uL t0;have X:=uU (o.subs 0);have V:=uU (Q.setCell (p:=(aA b 7)) (show a.heap.size<=b by omega) (iv 0));go_wp2;go_ret;exact⟨by rw[uH U];rfl,by rw[uH E];exact uH X,V⟩
theorem SAt.keptAs[Inhabited uQ](h:SAt B w b x ar kr v4 v8 br cB cO bn pb pa pk kn hd vf F vk K role){vk':Value}{K':List Nat}(A:w.ownsRow B 126 1 vk' K'.length (K'.map (ndp bn)))(y:∀q,vk'.ownBlock=some q->vk.ownBlock=some q):
  SAt B (w.setCell (aA b 4017) vk') b x ar kr v4 v8 br cB cO bn pb pa pk kn hd vf F vk' K' role:=by
 have d:∀q,q≠b->(w.setCell (aA b 4017) vk').heap[q]?=w.heap[q]?:=λq t=>Below.heap_setCell _ _ _ _ t
 have l:∀o,o≠4017->(w.setCell (aA b 4017) vk').cell? (aA b o)=w.cell? (aA b o):=λo v=>uC _ (.inr (λe=>v e.symm))
 have i:∀q,role q≠0->q≠b:=λq g e=>g (by rw[e];exact h.sp.b)
 have j:w.heap.size<=(w.setCell (aA b 4017) vk').heap.size:=by simp [World.setCell]
 have s:=d bn (i bn (by rw[h.sp.n];omega));refine⟨⟨h.sb.bx.of λo v=>l o (by omega),h.sb.ha,(l 13 (by omega)).trans h.sb.n13,λk u=>⟨(World.cell?_of_block (a:=(aA bn _)) s).trans (h.sb.nd k u).1,(World.cell?_of_block (a:=(aA bn _)) s).trans (h.sb.nd k u).2⟩,⟨(l 14 (by omega)).trans h.sb.fr.hd,?_,uN h.sb.fr.own (λq g=>d q (i q (by rw[h.sp.f q g];omega))),h.sb.fr.apart⟩,h.sb.rg.of λo _ C=>l o (by omega),?_,?_,h.sb.nb.set _ _,⟨h.sb.lo.1,h.sb.lo.2.1,h.sb.lo.2.2.of s j⟩⟩,?_,?_,h.pr.of (λq g z=>d q (i q (by rw[z];omega))) (λ_ _ h=>h)⟩
 ·rw[World.frozen?_setCell];exact h.sb.fr.hf
 ·exact World.cell?_setCell_same _ _ _ h.sb.k0
 ·exact uN A (λq g=>d q (i q (by rw[h.sp.k q (y q g)];omega)))
 ·exact h.rw.same j (λm=>d br (i br (by rw[h.sp.r m];omega))) (λq g=>d (cB q) (i (cB q) (by rw[h.sp.c q g];omega))) (λq g m=>d (pb q) (i (pb q) (by rw[h.sp.p q g m];omega)))
 ·exact⟨h.sp.b,h.sp.n,h.sp.r,h.sp.c,h.sp.f,λq g=>h.sp.k q (y q g),h.sp.p⟩
theorem c5d{e:TypeId}{a:Option Addr}{k:Nat}(h:w.ownsRow B e 1 (.slice a (K++[l]).length k) (K++[l]).length ((K++[l]).map (ndp bn))):w.ownsRow B e 1 (.slice a K.length k) K.length (K.map (ndp bn)):=by
 obtain⟨_,d⟩:=h;refine⟨by simp,?_⟩;rcases d with⟨_,h0⟩ | ⟨g,cap,cur,b,e2,e3,e4,e5,e6,e7⟩
 ·simp at h0
 ·injection b with b f c
  subst b c;refine .inr ⟨g,_,cur,rfl,e2,e3,by simp at e4;omega,e5,e6,?_⟩;have:=congrArg (List.take K.length) e7;rw[List.take_take] at this;simp at this
  simpa using this
theorem a9v(x:Hp)(d:∀i j,i<x.A.length->j<x.A.length->(x.c i).st=1->(x.c j).st=0->i<j):unit4 x=cZ x 5 0:=by
 unfold unit4;obtain⟨a,b,c⟩:=a1b x;rw[if_pos];rcases a1s x x.A.length with⟨e,_⟩ | ⟨f,e,hf,h1,_⟩
 ·rw[e];omega
 ·rw[e];rcases Nat.lt_or_ge (uV x) x.A.length with l | l
  ·have:=d f _ hf l h1 (c l);omega
  ·omega
theorem d2h(x:Hp)(j l:Nat)(m:j<x.A.length)(p:(x.c j).st=0)(k:∀q,q<j->(x.c q).st≠0)(a:l<x.A.length)(b:(x.c l).st=1)(o:∀i,l<i->i<x.A.length->(x.c i).st≠1)(n:j<l):unit4 x=dL x j l:=by
 have d:=b5s x j m k p
 have g:a1c x x.A.length=(l:Int):=by
  rcases a1s x x.A.length with⟨_,h⟩ | ⟨f,e,hf,h2,h3⟩
  ·exact absurd b (h l a)
  ·rcases Nat.lt_trichotomy f l with q | q | q
   ·exact absurd b (h3 l q a)
   ·rw[e,q]
   ·exact absurd h2 (o f q hf)
 unfold unit4;rw[d,g,if_neg (by omega)];rfl
theorem d2i(h:zW C x F K)(l:x.E=4)(g:b6j x F F'):zW C (cZ x 5 0) F' [] where
 ho:=g.1
 al:=λi a b=>g.2.2.2 i a b (h.al i a b)
 nn:=λv c=>h.nn v (g.2.2.1 v c)
 le:=by
  have k:=h.le;have f:=g.2.1;have d:yE x=8000:=by unfold yE;rw[if_neg (by omega),if_neg (by omega),if_pos (by omega)]
  have j:yE (cZ x 5 0)=8000:=rfl;omega
 k3:=λe=>by simp [cZ] at e
 k4:=λe=>by simp [cZ] at e
 k0:=λ_ _=>rfl
theorem c8m(h:zW C x F K)(g:b6j x F F')(t:GapT x F' none):unit4 x=cZ x 5 0:=a9v x λi j d a e b=>by
 have:=g.2.2.2 j a b (h.al j a b);have c:F'=[]:=t;rw[c] at this;exact absurd this (by simp)
theorem d2j(h:zW C x F [])(e:x.E=4):unit4 x=cZ x 5 0:=a9v x λi j a b c d=>(h.k4 e).2.2 i a c (by simp) j b d
theorem b9u(h:(K++[l]).Pairwise (· < ·)):∀i,i∈K->i<l:=λi a=>(List.pairwise_append.1 h).2.2 i a l (by simp)
theorem c8n(h:zW C x F (K++[l]))(m:x.E=4)(g:b6j x F F')(t:GapT x F' (some j))(n:l<j):unit4 x=cZ x 5 0:=a9v x λi q d a k b=>by
 have c:=h.k4 m;by_cases e:i∈K++[l]
 ·have f:i<=l:=by
   rcases List.mem_append.1 e with e | e
   ·have:=b9u c.1 i e;omega
   ·simp at e;omega
  have:=t.2.2 q (g.2.2.2 q a b (h.al q a b));omega
 ·exact c.2.2 i d k e q a b
theorem c8o(h:zW C x F K)(g:b6j x F F')(t:GapT x F' (some j)):∀q,q<x.A.length->(x.c q).st=0->j<=q:=λq a b=>by
 have:=t.2.2 q (g.2.2.2 q a b (h.al q a b));omega
theorem moveH_c(x:Hp)(t f:Nat)(b:t<x.A.length)(a:f<x.A.length)(q:Nat):(dL x t f).c q=if q=f then mvC t else if q=t then x.c f else x.c q:=mvd_c x t f b a q
theorem go_move(h:zW C x F (K++[l]))(s:x.E=4)(g:b6j x F F')(t:GapT x F' (some j))(N:¬l<j):l<x.A.length/\j≠l/\unit4 x=dL x j l/\zW C (dL x j l) F' K:=by
 have m:=h.k4 s;obtain⟨k,o⟩:=m.2.1 l (by simp);have u:j≠l:=λe=>by have:=t.2.1;rw[e,o] at this;omega
 have y:=c8o h g t;have c:=moveH_c x j l t.1 k;refine⟨k,u,d2h x j l t.1 t.2.1 (λq r e=>by have:=y q (by have:=t.1;omega) e;omega) k o (λi f A H=>?_) (by omega),?_⟩
 ·by_cases e:i∈K++[l]
  ·rcases List.mem_append.1 e with e | e
   ·have:=b9u m.1 i e;omega
   ·simp at e;omega
  ·have:=m.2.2 i A H e j t.1 t.2.1;omega
 ·have n:(dL x j l).A.length=x.A.length:=by simp [dL]
  have b:∀i,((dL x j l).c i).st=0->(x.c i).st=0/\i≠j/\i≠l:=λi a=>by
   rw[c i] at a;by_cases d:i=l
   ·rw[if_pos d] at a;simp [mvC] at a
   ·rw[if_neg d] at a;by_cases p:i=j
    ·rw[if_pos p,o] at a;omega
    ·rw[if_neg p] at a;exact⟨a,p,d⟩
  refine⟨g.1,λi a D=>?_,λv E=>h.nn v (g.2.2.1 v E),?_,λe=>?_,λ_=>⟨?_,λi a=>?_,λi a f I q r J=>?_⟩,λ_ e=>absurd s e⟩
  ·rw[n] at a;exact g.2.2.2 i a (b i D).1 (h.al i a (b i D).1)
  ·have f:=h.le;have A:=g.2.1;have d:yE x=8000:=by unfold yE;rw[if_neg (by omega),if_neg (by omega),if_pos (by omega)]
   have w:(dL x j l).E=4:=s;have p:yE (dL x j l)=8000:=by unfold yE;rw[if_neg (by omega),if_neg (by omega),if_pos (by omega)]
   omega
  ·have w:(dL x j l).E=4:=s;omega
  ·exact(List.pairwise_append.1 m.1).1
  ·have:=b9u m.1 i a;obtain⟨G,z⟩:=m.2.1 i (List.mem_append_left _ a);refine⟨by rw[n];exact G,?_⟩;rw[c i,if_neg (by omega),if_neg (λe=>by have:=t.2.1;rw[<-e,z] at this;omega)];exact z
  ·rw[n] at a r;obtain⟨B,M,L⟩:=b q J;rw[c i] at f;by_cases d:i=l
   ·rw[if_pos d] at f;simp [mvC] at f
   ·rw[if_neg d] at f;by_cases p:i=j
    ·have:=y q r B;omega
    ·rw[if_neg p] at f;exact m.2.2 i a f (λe=>by rcases List.mem_append.1 e with e | e;exact I e;simp at e;exact d e) q r B
theorem d2p[Inhabited uQ](h:SAt B w b x ar kr v4 v8 br cB cO bn pb pa pk kn hd vf F vk K role)(m:x.E=6)(d:x.I=0)(o:0<=x.Q/\x.Q<=1000000000)(a:World)(p:a.heap.size<=B)(n:Ext a w):
  Calls prog 336 #[.agg #[pP b]] w λe w'=>e=.returned (zV (hE x).E b)/\Hid (SAt B w' b (hE x) ar kr v4 v8 br cB cO bn pb pa pk kn hd vf F vk K role)/\Ext a w':=by
 have E:=uU (show hE x={ cZ x 0 0 with Q:=if x.Q<1000000000 then x.Q+1 else x.Q } by unfold hE;rw[if_pos d];rfl);have H:=uU h;have k:=uU m;have g:=uU o;have i:=h.sb.bx.2.2.2.2.2.2.1;rw[d] at i;have j:b<w.heap.size:=h.sb.nb.1;have c:=uU ((Ext.refl w).alloc (.cells #[pP b] 238));go_enter func336,ntmps336;go_wp2_with fail;refine(turn_6 (H.ext c) k g a p (n.trans c)).mono ?_;rintro e q ⟨rfl,f,l⟩;go_wp2;go_ret;exact⟨by rw[uH E];rfl,by rw[uH E];exact uH f,l⟩
theorem c8w[Inhabited uQ](h:SAt B w b x ar kr v4 v8 br cB cO bn pb pa pk kn hd vf F vk K role)(n8:x.A.length<=8000)(hp:x.E=6)(i:Nat)(hi:x.I=(i:Int)+1)(f:i<x.A.length)(hk:x.A.length<=kn)(ho:Ho F)(hl:F.length<=1000000000)(a:World)(ha:a.heap.size<=B)(hx:Ext a w):
  Calls prog 336 #[.agg #[pP b]] w λe w'=>e=.returned (zV (hE x).E b)/\Hid (∃pa' pk' vf' F' role',SAt B w' b (hE x) ar kr v4 v8 br cB cO bn pb pa' pk' kn hd vf' F' vk K role'/\Ho F'/\(((x.c i).st=2/\F'.Perm ((i:Int)::F))\/((x.c i).st≠2/\F'=F)))/\Ext a w':=by
 have N:=uU (show hE x=qE (cJ x i) i by unfold hE;rw[if_neg (by omega),show(x.I-1).toNat=i by omega]);have r:=uU (show(hE x).E=6 by rw[uH N];unfold qE;split <;> (unfold cJ;exact hp));have ab:b<w.heap.size:=h.sb.nb.1;have lo:=h.sb.lo.1;have H:=uU h;have XA:=(Ext.refl w).alloc (.cells #[pP b] 238);have c6:=h.sb.bx.2.2.2.2.2.2.1;rw[hi] at c6;have f6:=h.sb.nb.2 6;have aa:((i:Int)+1 == 0)=false:=by simp;omega
 have V:=uU (h.rw.nc i f);have L:=uU (show ∀q,vf.ownBlock=some q->q<w.heap.size from λq hq=>(h.sb.fr.own.lt q hq).2);have u:=uU (And.intro ho hl);have S:¬w.heap.size=b:=by omega
 go_enter func336,ntmps336;go_wp2_with fail;obtain⟨Q,l⟩:∃W,W=(w.setCell (aA b 6) (iv i)).alloc (.cells #[pP b] 238):=⟨_,rfl⟩;have P:=uU (show SAt B Q b { x with I:=(i:Int) } ar kr v4 v8 br cB cO bn pb pa pk kn hd vf F vk K role by rw[l];exact(H.I (i:Int)).ext ((Ext.refl _).alloc _));have X1:=uU (show Ext a Q by rw[l];exact(hx.setCell (p:=(aA b 6)) (show a.heap.size<=b by omega) _).alloc _)
 have r1:Q.cell? (aA w.heap.size 0)=some (pP b):=by
  rw[l];have:w.heap.size=(w.setCell (aA b 6) (iv i)).heap.size:=by simp [World.setCell]
  rw[this];simp [go_sem]
 rw[<-l];refine(a1v b x.A.length kn bn i _ P.sb.bx.2.2.2.2.2.2.1 P.sb.n13 f).mono ?_;rintro e D ⟨rfl,O⟩;have o:=uU (P.ext O);have C:=uU (X1.trans O);have Z:=O.keep r1;obtain⟨m0,m1⟩:=o.sb.nd i f;have p0:D.cell? (aA (cB i) (cO i))=some (iv (x.c i).st):=(o.rw.s i f).1;have R:w.heap.size<D.heap.size:=uL Z;cases E:((x.c i).st == 2)
 ·have y:=uU (show hE x=qE { x with I:=(i:Int) } i by rw[uH N];unfold cJ;rw[if_neg (by simpa using E)]);have NS:=uU (show(x.c i).st≠2 by simpa using E);have J:D.cell? (aA b 13)=some (sS bn x.A.length kn):=o.sb.n13;go_wp2_with fail;by_cases d:i+1=x.A.length
  ·cases M:((x.c i).st == 0)
   ·skip
    have j:=uU (show hE x={ x with A:=x.A,I:=(i:Int) } by rw[uH y];unfold qE;rw[if_neg (λe=>by have:=e.2;simp at M;exact M this)]);have G:((i:Int) == (x.A.length:Int)-1)=true:=by simp;omega
    go_quiet (fail);go_wp2;go_ret;exact⟨by rw[uH r];rfl,by rw[uH j];exact⟨_,_,_,_,_,o.ext ((Ext.refl _).drewN _),u.1,Or.inr ⟨NS,rfl⟩⟩,C.drewN _⟩
   ·skip
    have j:=uU (show hE x={ x with A:=(x.A).take i,I:=(i:Int) } by rw[uH y];unfold qE;rw[if_pos ⟨by simpa using d,(show(x.c i).st=0 by simpa using M)⟩]);have G:((i:Int) == (x.A.length:Int)-1)=true:=by simp;omega
    have k1:(i:Int)<=(kn:Int):=by omega
    have k0:(0:Int)<=(i:Int):=by omega
    have T:=o.sb.nb.2 13;have n:=uU (show ∀k,Ext D k->SAt B (k.setCell (aA b 13) (sS bn i kn)) b { x with A:=(x.A).take i,I:=(i:Int) } ar kr v4 v8 br cB cO bn pb pa pk kn hd vf F vk K role/\Ext a (k.setCell (aA b 13) (sS bn i kn)) from λk z=>⟨(o.ext z).drop i (by simpa using d),(C.trans z).setCell (p:=(aA b 13)) (show a.heap.size<=b by omega) _⟩);go_quiet (fail);obtain⟨d1,I⟩:∃m,m=nq:=⟨_,rfl⟩;go_wp2_with fail
    go_region
    all_goals
     go_wp2;go_ret
     first | exact⟨by rw[uH r];rfl,by rw[uH j];exact⟨_,_,_,_,_,((n _ ((Ext.refl _).drewN _)).1).ext (Ext.refl _).drew,u.1,Or.inr ⟨NS,rfl⟩⟩,((n _ ((Ext.refl _).drewN _)).2).drew⟩ | exact⟨by rw[uH r];rfl,by rw[uH j];exact⟨_,_,_,_,_,(n _ ((Ext.refl _).drewN _)).1,u.1,Or.inr ⟨NS,rfl⟩⟩,(n _ ((Ext.refl _).drewN _)).2⟩
  ·skip
   have j:=uU (show hE x={ x with A:=x.A,I:=(i:Int) } by rw[uH y];unfold qE;rw[if_neg (λe=>d (by simpa using e.1))]);have G:((i:Int) == (x.A.length:Int)-1)=false:=by simp;omega
   go_quiet (fail);go_wp2;go_ret;exact⟨by rw[uH r];rfl,by rw[uH j];exact⟨_,_,_,_,_,o.ext ((Ext.refl _).drewN _),u.1,Or.inr ⟨NS,rfl⟩⟩,C.drewN _⟩
 ·have y:=uU (show hE x=qE { x with A:=x.A.set i Cl0,I:=(i:Int) } i by rw[uH N];unfold cJ;rw[if_pos (by simpa using E)]);have NS:=uU (show(x.c i).st=2 by simpa using E);go_wp2_with fail;refine(b1d o i f u.1 u.2 a ha C).mono ?_;rintro e A ⟨rfl,g3,x3⟩;obtain⟨pa',pk',vf',F',role',h3,U,X⟩:=g3.1;have r3:A.cell? (aA w.heap.size 0)=some (pP b):=(World.cell?_of_block (a:=(aA w.heap.size 0)) (g3.2 w.heap.size R S (by have:=V.1.1;omega) (λe=>Nat.lt_irrefl _ (L _ e)))).trans Z;have v:=uU (show SAt B A b { x with A:=x.A.set i Cl0,I:=(i:Int) } ar kr v4 v8 br cB cO bn pb pa' pk' kn hd vf' F' vk K role' from h3);have Y:=uU x3;have g:=uU (And.intro U X);have t:(x.A.set i Cl0).length=x.A.length:=by simp
  obtain⟨m0,m1⟩:=v.sb.nd i (by rw[t];exact f)
  have p0:A.cell? (aA (cB i) (cO i))=some (iv 0):=by
   have:=(v.rw.s i (by rw[t];exact f)).1;exact this.trans (by simp [Hp.c,f];rfl)
  have J:A.cell? (aA b 13)=some (sS bn x.A.length kn):=by have:=v.sb.n13;rw[t] at this;exact this
  go_wp2_with fail;by_cases d:i+1=x.A.length
  ·skip
   have j:=uU (show hE x={ x with A:=(x.A.set i Cl0).take i,I:=(i:Int) } by rw[uH y];unfold qE;rw[if_pos ⟨by simpa using d,by simp [Hp.c,f];rfl⟩]);have G:((i:Int) == (x.A.length:Int)-1)=true:=by simp;omega
   have k1:(i:Int)<=(kn:Int):=by omega
   have k0:(0:Int)<=(i:Int):=by omega
   have T:=v.sb.nb.2 13;have n:=uU (show ∀k,Ext A k->SAt B (k.setCell (aA b 13) (sS bn i kn)) b { x with A:=(x.A.set i Cl0).take i,I:=(i:Int) } ar kr v4 v8 br cB cO bn pb pa' pk' kn hd vf' F' vk K role'/\Ext a (k.setCell (aA b 13) (sS bn i kn)) from λk z=>⟨(v.ext z).drop i (by simpa using d),(Y.trans z).setCell (p:=(aA b 13)) (show a.heap.size<=b by omega) _⟩);go_quiet (fail);obtain⟨d1,I⟩:∃m,m=nq:=⟨_,rfl⟩;go_wp2_with fail
   go_region
   all_goals
    go_wp2;go_ret
    first | exact⟨by rw[uH r];rfl,by rw[uH j];exact⟨_,_,_,_,_,((n _ ((Ext.refl _).drewN _)).1).ext (Ext.refl _).drew,g.1,Or.inl ⟨NS,g.2⟩⟩,((n _ ((Ext.refl _).drewN _)).2).drew⟩ | exact⟨by rw[uH r];rfl,by rw[uH j];exact⟨_,_,_,_,_,(n _ ((Ext.refl _).drewN _)).1,g.1,Or.inl ⟨NS,g.2⟩⟩,(n _ ((Ext.refl _).drewN _)).2⟩
  ·skip
   have j:=uU (show hE x={ x with A:=x.A.set i Cl0,I:=(i:Int) } by rw[uH y];unfold qE;rw[if_neg (λe=>d (by simpa using e.1))]);have G:((i:Int) == (x.A.length:Int)-1)=false:=by simp;omega
   go_quiet (fail);go_wp2;go_ret;exact⟨by rw[uH r];rfl,by rw[uH j];exact⟨_,_,_,_,_,v.ext ((Ext.refl _).drewN _),g.1,Or.inl ⟨NS,g.2⟩⟩,Y.drewN _⟩
structure Ovr(x y:Hp)(φ:Nat->Nat):Prop where
 rl:y.B.length=x.B.length
 rg:∀k (h:k<x.B.length) (h':k<y.B.length),y.B[k].k=x.B[k].k/\(x.B[k].k=2->tgt y y.B[k] = φ (tgt x x.B[k]))
 g:∀i,qD x i->(y.c (φ i)).st=1/\φ i<y.A.length/\(y.c (φ i)).U=(x.c i).U/\(y.c (φ i)).F.length=(x.c i).F.length
 ky:∀i p,qD x i->p<(x.c i).F.length->((y.c (φ i)).p p).key.k=((x.c i).p p).key.k/\(((x.c i).p p).key.k=2->tgt y ((y.c (φ i)).p p).key = φ (tgt x ((x.c i).p p).key))
 vl:∀i p,qD x i->p<(x.c i).F.length->((y.c (φ i)).p p).val.k=((x.c i).p p).val.k/\(((x.c i).p p).val.k=2->tgt y ((y.c (φ i)).p p).val = φ (tgt x ((x.c i).p p).val))
 b:∀j,qD y j->∃i,qD x i/\j = φ i
 wk:∀i,qD x i->(y.c (φ i)).T=(x.c i).T
 ij:∀i j,qD x i->qD x j->φ i = φ j->i=j
 kb:∀i,qD x i->(y.c (φ i)).kind=(x.c i).kind/\(y.c (φ i)).born=(x.c i).born
 rn:∀k (h:k<x.B.length) (h':k<y.B.length),x.B[k].k≠2->y.B[k]=x.B[k]
 pn:∀i p,qD x i->p<(x.c i).F.length->(((x.c i).p p).key.k≠2->((y.c (φ i)).p p).key=((x.c i).p p).key)/\(((x.c i).p p).val.k≠2->((y.c (φ i)).p p).val=((x.c i).p p).val)
theorem Ovr.to(o:Ovr x y φ)(s:Snd x)(h:uZ x i):uZ y (φ i):=by
 have:=h (λi=>qD x i/\uZ y (φ i)) (λk c e=>⟨(a2b s.r2 s.r4 k c e).2.2.2.2,?_⟩) (λi m n d=>?_) (λj p a b e=>⟨((a0j s.r2 s.r4 j p a.1 b).1 e).2.2.2.2,?_⟩) (λj p a b e=>⟨((a0j s.r2 s.r4 j p a.1 b).2 e).2.2.2.2,?_⟩)
 ·exact this.2
 ·have f:k<y.B.length:=by rw[o.rl];exact c
  have r:=o.rg k c f;rw[<-r.2 e];exact uZ.reg k f (by rw[r.1];exact e)
 ·have l:=a0q s.r4 i m n d;have r:=o.g i l;exact⟨l,uZ.U _ r.2.1 r.1 (by unfold hQ at d ⊢;rw[r.2.2.1];exact d)⟩
 ·have r:=o.ky j p a.1 b;rw[<-r.2 e];exact uZ.key _ p a.2 (by rw[(o.g j a.1).2.2.2];exact b) (by rw[r.1];exact e)
 ·have r:=o.vl j p a.1 b;rw[<-r.2 e];exact uZ.val _ p a.2 (by rw[(o.g j a.1).2.2.2];exact b) (by rw[r.1];exact e)
theorem Ovr.from(o:Ovr x y φ)(s:Snd x)(t:Snd y)(h:uZ y j):∃i,uZ x i/\j = φ i:=by
 refine h (λj=>∃i,uZ x i/\j = φ i) (λk m e=>?_) (λj d q l=>?_) (λj p d c e=>?_) (λj p d c e=>?_)
 ·have n:k<x.B.length:=by rw[<-o.rl];exact m
  have r:=o.rg k n m;rw[r.1] at e;exact⟨_,uZ.reg k n e,r.2 e⟩
 ·obtain⟨i,a,rfl⟩:=o.b j (a0q t.r4 j d q l);have r:=o.g i a;exact⟨i,uZ.U i a.1 a.2.1 (by unfold hQ at l ⊢;rw[<-r.2.2.1];exact l),rfl⟩
 ·obtain⟨i,f,rfl⟩:=d;have a:=uZ.good s.r2 s.r4 f;rw[(o.g i a).2.2.2] at c;have r:=o.ky i p a c;rw[r.1] at e;exact⟨_,uZ.key i p f c e,r.2 e⟩
 ·obtain⟨i,f,rfl⟩:=d;have a:=uZ.good s.r2 s.r4 f;rw[(o.g i a).2.2.2] at c;have r:=o.vl i p a c;rw[r.1] at e;exact⟨_,uZ.val i p f c e,r.2 e⟩
def Kept(x:Hp):Prop:=∀i,qD x i->uZ x i
def S0(F:Nat->Nat):Nat->Nat
 | 0=>0
 | k+1=>S0 F k+F k
theorem c5k(x:Hp)(p:Nat->Bool):∀k,eY x p k=S0 (λi=>if p i then 1+(x.c i).F.length else 0) k
 | 0=>rfl
 | k+1=>by unfold eY S0;rw[c5k x p k]
theorem a8c{F G:Nat->Nat}:∀k,(∀i,i<k->F i=G i)->S0 F k=S0 G k
 | 0,_=>rfl
 | k+1,h=>by unfold S0;rw[a8c k (λi hi=>h i (by omega)),h k (by omega)]
theorem d2w(F G:Nat->Nat):∀k,S0 (λi=>F i+G i) k=S0 F k+S0 G k
 | 0=>rfl
 | k+1=>by unfold S0;rw[d2w F G k];omega
theorem c6k:∀k,S0 (λ_=>0) k=0
 | 0=>rfl
 | k+1=>by unfold S0;rw[c6k k]
theorem c2v(W:Nat->Nat)(a:Nat):∀k,S0 (λi=>if i=a then W i else 0) k=if a<k then W a else 0
 | 0=>by simp [S0]
 | k+1=>by
  unfold S0;rw[c2v W a k];by_cases e:k=a
  ·subst e;simp
  ·grind [S0]
theorem b2u(L:List Cl)(i q:Nat)(c:Cl):(L.set i c).getD q Cl0=if q=i/\i<L.length then c else L.getD q Cl0:=by
 simp only [List.getD_eq_getElem?_getD,List.getElem?_set];by_cases e:i=q
 ·grind [Hp.c,Cl0]
 ·simp [e,Ne.symm e]
theorem d2x(a:∀q,(y.c q).un=(x.c q).un)(i:Nat):zH y i=zH x i:=by
 unfold zH;rw[(dN (a i)).1,(dN (a i)).2.2.2.2.2.1]
theorem b2v(a:∀q,(y.c q).un=(x.c q).un)(u:Wd):tgt y u=tgt x u:=d2x a _
theorem a4z(f:y.B=x.B)(r:y.A.length=x.A.length)(a:∀q,(y.c q).un=(x.c q).un)(o:∀j,qD y j->qD x j):Ovr x y (λi=>i) where
 rl:=by rw[f]
 rg:=λk h n=>by
  have e:y.B[k]=x.B[k]:=by simp only [f]
  rw[e];exact⟨rfl,λ_=>b2v a _⟩
 g:=λi d=>by
  have u:=dN (a i);exact⟨by rw[u.1];exact d.2.1,by rw[r];exact d.1,u.2.2.2.1,by rw[u.2.2.2.2.2.2]⟩
 ky:=λi p d l=>by rw[b9e a];exact⟨rfl,λ_=>b2v a _⟩
 vl:=λi p d l=>by rw[b9e a];exact⟨rfl,λ_=>b2v a _⟩
 b:=λj m=>⟨j,o j m,rfl⟩
 wk:=λi _=>(dN (a i)).2.2.1
 ij:=λ_ _ _ _ h=>h
 kb:=λi _=>⟨(dN (a i)).2.1,(dN (a i)).2.2.2.2.1⟩
 rn:=λk h n _=>by simp only [f]
 pn:=λi p d l=>by rw[b9e a];exact⟨λ_=>rfl,λ_=>rfl⟩
theorem a8t(b:y.A.length=x.A.length)(a:∀q,(y.c q).un=(x.c q).un)(e:x.E≠3)(g:qD y j):qD x j:=
 ⟨by rw[<-b];exact g.1,by rw[<-(dN (a j)).1];exact g.2.1,λd=>e d.1⟩
theorem a4n(a:x.E≠3)(p h s r:Int):Ovr x { x with E:=p,I:=h,sub:=s,Q:=r } (λi=>i):=
 a4z rfl rfl (λ_=>rfl) (λ_ g=>a8t (x:=x) (y:={ x with E:=p,I:=h,sub:=s,Q:=r }) rfl (λ_=>rfl) a g)
def Col(x:Hp):Prop:=∀i,i<x.A.length->(x.c i).J≠0->uZ x i
theorem a8d(l:y.B=x.B)(s:y.A.length=x.A.length)(a:∀q,(y.c q).un=(x.c q).un)(h:uZ x i):uZ y i:=by
 refine h (uZ y) (λk n e=>?_) (λi m r g=>?_) (λj p b d e=>?_) (λj p b d e=>?_)
 ·have o:k<y.B.length:=by rw[l];exact n
  have f:y.B[k]=x.B[k]:=by simp only [l]
  rw[<-b2v a,<-f];exact uZ.reg k o (by rw[f];exact e)
 ·have u:=dN (a i);exact uZ.U i (by rw[s];exact m) (by rw[u.1];exact r) (by unfold hQ at g ⊢;rw[u.2.2.2.1];exact g)
 ·rw[<-b2v a,<-b9e a];exact uZ.key j p b (by rw[b5m a];exact d) (by rw[b9e a];exact e)
 ·rw[<-b2v a,<-b9e a];exact uZ.val j p b (by rw[b5m a];exact d) (by rw[b9e a];exact e)
theorem Col.shade(c:Col x)(i:Nat)(f:i<x.A.length)(r:uZ x i):Col (uD x i):=λq d a=>by
 obtain⟨_,_,_,g,b,_⟩:=cU x i;rw[b] at d;refine a8d g b (a3m x i f) ?_;rw[a6e x i f] at a;by_cases e:eQ x i=true/\q=i
 ·rw[e.2];exact r
 ·rw[if_neg e] at a;exact c q d a
theorem Col.shadeW(c:Col x)(y:Wd)(b:dQ x y)(r:y.k=2->uZ x y.a.toNat):Col (shadeW x y):=by
 unfold Go.Proofs.YtddkhnclmeikfaaGreat.shadeW
 split
 ·grind [Hp.c,Col.shade,Snd.shade,Col,shadeW,dQ,uZ]
 ·exact c
theorem Col.fold{x:Hp}(hm:uY x):∀(ys:List Wd) (z:Hp),(∀y,y∈ys->dQ x y/\(y.k=2->uZ x y.a.toNat))->Shd x z->Col z->Col (ys.foldl Go.Proofs.YtddkhnclmeikfaaGreat.shadeW z)
 | [],_,_,_,c=>c
 | y::ys,z,h,sh,c=>by
  have h1:=h y (by simp);rw[List.foldl_cons];exact Col.fold hm ys _ (λu hu=>h u (by simp [hu])) (sh.step y h1.1).1 (c.shadeW y (h1.1.keep sh.len sh.un) (λe=>a8d sh.B sh.len sh.un (h1.2 e)))
theorem Col.same(c:Col x)(f:y.B=x.B)(a:y.A.length=x.A.length)(e:∀q,(y.c q).un=(x.c q).un)(d:∀q,(y.c q).J≠0->(x.c q).J≠0):Col y:=λq b h=>a8d f a e (c q (by rw[<-a];exact b) (d q h))
theorem b6o(s:Snd x)(c:x.E<4){y:Wd}(d:dQ x y)(b:y.k=2):tgt x y=y.a.toNat:=by
 unfold tgt zH;rw[if_neg (by simp;exact s.nomoved c _ (d b).1)]
theorem Snd.moved_to(s:Snd x)(a:i<x.A.length)(h:(x.c i).st=2):0<=(x.c i).to/\(x.c i).to<i/\(x.c (x.c i).to.toNat).st=1/\(x.E=4->∀k:Nat,(k:Int)<(x.c i).to->(x.c k).st≠0):=by
 rcases s.r2.1 i a with⟨e,_⟩ | ⟨_,m⟩ | ⟨e,_⟩
 ·omega
 ·exact⟨m.2.2.1,m.2.2.2.1,m.2.2.2.2⟩
 ·omega
theorem a8u(h:(x.c i).st≠2):zH x i=i:=by grind [Hp.c,zH]
theorem b6p(h:(x.c i).st=2):zH x i=(x.c i).to.toNat:=by grind [Hp.c,zH,Ovr.to]
theorem move_c(t f:Nat)(a:t<f)(b:f<x.A.length)(q:Nat):(dL x t f).c q=if q=f then mvC t else if q=t then x.c f else x.c q:=by grind [uX.A,QFr.A,dL,Hp.c,mvC,qC.set,Nf1.set,Cl0,b2u]
theorem Snd.o4m(s:Snd x)(r:x.E=4)(t f:Nat)(B:t<f)(D:f<x.A.length)(O:(x.c t).st=0)(K:(x.c f).st=1):Ovr x (dL x t f) (λi=>if i=f then t else i):=by
 have v:=move_c (x:=x) t f B D;have C:∀q,¬uE x q:=λq d=>by have:=d.1;omega
 have L:(dL x t f).c t=x.c f:=by rw[v,if_neg (by omega),if_pos rfl]
 have I:(dL x t f).c f=mvC t:=by rw[v,if_pos rfl]
 have E:∀q,q≠f->q≠t->(dL x t f).c q=x.c q:=λq a b=>by rw[v,if_neg a,if_neg b]
 have w:∀y:Wd,y.k=2->a0y x y->tgt (dL x t f) y=if tgt x y=f then t else tgt x y:=λy u J=>by
  obtain⟨_,M,N,_,G⟩:=J u;have F:=G.2.1;unfold tgt at F ⊢;by_cases a:y.a.toNat=f
  ·grind [b6p,a8u,mvC,Hp.c,dL]
  ·grind [a8u,Hp.c,Snd.moved_to,b6p,dL]
 have n:∀k (h:k<x.B.length) (o:k<(dL x t f).B.length),(dL x t f).B[k]=mvW t f x.B[k]:=λk h o=>by simp [dL]
 have m:∀i,qD x i->(dL x t f).c (if i=f then t else i)=x.c i:=λi g=>by grind [qD,dL,Hp.c]
 refine⟨by simp [dL],λk h o=>?_,λi g=>?_,λi p g r=>?_,λi p g r=>?_,λj A=>?_,λi g=>by rw[m i g],λi j g A e=>?_,λi g=>by rw[m i g];exact⟨rfl,rfl⟩,λk h o e=>by rw[n k h o];unfold mvW;rw[if_neg (λz=>e z.1)],λi p g r=>by rw[m i g];exact⟨λ_=>rfl,λ_=>rfl⟩⟩
 ·rw[n k h o];unfold mvW;by_cases e:x.B[k].k=2/\x.B[k].a=(f:Int)
  ·grind [tgt,a8u,zH,dL,Hp.c]
  ·rw[if_neg e];exact⟨rfl,λu=>w _ u (a2b s.r2 s.r4 k h)⟩
 ·rw[m i g];refine⟨g.2.1,?_,rfl,rfl⟩;have:=g.1;simp only [dL,List.length_set]
  split <;> omega
 ·rw[m i g];exact⟨rfl,λe=>w _ e (a0j s.r2 s.r4 i p g r).1⟩
 ·rw[m i g];exact⟨rfl,λe=>w _ e (a0j s.r2 s.r4 i p g r).2⟩
 ·have l:=A.2.1;have H:j<x.A.length:=by have:=A.1;simpa [dL] using this
  by_cases e:j=f
  ·rw[e,I] at l;simp [mvC] at l
  ·by_cases b:j=t
   ·exact⟨f,⟨D,K,C f⟩,by rw[if_pos rfl];exact b⟩
   ·rw[E j e b] at l;exact⟨j,⟨H,l,C j⟩,by rw[if_neg e]⟩
 ·grind [qD,Hp.c,dL]
theorem Snd.o1(s:Snd x)(r:x.E=1):Ovr x (dC x) (λi=>i)/\(Col x->Col (dC x))/\((dC x).E=1\/(dC x).E=2):=by
 have p:=s.r1.I;unfold dC
 split
 ·exact⟨a4n (by omega) 2 0 0 x.Q,λc=>c.same rfl rfl (λ_=>rfl) (λ_ h=>h),.inr rfl⟩
 ·rename_i q;by_cases e:yZ (x.c x.I.toNat)=true
  ·rw[if_pos e];have a:x.I.toNat<x.A.length:=by omega
   obtain⟨_,_,_,o,f,l,_⟩:=cU x x.I.toNat;have d:=a3m x x.I.toNat a;have k:=(a7o _).1 e
   have m:(x.c x.I.toNat).st=1:=by
    have n:=s.r2.1 _ a;unfold hQ at k;rcases n with⟨_,b,_⟩ | ⟨_,b⟩ | ⟨h,_⟩
    ·have:=b.2.2.1;omega
    ·have:=b.1.2.2.1;omega
    ·exact h
   refine⟨a4z o f d (λj g=>a8t (x:=x) (y:={ uD x x.I.toNat with I:=x.I+1 }) f d (by omega) g),λc=>?_,.inl (by show(uD x _).E=1;omega)⟩;exact(c.shade _ a (uZ.U _ a m k)).same rfl rfl (λ_=>rfl) (λ_ h=>h)
  ·grind [a4n,Snd.I,Add.sub,Hp.c,qC.same,Col.same,dC,Col]
theorem Snd.reach_reg(s:Snd x)(d:x.E<4)(i:Nat)(b:i<x.B.length)(c:x.B[i].k=2):uZ x x.B[i].a.toNat:=by grind [uZ,b6o,Snd.good_reg,uZ.reg]
theorem Snd.o2(s:Snd x)(v:x.E=2):Ovr x (cX x) (λi=>i)/\(Col x->(cX x).E=2->Col (cX x))/\(Col x->(cX x).E=3->Kept (cX x))/\((cX x).E=2\/(cX x).E=3):=by
 have w:uY x:=.inr v;unfold cX
 split
 ·rename_i g G z;have T:=s.r5.2.2 g (by rw[z];simp);have f:g.toNat<x.A.length:=by omega
  have Y:(x.c g.toNat).J=1:=(c5z s.r5 g.toNat f).1 (by rw[z];simp;omega)
  split
  ·rename_i W;have M:=s.r1.sub;have o:x.sub.toNat<(x.c g.toNat).F.length:=by omega
   obtain⟨t,E⟩:=s.good_pair w g.toNat x.sub.toNat f o;obtain⟨B,u,R,V,Z⟩:=a0b x ((x.c g.toNat).p x.sub.toNat).key;have r:=a3d x ((x.c g.toNat).p x.sub.toNat).key t;have n:=E.keep u r;obtain⟨L,O,U,S,X⟩:=a0b (shadeW x ((x.c g.toNat).p x.sub.toNat).key) ((x.c g.toNat).p x.sub.toNat).val;have N:=a3d _ ((x.c g.toNat).p x.sub.toNat).val n;have m:∀q,((shadeW (shadeW x ((x.c g.toNat).p x.sub.toNat).key) ((x.c g.toNat).p x.sub.toNat).val).c q).un=(x.c q).un:=λq=>(N q).trans (r q)
   have l:=O.trans u;have P:=L.trans B;refine⟨a4z P l m (λj b=>a8t (x:=x) (y:={ shadeW (shadeW x ((x.c g.toNat).p x.sub.toNat).key) ((x.c g.toNat).p x.sub.toNat).val with sub:=x.sub+1 }) l m (by omega) b),λc _=>?_,λ_ e=>?_,.inl ?_⟩
   ·have D:=c g.toNat f (by omega)
    have H:((x.c g.toNat).p x.sub.toNat).key.k=2->uZ x ((x.c g.toNat).p x.sub.toNat).key.a.toNat:=λe=>by
     rw[<-b6o s (by omega) t e];exact uZ.key _ _ D o e
    have J:((x.c g.toNat).p x.sub.toNat).val.k=2->uZ x ((x.c g.toNat).p x.sub.toNat).val.a.toNat:=λe=>by
     rw[<-b6o s (by omega) E e];exact uZ.val _ _ D o e
    exact((c.shadeW _ t H).shadeW _ n (λe=>a8d B u r (J e))).same rfl rfl (λ_=>rfl) (λ_ h=>h)
   ·grind [Col.shadeW,shadeW,Hp.c,Cl.p,Add.sub,uZ.key,uZ.val,cX,Col,Kept]
   ·grind [Col.shadeW,shadeW,Hp.c,Cl.p,Add.sub,uZ.key,uZ.val,cX,Col,Kept]
  ·have I:∀q,(({ x with A:=x.A.set g.toNat (a1j (x.c g.toNat)),D:=G,sub:=0 }:Hp).c q)=if q=g.toNat/\g.toNat<x.A.length then a1j (x.c g.toNat) else x.c q:=λq=>b2u _ _ _ _
   have m:∀q,(({ x with A:=x.A.set g.toNat (a1j (x.c g.toNat)),D:=G,sub:=0 }:Hp).c q).un=(x.c q).un:=λq=>by
    rw[I];split
    ·rename_i h;rw[h.1];rfl
    ·rfl
   have l:({ x with A:=x.A.set g.toNat (a1j (x.c g.toNat)),D:=G,sub:=0 }:Hp).A.length=x.A.length:=by simp
   refine⟨a4z rfl l m (λj b=>a8t l m (by omega) b),λc _=>c.same rfl l m (λq h=>?_),λ_ e=>?_,.inl v⟩
   ·grind [cX,Col,Kept]
   ·have K:x.E=3:=e;omega
 ·have d:=(s.look v).1
  have C:Col x->Col (eE x):=λc=>Col.fold w x.B x (λy F=>by
   obtain⟨i,A,e⟩:=List.getElem_of_mem F;rw[<-e];exact⟨s.good_reg i A,s.reach_reg (by omega) i A⟩) (Shd.refl s) c
  have Q:=d.E
  split
  ·refine⟨a4z (y:=cZ (eE x) 3 0) d.B d.len d.un (λj b=>a8t (x:=x) (y:=cZ (eE x) 3 0) d.len d.un (by omega) b),λ_ e=>?_,λc _ j b=>?_,.inr rfl⟩
   ·have K:(3:Int)=2:=e;omega
   ·refine a8d (x:=eE x) (y:=cZ (eE x) 3 0) rfl rfl (λ_=>rfl) (C c j b.1 (λe=>b.2.2 ⟨rfl,?_,b.2.1,e⟩));show(0:Int)<=j;omega
  ·refine⟨a4z d.B d.len d.un (λj b=>a8t d.len d.un (by omega) b),λc _=>C c,λ_ e=>?_,.inl (by omega)⟩;omega
theorem Snd.o3(s:Snd x)(g:x.E=3):Ovr x (cY x) (λi=>i)/\((cY x).E=3\/(cY x).E=4):=by
 have z:=s.r1.I;unfold cY
 split
 ·rename_i e;exact⟨a4z (y:=cZ x 4 0) rfl rfl (λ_=>rfl) (λj b=>⟨b.1,b.2.1,λd=>by have:=d.2.1;have:j<x.A.length:=b.1;omega⟩),.inr rfl⟩
 ·rename_i A;have v:x.I.toNat<x.A.length:=by omega
  split
  ·rename_i w;have w:=(b4e _).1 w;have C:uE x x.I.toNat:=⟨g,by omega,w.1,w.2⟩;have l:∀q,(({ x with K:=x.K-(1+(x.c x.I.toNat).F.length),A:=x.A.set x.I.toNat Cl0,I:=x.I+1 }:Hp).c q)=if q=x.I.toNat/\x.I.toNat<x.A.length then Cl0 else x.c q:=λq=>b2u _ _ _ _
   have t:∀u,tgt ({ x with K:=x.K-(1+(x.c x.I.toNat).F.length),A:=x.A.set x.I.toNat Cl0,I:=x.I+1 }:Hp) u=tgt x u:=λu=>by
    unfold tgt zH;rw[l]
    split
    ·grind [Cl0,cY]
    ·rfl
   have f:∀i,qD x i->({ x with K:=x.K-(1+(x.c x.I.toNat).F.length),A:=x.A.set x.I.toNat Cl0,I:=x.I+1 }:Hp).c i=x.c i:=λi a=>by grind [qD,Hp.c,Snd.I,uX.A,QFr.A,qC.set,Nf1.set,Cl0,cY]
   refine⟨⟨rfl,λk h B=>⟨rfl,λ_=>t _⟩,λi a=>?_,λi p a g=>?_,λi p a g=>?_,λj b=>⟨j,?_,rfl⟩,λi a=>by rw[f i a],λ_ _ _ _ h=>h,λi a=>by rw[f i a];exact⟨rfl,rfl⟩,λ_ _ _ _=>rfl,λi p a g=>by rw[f i a];exact⟨λ_=>rfl,λ_=>rfl⟩⟩,.inl g⟩
   ·rw[f i a];exact⟨a.2.1,by simpa using a.1,rfl,rfl⟩
   ·grind [cY]
   ·grind [cY]
   ·have m:=b.2.1
    have r:¬(j=x.I.toNat/\x.I.toNat<x.A.length):=λh=>by
     rw[l,if_pos h] at m;simp [Cl0] at m
    have n:=b.2.2;have e:({ x with K:=x.K-(1+(x.c x.I.toNat).F.length),A:=x.A.set x.I.toNat Cl0,I:=x.I+1 }:Hp).c j=x.c j:=by rw[l,if_neg r]
    rw[e] at m;refine⟨by simpa using b.1,m,λd=>n ⟨g,?_,by rw[e];exact m,by rw[e];exact d.2.2.2⟩⟩;show x.I+1<=j;have:=d.2.1;omega
  ·rename_i w;have w:=λh=>w ((b4e _).2 h)
   have l:∀q,(({ x with A:=x.A.set x.I.toNat (qX (x.c x.I.toNat)),I:=x.I+1 }:Hp).c q)=if q=x.I.toNat/\x.I.toNat<x.A.length then qX (x.c x.I.toNat) else x.c q:=λq=>b2u _ _ _ _
   have o:∀q,(({ x with A:=x.A.set x.I.toNat (qX (x.c x.I.toNat)),I:=x.I+1 }:Hp).c q).un=(x.c q).un:=λq=>by
    rw[l];split
    ·rename_i h;rw[h.1];rfl
    ·rfl
   refine⟨a4z rfl (by simp) o (λj b=>⟨by simpa using b.1,by rw[<-(dN (o j)).1];exact b.2.1,λd=>?_⟩),.inl g⟩;by_cases e:j=x.I.toNat
   ·exact w (e ▸ ⟨d.2.2.1,d.2.2.2⟩)
   ·have n:=b.2.2;refine n ⟨g,?_,b.2.1,?_⟩
    ·show x.I+1<=j;have:=d.2.1;omega
    ·rw[l,if_neg (λh=>e h.1)];exact d.2.2.2
theorem d2y(a:Nat)(n:y.B=x.B)(q:∀i,qD x i->i<y.A.length)(u:∀j,qD y j->qD x j)(l:∀i,i≠a->qD x i->y.c i=x.c i)
  (m:qD x a->(y.c a).st=1/\(y.c a).U=(x.c a).U/\(y.c a).F.length=(x.c a).F.length/\(y.c a).T=(x.c a).T/\(y.c a).kind=(x.c a).kind/\(y.c a).born=(x.c a).born)
  (v:∀k (h:k<x.B.length),x.B[k].k=2->tgt y x.B[k]=tgt x x.B[k])
  (o:∀i p,i≠a->qD x i->p<(x.c i).F.length->(((x.c i).p p).key.k=2->tgt y ((x.c i).p p).key=tgt x ((x.c i).p p).key)/\(((x.c i).p p).val.k=2->tgt y ((x.c i).p p).val=tgt x ((x.c i).p p).val))
  (r:∀p,qD x a->p<(x.c a).F.length->(((y.c a).p p).key.k=((x.c a).p p).key.k/\(((x.c a).p p).key.k=2->tgt y ((y.c a).p p).key=tgt x ((x.c a).p p).key))/\(((y.c a).p p).val.k=((x.c a).p p).val.k/\(((x.c a).p p).val.k=2->tgt y ((y.c a).p p).val=tgt x ((x.c a).p p).val)))
  (w:∀p,qD x a->p<(x.c a).F.length->(((x.c a).p p).key.k≠2->((y.c a).p p).key=((x.c a).p p).key)/\(((x.c a).p p).val.k≠2->((y.c a).p p).val=((x.c a).p p).val)):Ovr x y (λi=>i) where
 rl:=by rw[n]
 rg:=λk h t=>by
  have e:y.B[k]=x.B[k]:=by simp only [n]
  rw[e];exact⟨rfl,v k h⟩
 g:=λi d=>by
  by_cases e:i=a
  ·subst e;have:=m d;exact⟨this.1,q _ d,this.2.1,this.2.2.1⟩
  ·rw[l i e d];exact⟨d.2.1,q _ d,rfl,rfl⟩
 ky:=λi p d f=>by
  by_cases e:i=a
  ·subst e;exact(r p d f).1
  ·rw[l i e d];exact⟨rfl,(o i p e d f).1⟩
 vl:=λi p d f=>by
  by_cases e:i=a
  ·subst e;exact(r p d f).2
  ·rw[l i e d];exact⟨rfl,(o i p e d f).2⟩
 b:=λj s=>⟨j,u j s,rfl⟩
 wk:=λi d=>by
  by_cases e:i=a
  ·subst e;exact(m d).2.2.2.1
  ·rw[l i e d]
 ij:=λ_ _ _ _ h=>h
 kb:=λi d=>by
  by_cases e:i=a
  ·subst e;exact(m d).2.2.2.2
  ·rw[l i e d];exact⟨rfl,rfl⟩
 rn:=λk h t _=>by simp only [n]
 pn:=λi p d f=>by
  by_cases e:i=a
  ·subst e;exact w p d f
  ·rw[l i e d];exact⟨λ_=>rfl,λ_=>rfl⟩
theorem Snd.o5(s:Snd x)(H:x.E=5):Ovr x (cV x) (λi=>i)/\((cV x).E=5\/(cV x).E=6)/\(∀q,((cV x).c q).st=(x.c q).st)/\(cV x).A.length=x.A.length/\((cV x).E=6->(cV x).I=x.A.length):=by
 have T:=s.r1.I;have M:=s.r1.sub;unfold cV
 split
 ·exact⟨a4n (by omega) 6 x.A.length 0 x.Q,.inr rfl,λ_=>rfl,rfl,λ_=>rfl⟩
 ·rename_i V
  split
  ·rename_i B;obtain⟨i,K⟩:∃i,i=x.I.toNat:=⟨_,rfl⟩;obtain⟨k,I⟩:∃k,k=x.sub.toNat:=⟨_,rfl⟩;rw[<-K] at B ⊢;rw[<-I];have f:i<x.A.length:=by omega
   have D:k<(x.c i).F.length:=by omega
   have r:(x.c i).st=1:=by
    rcases s.r2.1 i f with⟨_,b,_⟩ | ⟨_,b⟩ | ⟨a,_⟩
    ·have:=b.2.2.2.2.2;omega
    ·have:=b.1.2.2.2.2.2;omega
    ·exact a
   have G:∀q,¬uE x q:=λq d=>by have:=d.1;omega
   obtain⟨y,l⟩:∃y:Hp,y={ x with A:=x.A.set i (qH x (x.c i) k),sub:=x.sub+1 }:=⟨_,rfl⟩;have E:∀q,y.c q=if q=i/\i<x.A.length then qH x (x.c i) k else x.c q:=λq=>by rw[l];exact b2u _ _ _ _
   have N:y.B=x.B:=by rw[l]
   have A:y.A.length=x.A.length:=by rw[l];simp
   have L:y.E=x.E:=by rw[l]
   rw[<-l];clear l;have n:y.c i=qH x (x.c i) k:=by rw[E,if_pos ⟨rfl,f⟩]
   have C:∀q,q≠i->y.c q=x.c q:=λq h=>by rw[E,if_neg (λe=>h e.1)]
   have st:∀q,(y.c q).st=(x.c q).st:=λq=>by
    by_cases e:q=i
    ·rw[e,n];rfl
    ·rw[C q e]
   have O:∀q,(y.c q).to=(x.c q).to:=λq=>by
    by_cases e:q=i
    ·rw[e,n];rfl
    ·rw[C q e]
   have g:∀u,tgt y u=tgt x u:=λu=>by unfold tgt zH;rw[st,O]
   have w:∀u:Wd,a0y x u->(eZ x u).k=u.k/\(u.k=2->tgt x (eZ x u)=tgt x u):=λu mu=>by
    unfold eZ;by_cases e:u.k=2/\(x.c u.a.toNat).st=2
    ·rw[if_pos e];obtain⟨_,Q,U,_,S⟩:=mu e.1;refine⟨e.1.symm,λ_=>?_⟩;have m:=s.moved_to (i:=u.a.toNat) (by omega) e.2;unfold tgt;rw[b6p e.2,a8u (by show(x.c (x.c u.a.toNat).to.toNat).st≠2;omega)]
    ·rw[if_neg e];exact⟨rfl,λ_=>rfl⟩
   have J:qD x i:=⟨f,r,G i⟩
   have F:∀p,(qH x (x.c i) k).p p=if p=k then ⟨eZ x ((x.c i).p k).key,eZ x ((x.c i).p k).val⟩ else (x.c i).p p:=λp=>by
    unfold qH Cl.p;simp only [List.getD_eq_getElem?_getD,List.getElem?_set];by_cases e:k=p
    ·subst e;simp [D]
    ·simp [e,Ne.symm e]
   refine⟨d2y i N (λj t=>by rw[A];exact t.1) (λj t=>⟨by rw[<-A];exact t.1,by rw[<-st];exact t.2.1,G j⟩) (λj P _=>C j P) (λ_=>?_) (λ_ _ _=>g _) (λ_ _ _ _ _=>⟨λ_=>g _,λ_=>g _⟩) (λp _ o=>?_) (λp _ o=>?_),.inl (by rw[L];exact H),st,A,λe=>by omega⟩
   ·rw[n];exact⟨r,rfl,by simp [qH],rfl,rfl,rfl⟩
   ·have v:=a0j s.r2 s.r4 i p J o;rw[n,F];by_cases q:p=k
    ·rw[if_pos q];subst q;exact⟨⟨(w _ v.1).1,λh=>by rw[g];exact(w _ v.1).2 h⟩,⟨(w _ v.2).1,λh=>by rw[g];exact(w _ v.2).2 h⟩⟩
    ·rw[if_neg q];exact⟨⟨rfl,λ_=>g _⟩,⟨rfl,λ_=>g _⟩⟩
   ·rw[n,F];by_cases q:p=k
    ·rw[if_pos q,q];exact⟨λz=>by show eZ x _=_;unfold eZ;rw[if_neg (λh=>z h.1)],λz=>by show eZ x _=_;unfold eZ;rw[if_neg (λh=>z h.1)]⟩
    ·rw[if_neg q];exact⟨λ_=>rfl,λ_=>rfl⟩
  ·exact⟨a4n (by omega) x.E (x.I+1) 0 x.Q,.inl H,λ_=>rfl,rfl,λe=>by have R:x.E=6:=e;omega⟩
theorem d2z{u:Wd}(h:dQ x u)(b:u.k=2):tgt x u=u.a.toNat:=by unfold tgt;exact a8u (by have:=(h b).2;omega)
theorem Snd.o6(s:Snd x)(D:x.E=6)(i:Nat)(l:y.B=x.B)(v:∀q,q<x.A.length->(x.c q).st=1->q<y.A.length)(t:∀q,q<y.A.length->q≠i->y.c q=x.c q)(A:i<y.A.length->(x.c i).st=1->y.c i=x.c i)(C:i<y.A.length->(x.c i).st≠1->(y.c i).st≠1)(B:y.A.length<=x.A.length):Ovr x y (λi=>i):=by
 obtain⟨w,np⟩:=s.noword D
 have b:∀q,qD x q->y.c q=x.c q:=λq g=>by
  have n:=v q g.1 g.2.1;by_cases e:q=i
  ·subst e;exact A n g.2.1
  ·exact t q n e
 have f:∀u,dQ x u->u.k=2->tgt y u=tgt x u:=λu o m=>by
  have h:=o m;rw[d2z o m];unfold tgt;rw[a8u];rw[b _ ⟨h.1,h.2,λd=>by have:=d.1;omega⟩];omega
 refine⟨by rw[l],λk h z=>?_,λq g=>?_,λq p g a=>?_,λq p g a=>?_,λj g=>⟨j,?_,rfl⟩,λq g=>by rw[b q g],λ_ _ _ _ h=>h,λq g=>by rw[b q g];exact⟨rfl,rfl⟩,λk h z _=>by simp only [l],λq p g _=>by rw[b q g];exact⟨λ_=>rfl,λ_=>rfl⟩⟩
 ·have e:y.B[k]=x.B[k]:=by simp only [l]
  rw[e];exact⟨rfl,f _ (w k h)⟩
 ·rw[b q g];exact⟨g.2.1,v q g.1 g.2.1,rfl,rfl⟩
 ·rw[b q g];exact⟨rfl,f _ (np q p g.1 a).1⟩
 ·rw[b q g];exact⟨rfl,f _ (np q p g.1 a).2⟩
 ·have r:=g.2.1;refine⟨Nat.lt_of_lt_of_le g.1 B,?_,λd=>by have:=d.1;omega⟩;by_cases e:j=i
  ·subst e;by_cases u:(x.c j).st=1
   ·exact u
   ·exact(C g.1 u r).elim
  ·rw[<-t j g.1 e];exact r
theorem Snd.f6(s:Snd x)(l:x.E=6)(i:Nat)(k:x.I=(i:Int)+1):(hE x).B=x.B/\(hE x).E=6/\(hE x).I=i/\((hE x).A.length=x.A.length\/((hE x).A.length=i/\i+1=x.A.length/\(x.c i).st≠1))/\
  (∀q,q<(hE x).A.length->q≠i->(hE x).c q=x.c q)/\(i<(hE x).A.length->(x.c i).st=1->(hE x).c i=x.c i)/\(i<(hE x).A.length->(x.c i).st≠1->((hE x).c i).st≠1/\i+1<x.A.length):=by
 have h:=s.r1.I;have f:¬x.I=0:=by omega
 have b:(x.I-1).toNat=i:=by omega
 have a:i<x.A.length:=by omega
 unfold hE;rw[if_neg f,b]
 have e:∀q,(cJ x i).c q=if (x.c i).st=2/\q=i then Cl0 else x.c q:=λq=>by grind [cJ,Hp.c,Cl0,b2u,hE]
 have j:(cJ x i).A.length=x.A.length:=by unfold cJ;split <;> simp
 have g:((cJ x i).c i).st=if (x.c i).st=1 then 1 else 0:=by
  rw[e];rcases s.r2.1 i a with⟨z,_⟩ | ⟨z,_⟩ | ⟨z,_⟩
  ·rw[z];simp [z]
  ·rw[z];simp [Cl0]
  ·rw[z];simp [z]
 by_cases d:i+1=(cJ x i).A.length/\((cJ x i).c i).st=0
 ·grind [qE,Hp.c,Grw.at,cJ,Cl0,hE]
 ·grind [qE,cJ,Hp.c,hE]
theorem Snd.o6u(s:Snd x)(c:x.E=6):Ovr x (hE x) (λi=>i):=by
 have o:=s.r1.I;by_cases v:x.I=0
 ·grind [hE,a4n]
 ·obtain⟨i,g⟩:∃i:Nat,x.I=(i:Int)+1:=⟨(x.I-1).toNat,by omega⟩;obtain⟨j,u,n,f,d,h,k⟩:=s.f6 c i g;refine s.o6 c i j (λq l t=>?_) d h (λa b=>(k a b).1) (by omega);rcases f with e | ⟨m,r,p⟩
  ·omega
  ·grind [hE]
theorem Snd.ovrU(s:Snd x):∃φ,Ovr x (cE x) φ:=by
 unfold cE
 split
 ·grind [Snd.o1,cE]
 split
 ·grind [Snd.o2,cE]
 split
 ·grind [Snd.o3,cE]
 split
 ·rename_i c;obtain⟨d,a,b⟩:=a1b x;unfold unit4
  split
  ·exact⟨_,a4n (x:=x) (by omega) 5 0 0 x.Q⟩
  ·grind [dW.hlt,a1s,a1c,Grw.at,Snd.o4m,uV,cE]
 split
 ·grind [Snd.o5,cE]
 split
 ·rename_i e;exact⟨_,s.o6u e⟩
 ·exact⟨_,a4z rfl rfl (λ_=>rfl) (λ_ g=>g)⟩
theorem live_ex(x:Hp)(s:Snd x):∃n,a1z x n:=by
 classical
 exact⟨_,.inl ⟨s.ok,λi=>decide (uZ x i),λi=>by simp,rfl⟩⟩
end Go.Proofs.YtddkhnclmeikfaaGreat
