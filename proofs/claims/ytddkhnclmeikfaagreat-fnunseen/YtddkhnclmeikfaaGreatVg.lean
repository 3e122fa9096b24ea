import Derived.Test.YtddkhnclmeikfaaGreatImpJ
import Derived.Test.YtddkhnclmeikfaaGreatEc0
import Derived.Test.YtddkhnclmeikfaaGreatPq
set_option maxRecDepth 100000
set_option maxHeartbeats 1000000
namespace Go.Proofs.YtddkhnclmeikfaaGreat
open Go.RowKit Tryz
attribute [local go_sem ↓] Go.wp_at_zero Go.wp_at_succ
variable{B kr br b bn kn hd qb n g kc bc:Nat}{x:Hp}{ar ac:Option Addr}{pb pk role cB cO:Nat->Nat}{pa:Nat->Option Addr}{w0 w W W':World}{v4 v8 vf vk vg:Value}{F:List Int}{K:List Nat}
theorem SAt.setp[Inhabited uQ]{w':World}(h:SAt B w b x ar kr v4 v8 br cB cO bn pb pa pk kn hd vf F vk K role)(i:Nat)(O:i<x.A.length)(k:Nat)(P:k<(x.c i).F.length)(A:Pr)(o:uX (λq=>q=pb i) w w')(nf:Nf1 (pb i) w')(hp:qN w' (pb i) (k*6) A)(ho:∀j,(j<k*6\/k*6+6<=j)->w'.cell? (aA (pb i) j)=w.cell? (aA (pb i) j)):
  SAt B w' b { x with A:=x.A.set i { x.c i with F:=(x.c i).F.set k A } } ar kr v4 v8 br cB cO bn pb pa pk kn hd vf F vk K role:=by
 have I:0<(x.c i).F.length:=by omega
 have U:=h.sp.p i O (h.rw.pw O I);have u:∀q,q<w.heap.size->role q≠6+i->w'.heap[q]?=w.heap[q]?:=λq g E=>o.block q g (λe=>E (by rw[e];exact U))
 have t:({ x with A:=x.A.set i { x.c i with F:=(x.c i).F.set k A } }:Hp).A.length=x.A.length:=by simp
 have Q:=Hp.c_set x i { x.c i with F:=(x.c i).F.set k A } O;have v:∀q,q≠i->(({ x with A:=x.A.set i { x.c i with F:=(x.c i).F.set k A } }:Hp).c q)=x.c q:=λq e=>by rw[Q q,if_neg e]
 have H:(({ x with A:=x.A.set i { x.c i with F:=(x.c i).F.set k A } }:Hp).c i)={ x.c i with F:=(x.c i).F.set k A }:=by rw[Q i,if_pos rfl]
 have D:∀q,(({ x with A:=x.A.set i { x.c i with F:=(x.c i).F.set k A } }:Hp).c q).F.length=(x.c q).F.length:=λq=>by grind [Hp.c,Nf1,qN]
 have J:∀q,q<x.A.length->w'.heap[cB q]?=w.heap[cB q]?:=λq g=>u (cB q) (h.rw.nc q g).1.1 (by rw[h.sp.c q g];omega)
 have S:∀q,q<x.A.length->q≠i->0<pk q->w'.heap[pb q]?=w.heap[pb q]?:=λq g W t=>u (pb q) (h.rw.pl q g t).2.1.1 (by rw[h.sp.p q g t];omega)
 have l:=h.sb.same o.size (u b h.sb.nb.1 (by rw[h.sp.b];omega)) (u bn h.sb.lo.2.2.1 (by rw[h.sp.n];omega)) (λq g=>u q (h.sb.fr.own.lt q g).2 (by rw[h.sp.f q g];omega)) (λq g=>u q (h.sb.kp.lt q g).2 (by rw[h.sp.k q g];omega));refine⟨⟨l.bx,l.ha,by rw[t];exact l.n13,λk P=>l.nd k (by rw[t] at P;exact P),l.fr,l.rg,l.k0,l.kp,l.nb,l.lo⟩,⟨λj z=>?_,λq g=>?_,λq g=>?_,λq g j z=>?_,λq g C=>?_,λE=>⟨uJ (h.rw.nr E).1 (u br (h.rw.nr E).1.1 (by rw[h.sp.r E];omega)) o.size,(h.rw.nr E).2⟩,λq g=>⟨uJ (h.rw.nc q (by rw[t] at g;exact g)).1 (J q (by rw[t] at g;exact g)) o.size,(h.rw.nc q (by rw[t] at g;exact g)).2⟩,λq g=>h.rw.d q (by rw[t] at g;exact g),λq M g y v N h2=>?_,λq M g y v=>h.rw.dc q M (by rw[t] at g;exact g) (by rw[t] at y;exact y) v,λq g=>?_⟩,⟨h.sp.b,h.sp.n,h.sp.r,λq g=>h.sp.c q (by rw[t] at g;exact g),h.sp.f,h.sp.k,λq g C=>?_⟩,h.pr.of (λq g N=>u q g (by rw[N];omega)) (λ_ _ h=>h)⟩
 ·exact(h.rw.r j z).of λm _=>World.cell?_of_block (a:=(aA br _)) (u br (h.rw.nr (by have:j<x.B.length:=z;omega)).1.1 (by rw[h.sp.r (by have:j<x.B.length:=z;omega)];omega))
 ·rw[t] at g;have G:S7 w' (cB q) (cO q) (x.c q):=(h.rw.s q g).of λm _=>World.cell?_of_block (a:=(aA (cB q) _)) (J q g)
  by_cases e:q=i
  ·subst e;rw[H];exact G
  ·rw[v q e];exact G
 ·rw[t] at g;rw[D q,World.cell?_of_block (a:=(aA (cB q) _)) (J q g)];exact h.rw.p7 q g
 ·rw[t] at g;rw[D q] at z;by_cases e:q=i
  ·subst e;rw[H];by_cases Y:j=k
   ·grind [Hp.c,Cl.p,Nf1,qN]
   ·have:({ x.c q with F:=(x.c q).F.set k A }:Cl).p j=(x.c q).p j:=by
     have L:k≠j:=λe=>Y e.symm
     simp [Cl.p,List.getElem?_set_ne L]
    rw[this];exact(h.rw.p q g j z).of λm hm=>ho _ (by omega)
  ·rw[v q e];exact(h.rw.p q g j z).of λm _=>World.cell?_of_block (a:=(aA (pb q) _)) (S q g e (h.rw.pw g (by omega)))
 ·rw[t] at g;obtain⟨Z,X,R,V⟩:=h.rw.pl q g C;have T:pb q≠br/\∀j,j<({ x with A:=x.A.set i { x.c i with F:=(x.c i).F.set k A } }:Hp).A.length->pb q≠cB j:=⟨R.1,λj z=>R.2 j (by rw[t] at z;exact z)⟩;by_cases e:q=i
  ·grind [c0h,Hp.c,Nf1,qN]
  ·exact⟨Z,a0g X (S q g e C) o.size,T,V⟩
 ·rw[t] at g y;exact h.rw.dp q M g y v N h2
 ·rw[t] at g;rw[D q];exact h.rw.kp q g
 ·rw[t] at g;exact h.sp.p q g C
theorem d2n[Inhabited uQ](h:SAt B w b x ar kr v4 v8 br cB cO bn pb pa pk kn hd vf F vk K role)(o:x.E=5)(i:x.I=x.A.length)(a:World)(q:a.heap.size<=B)(p:Ext a w):
  Calls prog 335 #[.agg #[pP b]] w λe w'=>e=.returned (zV (cV x).E b)/\Hid (SAt B w' b (cV x) ar kr v4 v8 br cB cO bn pb pa pk kn hd vf F vk K role)/\Ext a w':=by
 have E:=uU (show cV x=cZ x 6 x.A.length by unfold cV;rw[if_pos i]);have H:=uU h;have m:=uU o;have c:=(Ext.refl w).alloc (.cells #[pP b] 237);have j:=uU (a7x x.I b x.A.length kn (some (aA bn 0)) _ (c.keep h.sb.bx.2.2.2.2.2.2.1) (c.keep h.sb.n13) (by simpa using i));have d:=uU c;go_enter func335,ntmps335;go_wp2_with fail;refine j.mono ?_;rintro e l ⟨rfl,g⟩;have s:l.cell? (aA w.heap.size 0)=some (pP b):=g.keep (by simp [go_sem]);have f:=uU (d.trans g);go_wp2_with fail;refine(turn_5 (H.ext f) m a q (p.trans f)).mono ?_;rintro e r ⟨rfl,k,n⟩;go_wp2;go_ret;exact⟨by rw[uH E];rfl,by rw[uH E];exact uH k,n⟩
theorem c8p[Inhabited uQ](h:SAt B w b x ar kr v4 v8 br cB cO bn pb pa pk kn hd vf F vk K role)(Q:x.A.length<=8000)(D:x.E=5)(i:Nat)(n:x.I=(i:Int))(f:i<x.A.length)(k:Nat)(A:x.sub=(k:Int))(C:¬k<(x.c i).F.length)(a:World)(R:a.heap.size<=B)(G:Ext a w):
  Calls prog 335 #[.agg #[pP b]] w λe w'=>e=.returned (zV (cV x).E b)/\Hid (SAt B w' b (cV x) ar kr v4 v8 br cB cO bn pb pa pk kn hd vf F vk K role)/\Ext a w':=by
 have y:x.I.toNat=i:=by omega
 have E:=uU (show cV x={ x with I:=(i:Int)+1,sub:=0 } by unfold cV;rw[if_neg (by omega),y,if_neg (by omega),n]);have u:=uU (show(cV x).E=5 by rw[uH E];exact D);have H:=uU h;have l:=(Ext.refl w).alloc (.cells #[pP b] 237);have j:=h.sb.bx.2.2.2.2.2.2.1;rw[n] at j;have v:=uU (a1v b x.A.length kn bn i _ (l.keep j) (l.keep h.sb.n13) f);have m:=uU l;have z:b<w.heap.size:=h.sb.nb.1;have O:=h.sb.lo.1;have t:=uU (And.intro n A)
 go_enter func335,ntmps335;go_wp2_with fail;refine v.mono ?_;rintro e g ⟨rfl,s⟩;have J:g.cell? (aA w.heap.size 0)=some (pP b):=s.keep (by simp [go_sem]);have o:=uU (m.trans s);have d:=uU (H.ext o);have I:=(d.sb.nd i f).2;have N:=d.rw.p7 i f;have j:g.cell? (aA b 6)=some (iv i):=by have:=d.sb.bx.2.2.2.2.2.2.1;rw[t.1] at this;exact this
 have M:g.cell? (aA b 7)=some (iv k):=by have:=d.sb.bx.2.2.2.2.2.2.2.1;rw[t.2] at this;exact this
 have L:=d.sb.nb.2 6;have P:=d.sb.nb.2 7
 have r:=uU (show ∀W,Ext g W->SAt B ((W.setCell (aA b 6) (iv ((i:Int)+1))).setCell (aA b 7) (iv 0)) b { x with I:=(i:Int)+1,sub:=0 } ar kr v4 v8 br cB cO bn pb pa pk kn hd vf F vk K role/\Ext a ((W.setCell (aA b 6) (iv ((i:Int)+1))).setCell (aA b 7) (iv 0)) from λW q=>⟨((d.ext q).I _).subs 0,(((G.trans o).trans q).setCell (p:=(aA b 6)) (show a.heap.size<=b by omega) _).setCell (p:=(aA b 7)) (show a.heap.size<=b by omega) _⟩);go_wp2_with fail;go_quiet (fail);go_wp2;go_ret;exact⟨by rw[uH u];rfl,by rw[uH E];exact(r _ ((Ext.refl g).drewN _)).1,(r _ ((Ext.refl g).drewN _)).2⟩
abbrev z6:Array Value:=#[iv 0,iv 0,iv 0,iv 0,iv 0,iv 0]
theorem made6(m j:Nat)(a:j<m):(madeCells z6 m)[j]?=some (iv 0):=by
 have b:j % 6<6:=Nat.mod_lt _ (by omega)
 have:([iv 0,iv 0,iv 0,iv 0,iv 0,iv 0]:List Value)[j % 6]?.getD default=iv 0:=by
  have:j % 6=0\/j % 6=1\/j % 6=2\/j % 6=3\/j % 6=4\/j % 6=5:=by omega
  rcases this with e | e | e | e | e | e <;> rw[e] <;> rfl
 simp [madeCells,a];exact this
theorem d1r(n:Nat)(f:n<=1048576)(w:World):(Instr.makeSlice 60 (iv n) (iv n)).run prog w=.ok (sS w.heap.size n n) (w.alloc (.cells (madeCells z6 (n*6)) 154)):=by
 obtain⟨d,e,b,a,c⟩:=info_parts a3v;have h:=run_make (P:=prog) w 60 154 d _ underlying60 e b .i64 .i64 n n (by omega) (Int.le_refl _) (by rw[c];omega) (by omega);rw[a] at h;simp only [Int.toNat_natCast] at h;exact h
structure b1b(w0 W:World)(qb n:Nat):Prop where
 lt:w0.heap.size<=qb
 nf:Nfp qb n W
 z:∀k,k<n->qN W qb (k*6) Pr0
theorem b1b.ext(h:b1b w0 W qb n)(e:Ext W W'):b1b w0 W' qb n:=⟨h.lt,h.nf.ext e,λk a=>(h.z k a).ext e⟩
theorem b1b.made(w0 w:World)(n:Nat)(t:TypeId)(e:Ext w0 w):b1b w0 (w.alloc (.cells (madeCells z6 (n*6)) t)) w.heap.size n:=by
 have c:(w.alloc (.cells (madeCells z6 (n*6)) t)).heap[w.heap.size]?=some (.cells (madeCells z6 (n*6)) t):=heap_alloc_new w _;have a:∀j,j<n*6->(w.alloc (.cells (madeCells z6 (n*6)) t)).cell? (aA w.heap.size j)=some (iv 0):=λj b=>by rw[cell_of_row _ w.heap.size j _ _ (0,0) c];exact made6 _ j b
 exact⟨e.size,⟨by simp,λ_=>by simp [go_sem],λj b=>⟨_,a j b⟩⟩,λk d=>⟨a _ (by omega),a _ (by omega),a _ (by omega),a _ (by omega),a _ (by omega),a _ (by omega)⟩⟩
theorem b1b.only{S:Nat->Prop}(h:b1b w0 W qb n)(o:uX S W W')(b:¬S qb):b1b w0 W' qb n:=
 ⟨h.lt,a0g h.nf (o.block qb h.nf.1 b) o.size,λk c=>(h.z k c).of λ_ _=>World.cell?_of_block (a:=(aA qb _)) (o.block qb h.nf.1 b)⟩
theorem rep_p(c:Cl)(m:Nat)(h:c.F=List.replicate m Pr0)(k:Nat):c.p k=Pr0:=by grind [Hp.c,Pr0,Cl.p]
theorem c4x[Inhabited uQ](h:GAt B w0 g x ar kr ac kc vg br bc pb pa pk role)(K:0<x.B.length)(t:Nat)(v:t<x.A.length)(a:Cl)(m:Nat)(I:a.F=List.replicate m Pr0)(W:World)(e:Ext w0 W)(b:Nat)(np:b1b w0 W b m):
  GOk B (qQ W bc (t*8) a (sS b m m)) g (b2m x t a):=by
 have J:0<x.A.length:=by omega
 have n:0<kc:=Nat.lt_of_lt_of_le J h.kl;have f:=h.cc n;have d:=h.ext e;have l:(a5o x t a).length=x.A.length:=by rw[a8n,if_pos v]
 have A:a.F.length=m:=by rw[I];simp
 have o:=a0k W bc (t*8) a (sS b m m);have p:b≠bc:=λe=>by have:=np.lt;have:=f.nf.1;omega
 have w:g≠bc:=λe=>by have y:=h.sp.g;have D:=f.ro;rw[e] at y;omega
 have C:=o.block g d.nf.1 w;obtain⟨F,G⟩:=a9r W bc (t*8) a (x.c t) (sS b m m) _ (d.rw.s t v) (d.rw.p7 t v);have E:=a3o W bc (t*8) a (sS b m m);have i:=np.only o p;refine⟨_,_,_,_,_,_,_,_,_,_,_,h.newc K t (Nat.le_of_lt v) a bc kc b (some (aA b 0)) m (Nat.le_trans e.size o.size) (.inl ⟨rfl,n⟩) (λq r y D=>(o.block q (Nat.lt_of_lt_of_le r e.size) D).trans (e.block q r)) (uJ d.nf C o.size) ?_ (a5n (d.cc n).nf _ _ _) (λj H=>?_) f.lo (by rw[l];exact h.kl) F (by rw[A];exact G) (λq r y j H=>?_) (λk n=>?_) (by rw[A];exact Nat.le_refl _) (λr=>⟨rfl,i.nf,i.lt,by have:=f.lo;have:=f.nf.1;have:=np.lt;omega,p⟩)⟩
 ·have:=(d.bx.block C);rw[f.ad] at this;rw[l];exact this
 ·by_cases u:j<t*8\/t*8+8<=j
  ·rw[E j u];exact(d.cc n).cp j H
  ·by_cases u7:j=t*8+7
   ·rw[u7];exact⟨_,G⟩
   ·have:=F.some (j-t*8) (by omega);rw[show t*8+(j-t*8)=j by omega] at this;exact this
 ·rw[E _ (by omega)];exact(uK e).1 bc _ f.nf.1
 ·rw[rep_p a m I k];exact i.z k (by omega)
structure AppC[Inhabited uQ](B g:Nat)(x:Hp)(c':Cl)(v w:World)(b' k':Nat)(w':World):Prop where
 gk:∀W,Ext w' W->GOk B (W.setCell ⟨g,4,none⟩ (.slice (some ⟨b',0,none⟩) (x.A.length+1) k')) g (b2m x x.A.length c')
 far:w'.heap[g]?=w.heap[g]?
 sz:w.heap.size<=w'.heap.size
 ex:Ext v w'
theorem cell_fC{w:World}{b o:Nat}{c:Cl}{u:Value}(s:S7 w b o c)(p:w.cell? (aA b (o+7))=some u)(j:Nat)(k:j<8):w.cell? (aA b (o+j))=(fC (c,u))[j]?:=by
 obtain⟨d,h,e,g,a,i,f⟩:=s
 match j,k with
 | 0,_=>exact d
 | 1,_=>exact h
 | 2,_=>exact e
 | 3,_=>exact g
 | 4,_=>exact a
 | 5,_=>exact i
 | 6,_=>exact f
 | 7,_=>exact p
def a8y(x:Hp)(pa:Nat->Option Addr)(pk:Nat->Nat):List (Cl×Value):=(List.range x.A.length).map (λq=>(x.c q,.slice (pa q) (x.c q).F.length (pk q)))
theorem d1t(x:Hp)(b:Nat->Option Addr)(a:Nat->Nat):(a8y x b a).length=x.A.length:=by simp [a8y]
theorem c6i(x:Hp)(b:Nat->Option Addr)(a:Nat->Nat)(q:Nat)(d:q<(a8y x b a).length):(a8y x b a)[q]=(x.c q,.slice (b q) (x.c q).F.length (a q)):=by simp [a8y]
theorem d1u[Inhabited uQ]{B:Nat}{w0:World}{g:Nat}{x:Hp}{ar:Option Addr}{kr:Nat}{ac:Option Addr}{kc:Nat}{vg:Value}{br bc:Nat}{pb:Nat->Nat}{pa:Nat->Option Addr}{pk:Nat->Nat}{role:Nat->Nat}(h:GAt B w0 g x ar kr ac kc vg br bc pb pa pk role)(r0:0<x.B.length)(n8:x.A.length<=8000)(d:Cl)(m:Nat)(hm:d.F=List.replicate m Pr0)(l:Nat)(ty:TypeId)(n:World)(y:Ext w0 n)(np:b1b w0 n l m)(ad:Addr)(c:Nat)(hz:∀j u,(fC (d,.slice (some ⟨l,0,none⟩) m m))[j]?=some u->n.cell? (ad.add j)=some u)(v:World)(hv:v.heap.size<=B)(hx:Ext v w0):
  ∃b' k' w',(Builtin.append_ #[31,31] ty #[.slice ac x.A.length kc,.slice (some ad) 1 c]).run prog n=.ok (.slice (some ⟨b',0,none⟩) (x.A.length+1) k') w'/\AppC B g x d v w0 b' k' w':=by
 have F:=h.ext y;obtain⟨i0,O,aa,E,V⟩:=info_parts b1n
 have ab:∀u∈fC (d,.slice (some ⟨l,0,none⟩) m m),u.oneCell'=true:=λu K=>by
  simp [fC] at K;rcases K with rfl | rfl | rfl | rfl | rfl | rfl | rfl | rfl <;> rfl
 have H:(a5o x x.A.length d).length=x.A.length+1:=by rw[a8n,if_neg (by omega)]
 have ml:d.F.length=m:=by rw[hm];simp
 have aj:B<=w0.heap.size:=Nat.le_trans h.lo (Nat.le_of_lt h.nf.1);by_cases hr:x.A.length+1<=kc
 ·have J:0<kc:=by omega
  have G:=F.cc J
  have A:=run_append_room_cells (P:=prog) n 31 ty 62 i0 underlying31 O bc 0 x.A.length kc ad 1 c (fC (d,.slice (some ⟨l,0,none⟩) m m)) (by rw[E];rfl) hz ab hr (λj t=>by
   have t:j<8:=t;obtain⟨u,K⟩:=G.cp (0+x.A.length*i0.size+j) (by rw[E];omega);rw[K];rfl) (λj _=>G.nf.2 _)
  rw[E,Nat.zero_add] at A;have T:uX (λq=>q=bc) n (n.setCells bc (x.A.length*8) (fC (d,.slice (some ⟨l,0,none⟩) m m))):=a5a (S:=λq=>q=bc) rfl (uX.refl _ n);have I:g≠bc:=λe=>by have L:=h.sp.g;have h2:=G.ro;rw[e] at L;omega
  have fg:=T.block g F.nf.1 I;have bw:bc<w0.heap.size:=(h.cc J).nf.1;have Y:l≠bc:=λe=>by have:=np.lt;omega
  refine⟨bc,kc,_,by rw[G.ad];exact A,⟨λW e=>?_,fg.trans (y.block g h.nf.1),Nat.le_trans y.size T.size,T.ext (hx.trans y) (λq C e=>by have:=G.lo;omega)⟩⟩;have R:uX (λq=>q=bc) n W:=T.trans (uX.of_ext e);have af:=np.only R Y;have cW:∀j,W.cell? ⟨bc,j,none⟩=(n.setCells bc (x.A.length*8) (fC (d,.slice (some ⟨l,0,none⟩) m m))).cell? ⟨bc,j,none⟩:=λj=>(uK e).1 bc j (Nat.lt_of_lt_of_le G.nf.1 T.size)
  have M:∀j,(W.setCell ⟨g,4,none⟩ (.slice (some ⟨bc,0,none⟩) (x.A.length+1) kc)).cell? ⟨bc,j,none⟩=(n.setCells bc (x.A.length*8) (fC (d,.slice (some ⟨l,0,none⟩) m m))).cell? ⟨bc,j,none⟩:=λj=>(uC _ (.inl I)).trans (cW j)
  have a:∀j,j<8->(W.setCell ⟨g,4,none⟩ (.slice (some ⟨bc,0,none⟩) (x.A.length+1) kc)).cell? ⟨bc,x.A.length*8+j,none⟩=(fC (d,.slice (some ⟨l,0,none⟩) m m))[j]?:=λj t=>(M _).trans (c4v bc _ _ j n (λi Z=>G.cp _ (by have:i<8:=Z;omega)) t)
  have ae:Nf1 bc W:=G.nf.put.ext e;have qg:l≠g:=λe=>by have:=np.lt;have:=h.nf.1;omega
  have o:=af.only (S:=λq=>q=g) (uX.setCell (S:=λq=>q=g) (uX.refl _ W) (p:=⟨g,4,none⟩) rfl (.slice (some ⟨bc,0,none⟩) (x.A.length+1) kc)) qg;refine⟨_,_,_,_,_,_,_,_,_,_,_,h.newc r0 x.A.length (Nat.le_refl _) d bc kc l (some ⟨l,0,none⟩) m (by have:=R.size;have:=y.size;simp only [World.setCell,Array.size_modify];omega) (.inl ⟨rfl,J⟩) (λq C L h2=>(Below.heap_setCell _ _ _ _ L).trans ((R.block q (Nat.lt_of_lt_of_le C y.size) h2).trans (y.block q C))) ((uJ F.nf (R.block g F.nf.1 I) R.size).set _ _) ?_ (ae.set _ _) (λj t=>?_) G.lo (by rw[H];exact hr) ⟨a 0 (by omega),a 1 (by omega),a 2 (by omega),a 3 (by omega),a 4 (by omega),a 5 (by omega),a 6 (by omega)⟩ (by rw[ml];exact a 7 (by omega)) (λq C L j t=>?_) (λk J=>?_) (by rw[ml];exact Nat.le_refl _) (λC=>⟨rfl,o.nf,o.lt,by have:=o.lt;omega,Y⟩)⟩
  ·have:=(F.bx.block (R.block g F.nf.1 I)).set4 (.slice (some ⟨bc,0,none⟩) (x.A.length+1) kc);rw[H];exact this
  ·by_cases u:j<x.A.length*8\/x.A.length*8+8<=j
   ·rw[M,b1a bc _ _ _ n (by have:(fC (d,.slice (some ⟨l,0,none⟩) m m)).length=8:=rfl;omega)];exact G.cp j t
   ·have:=a (j-x.A.length*8) (by omega);rw[show x.A.length*8+(j-x.A.length*8)=j by omega] at this;rw[this];have hl:j-x.A.length*8<(fC (d,.slice (some ⟨l,0,none⟩) m m)).length:=by have:(fC (d,.slice (some ⟨l,0,none⟩) m m)).length=8:=rfl;omega
    exact⟨_,List.getElem?_eq_getElem hl⟩
  ·rw[M,b1a bc _ _ _ n (by omega)];exact(uK y).1 bc _ bw
  ·rw[rep_p d m hm k];exact o.z k (by omega)
 ·have N:=d1t x pa pk;have rc:∀W,Ext w0 W->∀q,q<x.A.length->∀j,j<8->W.cell? ⟨bc,q*8+j,none⟩=(fC (x.c q,.slice (pa q) (x.c q).F.length (pk q)))[j]?:=λW e q C j t=>cell_fC ((h.ext e).rw.s q C) ((h.ext e).rw.p7 q C) j t
  have U:∃r w',(Builtin.append_ #[31,31] ty #[.slice ac x.A.length kc,.slice (some ad) 1 c]).run prog n=.ok r w'/\w'.ownsRow n.heap.size 62 8 r (x.A.length+1) ((a8y x pa pk).flatMap fC++fC (d,.slice (some ⟨l,0,none⟩) m m))/\n.grownBy w' none:=by
   have X:x.A.length+1<=maxLen:=by unfold maxLen;omega
   cases ea:ac with
   | none=>
    have k0:kc=0:=by
     rcases Nat.eq_zero_or_pos kc with k0 | k0
     ·exact k0
     ·have:=(h.cc k0).ad;rw[ea] at this;cases this
    have n0:x.A.length=0:=by have:=h.kl;omega
    have l0:a8y x pa pk=[]:=List.eq_nil_of_length_eq_zero (by rw[N];exact n0);rw[k0,l0,n0];obtain⟨r,w',r1,r2,r3,_⟩:=run_append_own (P:=prog) n n.heap.size 31 ty 62 i0 _ 8 80 underlying31 O aa E V rfl (by decide) (.slice none 0 0) 0 [] (World.ownsRow_nil n _ _ _) ad 1 c (fC (d,.slice (some ⟨l,0,none⟩) m m)) rfl hz ab (by unfold maxLen;omega) (by decide) (Nat.le_refl _);exact⟨r,w',r1,r2,r3⟩
   | some b=>
    refine run_append_arg_grows (P:=prog) n 31 ty 62 i0 _ 8 80 underlying31 O aa E V rfl (by decide) b _ _ ((a8y x pa pk).flatMap fC) (by rw[a5b fC 8 (λ_=>rfl),N]) (λj u K=>?_) ad 1 c (fC (d,.slice (some ⟨l,0,none⟩) m m)) rfl hz (by omega) X (by omega)
    have t:j<((a8y x pa pk).flatMap fC).length:=by
     rcases Nat.lt_or_ge j ((a8y x pa pk).flatMap fC).length with q | q
     ·exact q
     ·rw[List.getElem?_eq_none q] at K;cases K
    rw[a5b fC 8 (λ_=>rfl),N] at t;have hb:=h.hc (by omega);rw[ea] at hb;have hb:=Option.some.inj hb;rw[hb];exact a8f fC 8 (by omega) (λ_=>rfl) (a8y x pa pk) bc 0 (λi Z k J=>by rw[Nat.zero_add,c6i x pa pk i Z];exact rc n y i (by rw[N] at Z;exact Z) k J) j u K
  obtain⟨r,w',A,w,D⟩:=U;have eg:Ext n w':=⟨D.os,D.tape,D.output,D.size,λk J=>D.block k J (by simp)⟩;have vk:0<a5v r:=by have:=b8m w;omega
  obtain⟨o1,o2,o3,o4,o5⟩:=own_kw w vk;have vf:r=.slice (some ⟨qJ r,0,none⟩) (x.A.length+1) (a5v r):=by rw[<-o1];exact(a1d w).1
  have Q:w'.ownsRow n.heap.size 62 8 r (a8y x pa pk++[(d,Value.slice (some ⟨l,0,none⟩) m m)]).length ((a8y x pa pk++[(d,Value.slice (some ⟨l,0,none⟩) m m)]).flatMap fC):=by
   rw[List.length_append,N,List.flatMap_append]
   simpa using w
  have cz:=b1o (f:=fC) (λ_=>rfl) Q;have ai:(a8y x pa pk++[(d,Value.slice (some ⟨l,0,none⟩) m m)]).length=x.A.length+1:=by rw[List.length_append,N];rfl
  refine⟨qJ r,a5v r,w',by rw[<-vf];exact A,⟨λW e=>?_,(eg.block g F.nf.1).trans (y.block g h.nf.1),Nat.le_trans y.size eg.size,(hx.trans y).trans eg⟩⟩;obtain⟨b',ah⟩:∃b',b'=qJ r:=⟨_,rfl⟩;rw[<-ah] at o3 o4 o5 cz ⊢;have gb:g≠b':=λe=>by have:=F.nf.1;omega
  have M:∀j,(W.setCell ⟨g,4,none⟩ (.slice (some ⟨b',0,none⟩) (x.A.length+1) (a5v r))).cell? ⟨b',j,none⟩=w'.cell? ⟨b',j,none⟩:=λj=>(uC _ (.inl gb)).trans ((uK e).1 b' j o3.1)
  have a:∀j,j<8->(W.setCell ⟨g,4,none⟩ (.slice (some ⟨b',0,none⟩) (x.A.length+1) (a5v r))).cell? ⟨b',x.A.length*8+j,none⟩=(fC (d,.slice (some ⟨l,0,none⟩) m m))[j]?:=λj t=>by
   rw[M,cz x.A.length (by omega) j t];have:(a8y x pa pk++[(d,Value.slice (some ⟨l,0,none⟩) m m)])[x.A.length]'(by omega)=(d,Value.slice (some ⟨l,0,none⟩) m m):=by rw[List.getElem_append_right (by omega)];simp [N]
   rw[this]
  have eW:Ext n W:=eg.trans e;have qg:l≠g:=λe=>by have:=np.lt;have:=h.nf.1;omega
  have o:=(np.ext eW).only (S:=λq=>q=g) (uX.setCell (S:=λq=>q=g) (uX.refl _ W) (p:=⟨g,4,none⟩) rfl (.slice (some ⟨b',0,none⟩) (x.A.length+1) (a5v r))) qg;have ag:B<=b':=by have:=y.size;omega
  refine⟨_,_,_,_,_,_,_,_,_,_,_,h.newc r0 x.A.length (Nat.le_refl _) d b' (a5v r) l (some ⟨l,0,none⟩) m (by have:=eW.size;have:=y.size;simp only [World.setCell,Array.size_modify];omega) (.inr (by have:=y.size;omega)) (λq C L h2=>(Below.heap_setCell _ _ _ _ L).trans ((y.trans eW).block q C)) ((F.nf.ext eW).set _ _) ?_ ((o3.ext e).set _ _) (λj t=>?_) ag (by rw[H];exact b8m w) ⟨a 0 (by omega),a 1 (by omega),a 2 (by omega),a 3 (by omega),a 4 (by omega),a 5 (by omega),a 6 (by omega)⟩ (by rw[ml];exact a 7 (by omega)) (λq C L j t=>?_) (λk J=>?_) (by rw[ml];exact Nat.le_refl _) (λC=>⟨rfl,o.nf,o.lt,by have:=o.lt;omega,λe=>by have:=np.nf.1;omega⟩)⟩
  ·have:=(F.bx.ext eW).set4 (.slice (some ⟨b',0,none⟩) (x.A.length+1) (a5v r));rw[H];exact this
  ·rw[M];exact o4 j t
  ·rw[M,cz q (by omega) j t];have:(a8y x pa pk++[(d,Value.slice (some ⟨l,0,none⟩) m m)])[q]'(by omega)=(x.c q,.slice (pa q) (x.c q).F.length (pk q)):=by rw[List.getElem_append_left (by omega)];exact c6i x pa pk q (by omega)
   rw[this];exact(rc w0 (Ext.refl _) q C j t).symm
  ·rw[rep_p d m hm k];exact o.z k (by omega)
theorem c8e[Inhabited uQ]{ops:Array Oper}{o:Oper}{a:Act}{K:Act->World->Prop}{Q:Exit->Act->World->Prop}{E:Prop}(b:World)(e:o.guard=none)(s y:Operand)
  (r:o.op=.call { callee:=.builtin .append,args:=#[s,y],argTypes:=#[31,31] })
                (h:GAt B w0 g x ar kr ac kc vg br bc pb pa pk role) (D:0<x.B.length) (C:x.A.length<=8000) (d:Cl) (m:Nat) (w:d.F=List.replicate m Pr0) (f:Nat) (t:Ext w0 b) (np:b1b w0 b f m) (ad:Addr) (c:Nat)
  (A:a.eval s=.slice ac x.A.length kc) (q:a.eval y=.slice (some ad) 1 c) (n:∀j u,(fC (d,sS f m m))[j]?=some u->b.cell? (ad.add j)=some u) (v:World) (z:v.heap.size<=B) (p:Ext v w0)
  (F:∀b' k' w',AppC B g x d v w0 b' k' w'->K (a.put o.dst (sS b' (x.A.length+1) k')) w') :
  if Region.wanted o (yielded ops a.tmps)=true then Oper.wp prog o a b K Q else E:=by
 have l:Region.wanted o (yielded ops a.tmps)=true:=by simp [Region.wanted,e]
 rw[if_pos l];obtain⟨b',k',w',i,k⟩:=d1u h D C d m w f o.type b t np ad c n v z p;unfold Oper.wp execOp;simp only [r,resolve,invoke,builtin,Sem.run_bind,Sem.run_pure,Result.andThen_ok,List.map_toArray,List.map_cons,List.map_nil,A,q,i];exact F b' k' w' k
theorem b9o[Inhabited uQ]{B:Nat}{w:World}{g:Nat}{x:Hp}{ar:Option Addr}{kr:Nat}{ac:Option Addr}{kc:Nat}{vg:Value}{br bc:Nat}(h:GK B w g x ar kr ac kc vg br bc)(s:Snd x)(a:World)(ha:a.heap.size<=B)(hx:Ext a w):
  Calls prog 90 #[pP g] w λe w'=>∃H:Nat->Bool,e=.returned (.tuple #[iv (a1o x H x.A.length),iv (a9u x H x.A.length)])/\Hid (∀i,H i=true↔dE x i)/\GOk B w' g (a4t x H)/\Ext a w':=by
 have G0:=uU h;have S:=uU s;obtain⟨pb,pa,pk,bb,h⟩:=h;obtain⟨ag,kg,al⟩:=h.hat s;have QH:=uU (a7u x g w al s.r2 s.r4 s.ok.n8);have n8:=s.ok.n8;have bd:g<w.heap.size:=h.nf.1;have r0:0<x.B.length:=by rw[s.r1.B];omega
 have ap:=uU (show 0<=x.K/\x.K<=4000 by have h1:=s.r3.1;have h2:=s.r3.2;have h3:=s.r1.M;omega);have BC:=uU (show 0<x.A.length->bc<w.heap.size from λY=>(h.rw.nc Y).1.1);clear h s al;go_enter func90,ntmps90;go_wp2_with fail;refine(uH QH).mono ?_;rintro e w1 ⟨v,L,rfl,sn,hL,q1⟩;obtain⟨H,hH⟩:∃H:Nat->Bool,H=(λi:Nat=>decide ((i:Int)∈L)):=⟨_,rfl⟩;have HI:=uU (show ∀i,H i=true↔dE x i from λi=>by rw[hH];simp only [decide_eq_true_eq];exact uH hL i);have SN:=uU (show ∀j,j<x.A.length->w1.cell? (aA w.heap.size j)=some (.bool (H j)) from λj C=>by rw[hH];exact sn.s j C);have av:w.heap.size<w1.heap.size:=sn.hb.2;have G1:=uU ((uH G0).ext q1);have X1:=uU (hx.trans q1);have D:w1.cell? (aA g 4)=some (.slice ac x.A.length kc):=by obtain⟨_,_,_,_,h1⟩:=uH G1;exact h1.bx.2.2.2.2.1
 have ax:g<w1.heap.size:=uL D;clear hH sn hL QH G0;go_wp2_with fail;go_loopw [5,19] (λgn si wr=>∃i:Nat,i<=x.A.length/\si=iv i/\gn=iv (a1o x H i)/\Hid (GK B wr g (cD x H i) ar kr ac kc vg br bc)/\Hid (∀j,j<x.A.length->wr.cell? (aA w.heap.size j)=some (.bool (H j)))/\Hid (Ext a wr)) (λ_ si _=>x.A.length-(intOf si).toNat)
 case atStart=>exact⟨0,Nat.zero_le _,rfl,rfl,uH G1,uH SN,uH X1⟩
 case round=>
  clear G1 SN X1 D ax av;obtain⟨i,hi,rfl,rfl,l,o,A⟩:=hrel;by_cases b:i<x.A.length
  ·have c0:=uH o i b;have k0:(0:Int)<=(i:Int):=by omega
   have k1:(i:Int)<(x.A.length:Int):=by omega
   cases P:H i
   ·rw[P] at c0;have E:=uU (show cD x H (i+1)=cD x H i by show(if H i=true then _ else _)=_;rw[if_neg (by simp [P])]);have E2:=uU (show a1o x H (i+1)=a1o x H i by show(if H i=true then _ else _)=_;rw[if_neg (by simp [P])]);go_wp2_with fail;go_roundw
    case rel=>exact⟨i+1,by omega,by go_num,by rw[uH E2],by rw[uH E];exact uH l,uH o,uH A⟩
    case measure=>simp [intOf];omega
   ·rw[P] at c0;have HD:=uU ((uH HI i).1 P);obtain⟨be,bh,bf,ay,g1⟩:=uH l;have f:=uU (a2k x H i);have CI:=uU (show(cD x H i).c i=x.c i by rw[b0y x H i hi i,if_neg (by omega)]);have Y:0<(cD x H i).A.length:=by rw[uH f];omega
    have D:=g1.bx.2.2.2.2.1;rw[g1.hc Y,uH f] at D;have p7:=g1.rw.p7 i (by rw[uH f];exact b);rw[uH CI] at p7;have U:g<wr.heap.size:=uL D;have ae:bc<wr.heap.size:=uL p7;have ba:=(uH S).ok.p200 i b;have aj:=uU (inH_top x H (cD x H i) i (by rw[uH f];exact b) (uH CI));have GT:=uU (show GK B wr g (inH x H (cD x H i) i (x.c i).F.length) ar kr ac kc vg br bc by rw[uH aj];exact uH l);have am:=uU (show tK x H (x.c i) ((x.c i).F.drop (x.c i).F.length)=0 by rw[List.drop_length];rfl);clear g1;go_wp2_with fail;go_loopw [5,7] (λgn sk wr=>∃k:Nat,k<=(x.c i).F.length/\sk=iv ((k:Int)-1)/\gn=iv ((a1o x H i:Int)+(tK x H (x.c i) ((x.c i).F.drop k):Int))/\Hid (GK B wr g (inH x H (cD x H i) i k) ar kr ac kc vg br bc)/\Hid (∀j,j<x.A.length->wr.cell? (aA w.heap.size j)=some (.bool (H j)))/\Hid (Ext a wr)) (λ_ sk _=>(intOf sk+1).toNat)
    case atStart=>exact⟨(x.c i).F.length,Nat.le_refl _,rfl,by rw[uH am];simp,uH GT,uH o,uH A⟩
    case round=>
     clear GT o A l c0 D p7 U ae aj am;obtain⟨k,hk,rfl,rfl,l,o,A⟩:=hrel;cases k with
     | zero=>
      have E:=uU (c7y x H i P);have E2:=uU (show a1o x H (i+1)=a1o x H i+tK x H (x.c i) ((x.c i).F.drop 0) by show(if H i=true then _ else _)=_;rw[if_pos P];rfl);go_wp2_with fail;go_roundw
      case rel=>exact⟨i+1,by omega,by go_num,by rw[uH E2];simp,by rw[uH E];exact uH l,uH o,uH A⟩
      case measure=>simp [intOf];omega
     | succ k=>
      have ek:(((k+1:Nat):Int)-1)=(k:Int):=by omega
      rw[ek];have F:k<(x.c i).F.length:=by omega
      obtain⟨z,R⟩:∃z,z=inH x H (cD x H i) i (k+1):=⟨_,rfl⟩;have HZ:=uU R;rw[<-R] at l;have ZL:=uU (show z.A.length=x.A.length by rw[R,inH_len,uH f]);have ZC:=uU (show z.c i={ x.c i with F:=(x.c i).F.take (k+1)++a6h x H (x.c i) ((x.c i).F.drop (k+1)) } by rw[R];exact inH_c x H _ i (k+1) (by rw[uH f];exact b));have ao:=uU (show ∀q,(z.c q).st=(x.c q).st/\(z.c q).to=(x.c q).to from λq=>by rw[R];exact inH_st x H _ i (k+1) (by rw[uH f];exact b) (d1g x H i hi) q);obtain⟨m,hm⟩:∃m,m=(z.c i).F.length:=⟨_,rfl⟩;have ak:k<m:=by rw[hm,uH ZC];simp;omega
      have ai:m<=200:=by have h1:=a8o x H (x.c i) ((x.c i).F.drop (k+1));rw[hm,uH ZC];simp at h1 ⊢;omega
      obtain⟨aa,an,aq,V,r⟩:=uH l;have K:i<z.A.length:=by rw[uH ZL];exact b
      have Y:0<z.A.length:=by omega
      have D:=r.bx.2.2.2.2.1;rw[r.hc Y,uH ZL] at D;have p7:=r.rw.p7 i K;rw[(r.rw.pl i K (r.rw.pw K (by rw[<-hm];omega))).1,<-hm] at p7;have s2:=(r.rw.s i K).2.2.1;have wk:(z.c i).T=(x.c i).T:=by rw[uH ZC]
      rw[wk] at s2;obtain⟨y,hy⟩:∃y,y=(x.c i).F[k]:=⟨_,rfl⟩
      have PY:=uU (show qN wr (aa i) (k*6) y by
       have h1:=r.rw.p i K k (by rw[<-hm];exact ak)
       have h2:(z.c i).p k=y:=by
        rw[hy,uH ZC];simp only [Cl.p];rw[List.getD_eq_getElem?_getD,List.getElem?_append_left (by simp;omega),List.getElem?_take,if_pos (by omega),List.getElem?_eq_getElem F];rfl
       rw[h2] at h1;exact h1)
      obtain⟨e0,e1,e2,e3,e4,e5⟩:=uH PY;have U:g<wr.heap.size:=uL D;have ae:bc<wr.heap.size:=uL p7;have bg:aa i<wr.heap.size:=uL e0;have Z:(0:Int)<=(k:Int):=by omega
      have t1:(k:Int)<(m:Int):=by omega
      have UO:=uU (show(x.c i).st=1/\0<=(x.c i).T/\(x.c i).T<=3 by
       have g:=(uH HD).good (uH S).r2 (uH S).r4;have:=(uH S).r2.1 i b;unfold hJ a2t at this;have:=g.2.1;omega)
      have ah:=uU (show ∀W,Ext wr W->∀j,j<z.A.length->W.cell? (aA w.heap.size j)=some (.bool (H j)) from λW xw j C=>xw.keep (uH o j (by rw[uH ZL] at C;exact C)))
      have FK:=uU (show uW y.key x.A.length/\uW y.val x.A.length by
       have:=c7x (uH S) (uH HD) k F;rw[<-Cl.p_eq _ _ F,<-hy] at this;exact this)
      have I:=uU (show ∀u,uW u x.A.length->∀W,Ext wr W->Calls prog 148 #[pP g,sS w.heap.size x.A.length x.A.length,u.v] W λe w'=>e=.returned (.bool (tX x H u))/\Ext W w' from λu hu W xw=>by
       have:=c4r (r.ext xw) H w.heap.size (uH ah W xw) u (by rw[uH ZL];exact hu) (by rw[c2e (uH ao),uH ZL];exact res_in (uH S).r2 hu);rw[uH ZL,c7w (uH ao)] at this;exact this)
      have SC:=uU (show cN x=(i:Int)->0<=(cD x H i).sub/\(cD x H i).sub<=(x.c i).F.length from λe=>by rw[b7v x H i e i (Nat.le_refl _)];exact c2f (uH S) b (uH UO).1 e);have G:=uU (λq:goB x H (x.c i) y=true=>uU (show tK x H (x.c i) ((x.c i).F.drop k)=tK x H (x.c i) ((x.c i).F.drop (k+1))+1 by rw[a5p _ k F,a3z,<-hy,if_pos q]));have d:=uU (λq:goB x H (x.c i) y=false=>And.intro (uU (show tK x H (x.c i) ((x.c i).F.drop k)=tK x H (x.c i) ((x.c i).F.drop (k+1)) by rw[a5p _ k F,a3z,<-hy,if_neg (by simp [q])])) (uU (show inH x H (cD x H i) i k=z by rw[uH HZ];exact d1e x H _ i k F (by rw[<-hy];exact q) (λe=>(uH SC e).2))));have af:=uU (inH_num x H (λq hq=>(uH S).ok.p200 q hq) i (k+1) b n8 (uH ap) (uH S).r1.sub);rw[<-uH HZ] at af;have az:=uU (show w.heap.size<wr.heap.size from uL (uH o i b))
      have ab:=uU (λq:goB x H (x.c i) y=true=>show ∀W,Ext wr W->Calls prog 149 #[pP g,iv i,iv k] W λe w'=>e=.returned (.tuple #[])/\GK B w' g (inH x H (cD x H i) i k) ar kr ac kc vg br bc/\(∀j,j<x.A.length->w'.cell? (aA w.heap.size j)=some (.bool (H j)))/\Ext a w' from λW xw=>by
       have zr:z.B.length=x.B.length:=by rw[uH HZ];show(cD x H i).B.length=_;rw[(a6j x H i).2.2.2]
       refine(b7t ((uH l).ext xw) i k K (by rw[<-hm];exact ak) (by rw[zr];exact r0) (by rw[<-hm];exact ai) (uH af).1 (uH af).2 (by rw[uH ZL];exact n8) a ha ((uH A).trans xw)).mono ?_;rintro e w4 ⟨rfl,J,f4,M⟩;refine⟨rfl,?_,λj C=>?_,M⟩
       ·rw[uH HZ] at J;rw[<-inH_cut x H (cD x H i) i k (by rw[uH f];exact b) F (by rw[<-hy];exact q) (uH SC) (c4s x H i)];exact J
       ·refine(World.cell?_of_block (a:=(aA w.heap.size j)) (f4.2 w.heap.size (Nat.lt_of_lt_of_le (uH az) xw.size) (by omega) (by have:=uH BC (by omega);omega))).trans (xw.keep (uH o j C)))
      have GB:=uU (show goB x H (x.c i) y=((wkB (x.c i) && tX x H y.key) || (wvB (x.c i) && tX x H y.val)) from rfl)
      have WG:=uU (show wrap64 ((a1o x H i:Int)+(tK x H (x.c i) ((x.c i).F.drop (k+1)):Int)+1)=(a1o x H i:Int)+(tK x H (x.c i) ((x.c i).F.drop (k+1)):Int)+1 from by
       have h1:=b2i x H (λq hq=>(uH S).ok.p200 q hq) i hi;have h2:=a8q x H (x.c i) ((x.c i).F.drop (k+1));have h3:((x.c i).F.drop (k+1)).length<=200:=by simp;omega
       exact a8p _ (by omega) (by omega))
      have HM:=uU hm;clear r hy R hm wk ek;have hw:(x.c i).T=0\/(x.c i).T=1\/(x.c i).T=2\/(x.c i).T=3:=by have:=(uH UO).2;omega
      rcases hw with e | e | e | e
      ·rw[e] at s2;have t:goB x H (x.c i) y=false:=by rw[uH GB];simp [wkB,wvB,e]
       clear e GB;go_wp2_with fail;go_roundw
       case rel=>exact⟨k,by omega,by go_num,by rw[uH (uH d t).1],by rw[uH (uH d t).2];exact(uH l).ext ((Ext.refl wr).alloc (.cells #[iv y.key.k,iv y.key.n,iv y.key.a,iv y.val.k,iv y.val.n,iv y.val.a] 154)),λj C=>(((Ext.refl wr).alloc (.cells #[iv y.key.k,iv y.key.n,iv y.key.a,iv y.val.k,iv y.val.n,iv y.val.a] 154))).keep (uH o j C),(uH A).trans ((Ext.refl wr).alloc (.cells #[iv y.key.k,iv y.key.n,iv y.key.a,iv y.val.k,iv y.val.n,iv y.val.a] 154))⟩
       case measure=>simp [intOf]
      ·rw[e] at s2;have T:=uU (show goB x H (x.c i) y=tX x H y.key by rw[uH GB];simp [wkB,wvB,e]);clear e GB;go_wp2_with fail;refine(uH I y.key (uH FK).1 _ ((Ext.refl wr).alloc (.cells #[iv y.key.k,iv y.key.n,iv y.key.a,iv y.val.k,iv y.val.n,iv y.val.a] 154))).mono ?_;rintro e w2 ⟨rfl,q2⟩;have O:=((Ext.refl wr).alloc (.cells #[iv y.key.k,iv y.key.n,iv y.key.a,iv y.val.k,iv y.val.n,iv y.val.a] 154)).trans q2;cases Z:tX x H y.key
       ·have t:goB x H (x.c i) y=false:=by rw[uH T];exact Z
        go_wp2_with fail;go_roundw
        case rel=>exact⟨k,by omega,by go_num,by rw[uH (uH d t).1],by rw[uH (uH d t).2];exact(uH l).ext O,λj C=>(O).keep (uH o j C),(uH A).trans O⟩
        case measure=>simp [intOf]
       ·have t:goB x H (x.c i) y=true:=by rw[uH T];exact Z
        go_wp2_with fail;refine(uH ab t _ O).mono ?_;rintro e w4 ⟨rfl,J,X,M⟩;have G4:=uU J;have S4:=uU X;have X4:=uU M;have EG:=uU (uH (uH G t));clear J X M;go_wp2_with fail;go_roundw
        case rel=>exact⟨k,by omega,by go_num,by rw[uH EG,uH WG];refine congrArg (Value.int IntKind.i64) ?_;omega,uH G4,uH S4,uH X4⟩
        case measure=>simp [intOf]
      ·rw[e] at s2;have T:=uU (show goB x H (x.c i) y=tX x H y.val by rw[uH GB];simp [wkB,wvB,e]);clear e GB;go_wp2_with fail;refine(uH I y.val (uH FK).2 _ ((Ext.refl wr).alloc (.cells #[iv y.key.k,iv y.key.n,iv y.key.a,iv y.val.k,iv y.val.n,iv y.val.a] 154))).mono ?_;rintro e w2 ⟨rfl,q2⟩;have O:=((Ext.refl wr).alloc (.cells #[iv y.key.k,iv y.key.n,iv y.key.a,iv y.val.k,iv y.val.n,iv y.val.a] 154)).trans q2;cases Z:tX x H y.val
       ·have t:goB x H (x.c i) y=false:=by rw[uH T];exact Z
        go_wp2_with fail;go_roundw
        case rel=>exact⟨k,by omega,by go_num,by rw[uH (uH d t).1],by rw[uH (uH d t).2];exact(uH l).ext O,λj C=>(O).keep (uH o j C),(uH A).trans O⟩
        case measure=>simp [intOf]
       ·have t:goB x H (x.c i) y=true:=by rw[uH T];exact Z
        go_wp2_with fail;refine(uH ab t _ O).mono ?_;rintro e w4 ⟨rfl,J,X,M⟩;have G4:=uU J;have S4:=uU X;have X4:=uU M;have EG:=uU (uH (uH G t));clear J X M;go_wp2_with fail;go_roundw
        case rel=>exact⟨k,by omega,by go_num,by rw[uH EG,uH WG];refine congrArg (Value.int IntKind.i64) ?_;omega,uH G4,uH S4,uH X4⟩
        case measure=>simp [intOf]
      ·rw[e] at s2;have T:=uU (show goB x H (x.c i) y=(tX x H y.key || tX x H y.val) by rw[uH GB];simp [wkB,wvB,e]);clear e GB;go_wp2_with fail;refine(uH I y.key (uH FK).1 _ ((Ext.refl wr).alloc (.cells #[iv y.key.k,iv y.key.n,iv y.key.a,iv y.val.k,iv y.val.n,iv y.val.a] 154))).mono ?_;rintro e w2 ⟨rfl,q2⟩;have O:=((Ext.refl wr).alloc (.cells #[iv y.key.k,iv y.key.n,iv y.key.a,iv y.val.k,iv y.val.n,iv y.val.a] 154)).trans q2;cases Z:tX x H y.key
       ·have b3:w2.cell? (aA wr.heap.size 3)=some (iv y.val.k):=q2.keep (by simp [go_sem]);have b4:w2.cell? (aA wr.heap.size 4)=some (iv y.val.n):=q2.keep (by simp [go_sem]);have b5:w2.cell? (aA wr.heap.size 5)=some (iv y.val.a):=q2.keep (by simp [go_sem]);go_wp2_with fail;refine(uH I y.val (uH FK).2 _ O).mono ?_;rintro e w3 ⟨rfl,q3⟩;have xr:=O.trans q3;cases t1:tX x H y.val
        ·have t:goB x H (x.c i) y=false:=by rw[uH T,Z,t1];rfl
         go_wp2_with fail;go_roundw
         case rel=>exact⟨k,by omega,by go_num,by rw[uH (uH d t).1],by rw[uH (uH d t).2];exact(uH l).ext xr,λj C=>(xr).keep (uH o j C),(uH A).trans xr⟩
         case measure=>simp [intOf]
        ·have t:goB x H (x.c i) y=true:=by rw[uH T,Z,t1];rfl
         go_wp2_with fail;refine(uH ab t _ xr).mono ?_;rintro e w4 ⟨rfl,J,X,M⟩;have G4:=uU J;have S4:=uU X;have X4:=uU M;have EG:=uU (uH (uH G t));clear J X M;go_wp2_with fail;go_roundw
         case rel=>exact⟨k,by omega,by go_num,by rw[uH EG,uH WG];refine congrArg (Value.int IntKind.i64) ?_;omega,uH G4,uH S4,uH X4⟩
         case measure=>simp [intOf]
       ·have t:goB x H (x.c i) y=true:=by rw[uH T,Z];rfl
        go_wp2_with fail;refine(uH ab t _ O).mono ?_;rintro e w4 ⟨rfl,J,X,M⟩;have G4:=uU J;have S4:=uU X;have X4:=uU M;have EG:=uU (uH (uH G t));clear J X M;go_wp2_with fail;go_roundw
        case rel=>exact⟨k,by omega,by go_num,by rw[uH EG,uH WG];refine congrArg (Value.int IntKind.i64) ?_;omega,uH G4,uH S4,uH X4⟩
        case measure=>simp [intOf]
  ·have ie:i=x.A.length:=by omega
   subst ie;have f:=uU (a2k x H x.A.length);have D:wr.cell? (aA g 4)=some (.slice ac x.A.length kc):=by obtain⟨_,_,_,_,g1⟩:=uH l;have:=g1.bx.2.2.2.2.1;rw[uH f] at this;exact this
   have U:g<wr.heap.size:=uL D;obtain⟨z,R⟩:∃z,z=cD x H x.A.length:=⟨_,rfl⟩;have ZE:=uU (show a4t x H=qK x z H x.A.length by rw[R];rfl);have ad:=uU (show z.A.length=x.A.length by rw[R];exact uH f)
   have ZC:=uU (show ∀q,(z.c q).U=(x.c q).U/\(H q=false->z.c q=x.c q) from λq=>by
    rw[R,b0y x H _ (Nat.le_refl _) q]
    split
    ·rename_i h;exact⟨rfl,λe=>by rw[e] at h;exact absurd h.2 (by simp)⟩
    ·exact⟨rfl,λ_=>rfl⟩)
   rw[<-R] at l;clear R f;go_wp2_with fail;go_loopw [10,94] (λdn si wr=>∃j:Nat,j<=x.A.length/\si=iv j/\dn=iv (a9u x H j)/\Hid (GK B wr g (qK x z H j) ar kr ac kc vg br bc)/\Hid (∀j,j<x.A.length->wr.cell? (aA w.heap.size j)=some (.bool (H j)))/\Hid (Ext a wr)) (λ_ si _=>x.A.length-(intOf si).toNat)
   case atStart=>exact⟨0,Nat.zero_le _,rfl,rfl,uH l,uH o,uH A⟩
   case round=>
    clear l o A D U;obtain⟨j,C,rfl,rfl,l,o,A⟩:=hrel;by_cases b:j<x.A.length
    ·obtain⟨aa,an,aq,V,r⟩:=uH l;have DL:=uU (show(qK x z H j).A.length=x.A.length by rw[a4a,uH ad]);have au:j<(qK x z H j).A.length:=by rw[uH DL];exact b
     have Y:0<(qK x z H j).A.length:=by omega
     have DC:=uU (c6f x z H j (by rw[uH ad];exact C) j (Nat.le_refl _));have D:=r.bx.2.2.2.2.1;rw[r.hc Y,uH DL] at D;have s7:=r.rw.s j au;have p3:=s7.2.2.2.1;rw[uH DC,(uH ZC j).1] at p3;have c0:=uH o j b;have fc:=(r.rw.nc Y).1.2 (j*8+3);have U:g<wr.heap.size:=uL D;have ae:bc<wr.heap.size:=uL p3;have k0:(0:Int)<=(j:Int):=by omega
     have k1:(j:Int)<(x.A.length:Int):=by omega
     have wd:=uU (a8p ((a9u x H j:Int)+1) (by omega) (by have:=c6g x H j;omega));have SB:=uU (show w.heap.size≠bc by have:=uH BC (by omega);omega);have NO:=uU (λq:a8x x H j=false=>And.intro (show a9u x H (j+1)=a9u x H j by show(if a8x x H j=true then _ else _)=_;rw[if_neg (by simp [q])]) (show qK x z H (j+1)=qK x z H j by show(if a8x x H j=true then _ else _)=_;rw[if_neg (by simp [q])]));cases q1:((x.c j).U == 1)
     ·have N:=uU (uH NO (by simp [a8x,q1]));clear r s7;go_wp2_with fail;go_roundw
      case rel=>exact⟨j+1,by omega,by go_num,by rw[(uH N).1],by rw[(uH N).2];exact uH l,uH o,uH A⟩
      case measure=>simp [intOf];omega
     ·cases P:H j
      ·rw[P] at c0;have Q:=uU (show a8x x H j=true by simp [a8x,q1,P]);have EN:=uU (show a9u x H (j+1)=a9u x H j+1 by show(if a8x x H j=true then _ else _)=_;rw[if_pos (uH Q)]);have ET:=uU (show qK x z H (j+1)={ qK x z H j with A:=(qK x z H j).A.set j (b7d (x.c j)) } by show(if a8x x H j=true then _ else _)=_;rw[if_pos (uH Q)]);have EC:=uU (show(qK x z H j).c j=x.c j by rw[uH DC];exact(uH ZC j).2 P)
       have GN:=uU (show GK B (wr.setCell (aA bc (j*8+3)) (iv 2)) g (qK x z H (j+1)) ar kr ac kc vg br bc by
        rw[uH ET];refine⟨aa,an,aq,V,r.setc au (by rw[uH EC];rfl) (uX.setCell (S:=λq=>q=bc) (uX.refl _ wr) (p:=(aA bc (j*8+3))) rfl _) ?_ (λk hk=>uC _ (.inr (by omega))) ((r.rw.nc Y).1.set _ _)⟩;rw[uH EC] at s7;obtain⟨a0,a1,a2,a3,a4,a5,a6⟩:=s7;refine⟨?_,?_,?_,World.cell?_setCell_same _ _ _ a3,?_,?_,?_⟩
        ·rw[uC _ (.inr (by omega))];exact a0
        ·rw[uC _ (.inr (by omega))];exact a1
        ·rw[uC _ (.inr (by omega))];exact a2
        ·rw[uC _ (.inr (by omega))];exact a4
        ·rw[uC _ (.inr (by omega))];exact a5
        ·rw[uC _ (.inr (by omega))];exact a6)
       have XN:=uU (show Ext a (wr.setCell (aA bc (j*8+3)) (iv 2)) from(uH A).setCell (p:=(aA bc (j*8+3))) (Nat.le_trans ha (r.rw.nc Y).2) _);have aw:=uU (show ∀q,q<x.A.length->(wr.setCell (aA bc (j*8+3)) (iv 2)).cell? (aA w.heap.size q)=some (.bool (H q)) from λq hq=>by rw[uC _ (.inl (λe=>uH SB e.symm))];exact uH o q hq);clear r s7;go_wp2_with fail;go_roundw
       case rel=>exact⟨j+1,by omega,by go_num,by rw[uH EN,uH wd];refine congrArg (Value.int IntKind.i64) ?_;omega,uH GN,uH aw,uH XN⟩
       case measure=>simp [intOf];omega
      ·rw[P] at c0;have N:=uU (uH NO (by simp [a8x,P]));clear r s7;go_wp2_with fail;go_roundw
       case rel=>exact⟨j+1,by omega,by go_num,by rw[(uH N).1],by rw[(uH N).2];exact uH l,uH o,uH A⟩
       case measure=>simp [intOf];omega
    ·have je:j=x.A.length:=by omega
     subst je;go_wp2_with fail;go_ret2;exact⟨H,rfl,uH HI,by rw[uH ZE];exact(uH l).ok,uH A⟩
end Go.Proofs.YtddkhnclmeikfaaGreat
