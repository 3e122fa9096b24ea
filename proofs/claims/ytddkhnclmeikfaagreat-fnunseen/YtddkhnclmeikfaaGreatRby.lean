import Derived.Test.YtddkhnclmeikfaaGreatRw
import Derived.Carry
import Derived.ChangeSlices
import Derived.Deep.RegionLaw
import Derived.Deep.RegionWith
import Derived.LaidEql
import Derived.Laws.Pointers
import Derived.MapKept
import Derived.OpenShut
import Derived.ProofKit
set_option maxRecDepth 100000
namespace Go.Proofs.YtddkhnclmeikfaaGreat
open Go.RowKit Tryz
attribute [local go_sem ↓] Go.wp_at_zero Go.wp_at_succ
variable{w w':World}{P:Program}{B bn r kr kc br bc on U bg kg:Nat}{x:Hp}{pb pk:Nat->Nat}{pa:Nat->Option Addr}{Q:List Nat}{vg vr vc:Value}{mt t e et:TypeId}{S:Nat->Prop}
theorem GAt.setp[Inhabited uQ]{g:Nat}{ar:Option Addr}{ac:Option Addr}{role:Nat->Nat}(h:GAt B w g x ar kr ac kc vg br bc pb pa pk role)(i:Nat)(L:i<x.A.length)(k:Nat)(G:k<(x.c i).F.length)(u:Pr)(o:uX (λq=>q=pb i) w w')(Z:Nf1 (pb i) w')(hp:qN w' (pb i) (k*6) u)(X:∀j,(j<k*6\/k*6+6<=j)->w'.cell? (aA (pb i) j)=w.cell? (aA (pb i) j)):
  GAt B w' g { x with A:=x.A.set i { x.c i with F:=(x.c i).F.set k u } } ar kr ac kc vg br bc pb pa pk role:=by
 have H:0<(x.c i).F.length:=by omega
 have P:=h.sp.p i L (h.rw.pw L H);have f:∀q,q<w.heap.size->role q≠6+i->w'.heap[q]?=w.heap[q]?:=λq b C=>o.block q b (λe=>C (by rw[e];exact P))
 have A:0<x.A.length:=by omega
 have l:({ x with A:=x.A.set i { x.c i with F:=(x.c i).F.set k u } }:Hp).A.length=x.A.length:=by simp
 have M:=Hp.c_set x i { x.c i with F:=(x.c i).F.set k u } L;have n:∀q,q≠i->(({ x with A:=x.A.set i { x.c i with F:=(x.c i).F.set k u } }:Hp).c q)=x.c q:=λq e=>by rw[M q,if_neg e]
 have F:(({ x with A:=x.A.set i { x.c i with F:=(x.c i).F.set k u } }:Hp).c i)={ x.c i with F:=(x.c i).F.set k u }:=by rw[M i,if_pos rfl]
 have z:∀q,(({ x with A:=x.A.set i { x.c i with F:=(x.c i).F.set k u } }:Hp).c q).F.length=(x.c q).F.length:=λq=>by grind [Hp.c,Nf1,qN]
 have N:=f g h.nf.1 (by rw[h.sp.g];omega);have I:=f bc (h.rw.nc A).1.1 (by rw[h.sp.c A];omega);have O:∀q,q<x.A.length->q≠i->0<pk q->w'.heap[pb q]?=w.heap[pb q]?:=λq b R l=>f (pb q) (h.rw.pl q b l).2.1.1 (by rw[h.sp.p q b l];omega)
 refine⟨?_,uJ h.nf N o.size,h.lo,h.ha,λ_=>h.hc A,⟨λj v=>?_,λq b=>?_,λq b=>?_,λq b j v=>?_,λq b t=>?_,λC=>⟨uJ (h.rw.nr C).1 (f br (h.rw.nr C).1.1 (by rw[h.sp.r C];omega)) o.size,(h.rw.nr C).2⟩,λ_=>⟨uJ (h.rw.nc A).1 I o.size,(h.rw.nc A).2⟩,λ_=>h.rw.d A,λq W b D n K V=>?_,λq b=>?_⟩,h.gr.block (λq b=>f q (h.gr.lt q b).2 (by rw[h.sp.y q b];omega)),⟨h.sp.g,h.sp.r,λ_=>h.sp.c A,h.sp.y,λq b t=>?_⟩,by rw[l];exact h.kl,h.pr.of (λq b K=>f q b (by rw[K];omega)) (λ_ _ h=>h),λG=>(h.cc G).block rfl (f bc (h.cc G).nf.1 (by rw[(h.cc G).ro];omega)) o.size⟩
 ·rw[l];exact(h.bx.block N)
 ·exact(h.rw.r j v).of λm _=>World.cell?_of_block (a:=(aA br _)) (f br (h.rw.nr (by have:j<x.B.length:=v;omega)).1.1 (by rw[h.sp.r (by have:j<x.B.length:=v;omega)];omega))
 ·rw[l] at b;have E:S7 w' bc (q*8) (x.c q):=(h.rw.s q b).of λm _=>World.cell?_of_block (a:=(aA bc _)) I
  by_cases e:q=i
  ·subst e;rw[F];exact E
  ·rw[n q e];exact E
 ·rw[l] at b;rw[z q,World.cell?_of_block (a:=(aA bc _)) I];exact h.rw.p7 q b
 ·rw[l] at b;rw[z q] at v;by_cases e:q=i
  ·subst e;rw[F];by_cases T:j=k
   ·grind [Hp.c,Cl.p,Nf1,qN]
   ·have:({ x.c q with F:=(x.c q).F.set k u }:Cl).p j=(x.c q).p j:=by
     have J:k≠j:=λe=>T e.symm
     simp [Cl.p,List.getElem?_set_ne J]
    rw[this];exact(h.rw.p q b j v).of λm Y=>X _ (by omega)
  ·rw[n q e];exact(h.rw.p q b j v).of λm _=>World.cell?_of_block (a:=(aA (pb q) _)) (O q b e (h.rw.pw b (by omega)))
 ·rw[l] at b;obtain⟨U,S,Q⟩:=h.rw.pl q b t;by_cases e:q=i
  ·grind [c0h,Hp.c,Nf1,qN]
  ·exact⟨U,a0g S (O q b e t) o.size,Q⟩
 ·rw[l] at b D;exact h.rw.dp q W b D n K V
 ·rw[l] at b;rw[z q];exact h.rw.kp q b
 ·rw[l] at b;exact h.sp.p q b t
theorem b1a(g:Nat):∀(vs:List Value) (o j:Nat) (w:World),(j<o\/o+vs.length<=j)->(w.setCells g o vs).cell? (aA g j)=w.cell? (aA g j)
 | [],_,_,_,_=>rfl
 | v::r,o,j,w,h=>by
  show((w.setCell (aA g o) v).setCells g (o+1) r).cell? (aA g j)=_;simp only [List.length_cons] at h;rw[b1a g r (o+1) j _ (by omega)];exact uC _ (.inr (by omega))
theorem c4v(g:Nat):∀(vs:List Value) (o k:Nat) (w:World),(∀m,m<vs.length->∃u,w.cell? (aA g (o+m))=some u)->k<vs.length->(w.setCells g o vs).cell? (aA g (o+k))=vs[k]?
 | [],_,_,_,_,hk=>by simp at hk
 | v::r,o,0,w,hm,_=>by
  show((w.setCell (aA g o) v).setCells g (o+1) r).cell? (aA g (o+0))=_;rw[b1a g r (o+1) (o+0) _ (by omega)];obtain⟨u,hu⟩:=hm 0 (by simp);exact World.cell?_setCell_same _ _ _ hu
 | v::r,o,k+1,w,hm,hk=>by
  show((w.setCell (aA g o) v).setCells g (o+1) r).cell? (aA g (o+(k+1)))=_
  have:=c4v g r (o+1) k (w.setCell (aA g o) v) (λm hm'=>by
   obtain⟨u,hu⟩:=hm (m+1) (by simp;omega);refine⟨u,?_⟩;rw[uC _ (.inr (by omega)),show o+1+m=o+(m+1) by omega];exact hu) (by simpa using hk)
  rw[show o+1+k=o+(k+1) by omega] at this;rw[this];rfl
abbrev ptr(bn p:Nat):Value:=.pointer (some ⟨bn,p,none⟩)
theorem a9o(w:World)(a p q:Nat):(sameAddr (aA a p) (aA a q)).run P w=.ok (p == q) w:=by
 have:(((aA a p):Addr) == (aA a q))=(p == q):=by grind
 simp [sameAddr,this]
theorem b3t(w:World)(d:Nat)(t e:TypeId)(i:TypeInfo)(c:P.underlying t=some (.pointer e))(b:P.info? e=some i)(f:i.size≠0)(a p q:Nat):
  (Op.equalIn (d+1) t (ptr a p) (ptr a q)).run P w=.ok (p == q) w:=by
 simp [Op.equalIn,run_underlying c,sizeOf,typeInfo,b,f,a9o]
theorem a3f(w:World)(t e:TypeId)(i:TypeInfo)(c:P.underlying t=some (.pointer e))(b:P.info? e=some i)(d:i.size≠0)(a p q:Nat):
  (Op.equal t (ptr a p) (ptr a q)).run P w=.ok (p == q) w:=b3t w 9999 t e i c b d a p q
def b4b(bn:Nat)(Q:List Nat)(l:List MapEntry):Prop:=l.map (·.key)=Q.map (ptr bn)/\∀e,e∈l->e.val=.agg #[]
theorem c0z{P:Program}(w:World)(t e:TypeId)(i:TypeInfo)(ht:P.underlying t=some (.pointer e))(hi:P.info? e=some i)(hs:i.size≠0)(bn p:Nat):
  ∀(l:List MapEntry) (Q:List Nat) (k:Nat),b4b bn Q l->∃r,(Instr.findAsking t (ptr bn p) l k).run P w=.ok r w/\((p∈Q/\∃j,r=some (j,.agg #[]))\/(¬p∈Q/\r=none))
 | [],Q,k,h=>by
  have:Q=[]:=by simpa using h.1.symm
  subst this;exact⟨none,by simp [Instr.findAsking],.inr ⟨by simp,rfl⟩⟩
 | x::l,Q,k,h=>by
  cases Q with
  | nil=>have:=h.1;simp at this
  | cons q Q=>
   have h1:=h.1;simp only [List.map_cons,List.cons.injEq] at h1;have hv:=h.2 x List.mem_cons_self;by_cases e:p=q
   ·subst e;refine⟨some (k,.agg #[]),?_,.inl ⟨List.mem_cons_self,k,rfl⟩⟩;simp [Instr.findAsking,h1.1,a3f w t _ i ht hi hs,hv]
   ·obtain⟨r,hr,ho⟩:=c0z w t _ i ht hi hs bn p l Q (k+1) ⟨h1.2,λy hy=>h.2 y (List.mem_cons_of_mem _ hy)⟩;refine⟨r,?_,?_⟩
    ·simp [Instr.findAsking,h1.1,a3f w t _ i ht hi hs,e,hr]
    ·rcases ho with⟨m,j⟩ | ⟨m,j⟩
     ·exact .inl ⟨List.mem_cons_of_mem _ m,j⟩
     ·exact .inr ⟨by simp [e,m],j⟩
theorem a4p(e:TypeId)(k:Value)(l:List MapEntry):Instr.findNow (.pointer e) k l 0=(if l=[] then some none else none):=by
 cases l with
 | nil=>rfl
 | cons x l=>simp [Instr.findNow,Instr.sameNow]
theorem b3e(w:World)(t e:TypeId)(i:TypeInfo)(b:P.underlying t=some (.pointer e))(g:P.info? e=some i)(k:i.size≠0)(a p:Nat)(l:List MapEntry)(Q:List Nat)(h:b4b a Q l):
  ∃r,(Instr.findKey t (ptr a p) l).run P w=.ok r w/\((p∈Q/\∃j,r=some (j,.agg #[]))\/(¬p∈Q/\r=none)):=by
 obtain⟨r,f,d⟩:=c0z w t e i b g k a p l Q 0 h;by_cases c:l=[]
 ·subst c;have:Q=[]:=by simpa using h.1.symm
  subst this;exact⟨none,by simp [Instr.findKey,run_underlying b,a4p],.inr ⟨by simp,rfl⟩⟩
 ·refine⟨r,?_,d⟩;simp [Instr.findKey,run_underlying b,a4p,c,f]
theorem b7a(w:World)(d:Nat)(t e:TypeId)(b:P.underlying t=some (.pointer e))(a:Bool)(v:Option Addr):(Instr.checkKey a (d+1) t (.pointer v)).run P w=.ok () w:=by
 simp [Instr.checkKey,run_underlying b]
theorem a0f(w:World)(t e:TypeId)(b:P.underlying t=some (.pointer e))(a:Bool)(v:Option Addr):(Instr.checkKey a 10000 t (.pointer v)).run P w=.ok () w:=b7a w 9999 t e b a v
structure a3p(w:World)(r bn:Nat)(Q:List Nat):Prop where
 mk' ::
 m:∃es clock,w.heap[r]?=some (.map es clock)/\b4b bn Q es.toList
theorem a3p.block(h:a3p w r bn Q)(e:w'.heap[r]?=w.heap[r]?):a3p w' r bn Q:=by
 obtain⟨d,c,b,a⟩:=h.m;exact⟨d,c,e.trans b,a⟩
theorem a3p.lookup(h:a3p w r bn Q){i:TypeInfo}(g:P.underlying mt=some (.map t et))(a:P.underlying t=some (.pointer e))(o:P.info? e=some i)(s:i.size≠0)(q:∀w,(zeroValue et).run P w=.ok (.agg #[]) w)(p:Nat):
  (Instr.lookup mt (.map (some r)) (ptr bn p) true).run P w=.ok (.tuple #[.agg #[],.bool (decide (p∈Q))]) w:=by
 obtain⟨n,c,d,k⟩:=h.m;obtain⟨f,b,l⟩:=b3e w t e i a o s bn p n.toList Q k;rcases l with⟨m,j,rfl⟩ | ⟨m,rfl⟩
 ·simp [Instr.lookup,run_underlying g,MapKept.run_getObj_map d,a0f w t e a,b,m]
 ·simp [Instr.lookup,run_underlying g,MapKept.run_getObj_map d,a0f w t e a,b,m,q]
theorem a3p.update(h:a3p w r bn Q){i:TypeInfo}(v:P.underlying mt=some (.map t et))(l:P.underlying t=some (.pointer e))(u:P.info? e=some i)(z:i.size≠0)(p:Nat)(x:¬p∈Q):
  ∃w',(Instr.mapUpdate mt (.map (some r)) (ptr bn p) (.agg #[])).run P w=.ok () w'/\a3p w' r bn (Q++[p])/\w'.os=w.os/\w'.tape=w.tape/\w'.output=w.output/\w'.heap.size=w.heap.size/\(∀k:Nat,k≠r->w'.heap[k]?=w.heap[k]?):=by
 obtain⟨j,c,b,d⟩:=h.m;obtain⟨f,n,s⟩:=b3e w t e i l u z bn p j.toList Q d;rcases s with⟨m,_⟩ | ⟨_,rfl⟩
 ·exact(x m).elim
 ·have g:r<w.heap.size:=by
   rcases Nat.lt_or_ge r w.heap.size with q | q
   ·exact q
   ·rw[Array.getElem?_eq_none q] at b;cases b
  refine⟨{ w with heap:=w.heap.setIfInBounds r (.map (j.push { key:=ptr bn p,val:=.agg #[],born:=c }) (c+1)) },?_,⟨j.push { key:=ptr bn p,val:=.agg #[],born:=c },c+1,?_,?_⟩,rfl,rfl,rfl,by simp,λk o=>?_⟩
  ·simp [Instr.mapUpdate,run_underlying v,MapKept.run_getObj_map b,a0f w t e l,n,MapKept.run_setObj_map _ b]
  ·show(w.heap.setIfInBounds r _)[r]?=_;rw[Array.getElem?_setIfInBounds,if_pos rfl,if_pos g]
  ·refine⟨?_,λy a=>?_⟩
   ·simp [d.1]
   ·simp at a;rcases a with a | a
    ·exact d.2 y (by simpa using a)
    ·rw[a]
  ·show(w.heap.setIfInBounds r _)[k]?=_;rw[Array.getElem?_setIfInBounds,if_neg (λe=>o e.symm)]
def a1i(bn on:Nat)(f:Nat->Value)(Q:List Nat)(l:List MapEntry):Prop:=l.map (λe=>(e.key,e.val))=Q.map (λk=>(ptr bn (on+k*2),f k))
theorem findF{P:Program}(w:World)(t e:TypeId)(i:TypeInfo)(ht:P.underlying t=some (.pointer e))(hi:P.info? e=some i)(hs:i.size≠0)(bn on:Nat)(f:Nat->Value)(k:Nat):
  ∀(l:List MapEntry) (Q:List Nat) (m:Nat),a1i bn on f Q l->∃r,(Instr.findAsking t (ptr bn (on+k*2)) l m).run P w=.ok r w/\((∃j,r=some (m+j,f k)/\Q[j]?=some k)\/(¬k∈Q/\r=none))
 | [],Q,m,h=>by
  have:Q=[]:=by simpa [a1i] using h.symm
  subst this;exact⟨none,by simp [Instr.findAsking],.inr ⟨by simp,rfl⟩⟩
 | x::l,Q,m,h=>by
  cases Q with
  | nil=>simp [a1i] at h
  | cons q Q=>
   simp only [a1i,List.map_cons,List.cons.injEq,Prod.mk.injEq] at h;obtain⟨⟨h1,h2⟩,h3⟩:=h;by_cases e:k=q
   ·subst e;refine⟨some (m,f k),?_,.inl ⟨0,rfl,rfl⟩⟩;simp [Instr.findAsking,h1,a3f w t _ i ht hi hs,h2]
   ·obtain⟨r,hr,ho⟩:=findF w t _ i ht hi hs bn on f k l Q (m+1) h3;have ne:¬(k*2=q*2):=by omega
    refine⟨r,?_,?_⟩
    ·simp [Instr.findAsking,h1,a3f w t _ i ht hi hs,ne,hr]
    ·rcases ho with⟨j,hj,hq⟩ | ⟨n,hj⟩
     ·exact .inl ⟨j+1,by rw[hj];congr 2;omega,by simpa using hq⟩
     ·exact .inr ⟨by simp [e,n],hj⟩
theorem a7n(w:World)(t e:TypeId)(i:TypeInfo)(b:P.underlying t=some (.pointer e))(n:P.info? e=some i)(o:i.size≠0)(a c:Nat)(f:Nat->Value)(k:Nat)(l:List MapEntry)(Q:List Nat)(h:a1i a c f Q l):
  ∃r,(Instr.findKey t (ptr a (c+k*2)) l).run P w=.ok r w/\((∃j,r=some (j,f k)/\Q[j]?=some k)\/(¬k∈Q/\r=none)):=by
 obtain⟨r,m,g⟩:=findF w t e i b n o a c f k l Q 0 h;by_cases d:l=[]
 ·subst d;have:Q=[]:=by simpa [a1i] using h.symm
  subst this;exact⟨none,by simp [Instr.findKey,run_underlying b,a4p],.inr ⟨by simp,rfl⟩⟩
 ·refine⟨r,?_,by simpa using g⟩;simp [Instr.findKey,run_underlying b,a4p,d,m]
structure b1x(w:World)(r bn on:Nat)(f:Nat->Value):Prop where
 mk' ::
 m:∃es clock Q,w.heap[r]?=some (.map es clock)/\a1i bn on f Q es.toList/\Q.Nodup/\∀k,¬k∈Q->f k=.slice none 0 0
theorem b1x.block{f:Nat->Value}(h:b1x w r bn on f)(e:w'.heap[r]?=w.heap[r]?):b1x w' r bn on f:=by
 obtain⟨d,c,Q,b,a⟩:=h.m;exact⟨d,c,Q,e.trans b,a⟩
theorem b1x.lt{f:Nat->Value}(h:b1x w r bn on f):r<w.heap.size:=by
 obtain⟨b,c,Q,a,_⟩:=h.m;rcases Nat.lt_or_ge r w.heap.size with q | q
 ·exact q
 ·rw[Array.getElem?_eq_none q] at a;cases a
theorem b1x.lookup{f:Nat->Value}(h:b1x w r bn on f){i:TypeInfo}(l:P.underlying mt=some (.map t et))(a:P.underlying t=some (.pointer e))(u:P.info? e=some i)(x:i.size≠0)(v:∀w,(zeroValue et).run P w=.ok (.slice none 0 0) w)(k:Nat):
  (Instr.lookup mt (.map (some r)) (ptr bn (on+k*2)) false).run P w=.ok (f k) w:=by
 obtain⟨s,c,Q,d,o,y,p⟩:=h.m;obtain⟨g,b,q⟩:=a7n w t e i a u x bn on f k s.toList Q o;rcases q with⟨j,rfl,hj⟩ | ⟨n,rfl⟩
 ·simp [Instr.lookup,run_underlying l,MapKept.run_getObj_map d,a0f w t e a,b]
 ·simp [Instr.lookup,run_underlying l,MapKept.run_getObj_map d,a0f w t e a,b,v,p k n]
theorem a1i.at{f:Nat->Value}{l:List MapEntry}(h:a1i bn on f Q l)(i:Nat):(l[i]?).map (λe=>(e.key,e.val))=(Q[i]?).map (λk=>(ptr bn (on+k*2),f k)):=by
 rw[<-List.getElem?_map,<-List.getElem?_map,h]
theorem b1x.update{P:Program}{w:World}{r bn on:Nat}{f:Nat->Value}(h:b1x w r bn on f){mt t e et:TypeId}{i:TypeInfo}(L:P.underlying mt=some (.map t et))(H:P.underlying t=some (.pointer e))(S:P.info? e=some i)(T:i.size≠0)(k:Nat)(v:Value):
  ∃w',(Instr.mapUpdate mt (.map (some r)) (ptr bn (on+k*2)) v).run P w=.ok () w'/\b1x w' r bn on (λq=>if q=k then v else f q)/\w'.os=w.os/\w'.tape=w.tape/\w'.output=w.output/\w'.heap.size=w.heap.size/\(∀q:Nat,q≠r->w'.heap[q]?=w.heap[q]?):=by
 have x:=h.lt;obtain⟨s,c,Q,D,C,G,K⟩:=h.m;obtain⟨g,I,N⟩:=a7n w t e i H S T bn on f k s.toList Q C;rcases N with⟨j,rfl,hj⟩ | ⟨n,rfl⟩
 ·have d:=C.at j;rw[hj] at d
  obtain⟨A,u⟩:∃A,s.toList[j]?=some A:=by
   cases q:s.toList[j]? with
   | none=>rw[q] at d;simp at d
   | some A=>exact⟨A,rfl⟩
  have y:s[j]?=some A:=by simpa using u
  rw[u] at d;simp only [Option.map_some,Option.some.injEq,Prod.mk.injEq] at d;refine⟨{ w with heap:=w.heap.setIfInBounds r (.map (s.modify j λe=>{ e with key:=ptr bn (on+k*2),val:=v }) c) },?_,⟨s.modify j λe=>{ e with key:=ptr bn (on+k*2),val:=v },c,Q,?_,?_,G,λq o=>?_⟩,rfl,rfl,rfl,by simp,λq o=>?_⟩
  ·simp [Instr.mapUpdate,run_underlying L,MapKept.run_getObj_map D,a0f w t e H,I,MapKept.run_setObj_map _ D,y,d.1,Instr.keyThatStays,Instr.sameBits]
  ·show(w.heap.setIfInBounds r _)[r]?=_;rw[Array.getElem?_setIfInBounds,if_pos rfl,if_pos x]
  ·unfold a1i;apply List.ext_getElem?;intro m;rw[List.getElem?_map,List.getElem?_map,Array.toList_modify,List.getElem?_modify];have p:=C.at m;by_cases B:j=m
   ·subst B;rw[hj,u];simp
   ·cases F:Q[m]? with
    | none=>rw[F] at p;simp at p;simp [B,p]
    | some q=>
     rw[F] at p
     have M:q≠k:=λe=>by
      subst e
      have:=(List.getElem?_inj (i:=j) (j:=m) (l:=Q) (by
       rcases Nat.lt_or_ge j Q.length with z | z
       ·exact z
       ·rw[List.getElem?_eq_none z] at hj;cases hj) G).1 (by rw[hj,F])
      exact B this
     simp only [B,if_false,M,Option.map_some]
     simpa using p
  ·rw[if_neg (λe=>by subst e;exact o (List.mem_of_getElem? hj))];exact K q o
  ·show(w.heap.setIfInBounds r _)[q]?=_;rw[Array.getElem?_setIfInBounds,if_neg (λe=>o e.symm)]
 ·refine⟨{ w with heap:=w.heap.setIfInBounds r (.map (s.push { key:=ptr bn (on+k*2),val:=v,born:=c }) (c+1)) },?_,⟨s.push { key:=ptr bn (on+k*2),val:=v,born:=c },c+1,Q++[k],?_,?_,?_,λq o=>?_⟩,rfl,rfl,rfl,by simp,λq o=>?_⟩
  ·simp [Instr.mapUpdate,run_underlying L,MapKept.run_getObj_map D,a0f w t e H,I,MapKept.run_setObj_map _ D]
  ·show(w.heap.setIfInBounds r _)[r]?=_;rw[Array.getElem?_setIfInBounds,if_pos rfl,if_pos x]
  ·unfold a1i;have R:Q.map (λq=>(ptr bn (on+q*2),if q=k then v else f q))=Q.map (λq=>(ptr bn (on+q*2),f q)):=List.map_congr_left (λq o=>by rw[if_neg (show ¬q=k from λz=>n (z ▸ o))]);have E:s.toList.map (λe=>(e.key,e.val))=Q.map (λk=>(ptr bn (on+k*2),f k)):=C;simp [R,E]
  ·rw[List.nodup_append];exact⟨G,by simp,λa O b J=>by simp at J;rw[J];intro e;exact n (e ▸ O)⟩
  ·simp only [List.mem_append,List.mem_singleton,not_or] at o;rw[if_neg o.2];exact K q o.1
  ·show(w.heap.setIfInBounds r _)[q]?=_;rw[Array.getElem?_setIfInBounds,if_neg (λe=>o e.symm)]
structure a9y(B U:Nat)(w:World)(x:Hp)(br kr bc kc bg kg:Nat)(pb:Nat->Nat)(pa:Nat->Option Addr)(pk:Nat->Nat):Prop where
 r:SlW w (.slice (some ⟨br,0,none⟩) x.B.length kr) x.B
 s:∀q,q<x.A.length->w.cell? ⟨bc,q*8,none⟩=some (iv (x.c q).st)/\w.cell? ⟨bc,q*8+1,none⟩=some (iv (x.c q).kind)/\w.cell? ⟨bc,q*8+2,none⟩=some (iv (x.c q).T)/\w.cell? ⟨bc,q*8+3,none⟩=some (iv (x.c q).U)/\w.cell? ⟨bc,q*8+4,none⟩=some (iv (x.c q).born)/\w.cell? ⟨bc,q*8+5,none⟩=some (iv (x.c q).J)/\w.cell? ⟨bc,q*8+6,none⟩=some (iv (x.c q).to)
 p:∀q,q<x.A.length->SlP w (.slice (pa q) (x.c q).F.length (pk q)) (x.c q).F
 g:SlI w (.slice (some ⟨bg,0,none⟩) x.D.length kg) x.D
 p7:∀q,q<x.A.length->w.cell? ⟨bc,q*8+7,none⟩=some (.slice (pa q) (x.c q).F.length (pk q))
 pl:∀q,q<x.A.length->0<(x.c q).F.length->pa q=some ⟨pb q,0,none⟩/\Nf1 (pb q) w/\(pb q≠br/\pb q≠bc/\pb q≠bg)/\B<=pb q/\pb q<U
 nr:Nf1 br w
 nc:Nf1 bc w
 ng:Nf1 bg w
 d:br≠bc/\br≠bg/\bc≠bg
 dp:∀q q',q<x.A.length->q'<x.A.length->q≠q'->0<(x.c q).F.length->0<(x.c q').F.length->pb q≠pb q'
 b:(B<=br/\br<U)/\(B<=bc/\bc<U)/\(B<=bg/\bg<U)
 l:x.B.length<=100/\x.A.length<=8000/\x.D.length<=8000/\∀q,q<x.A.length->(x.c q).F.length<=200
 k:∀q,q<x.A.length->(x.c q).F.length<=pk q
theorem b1i(h:Nf1 B w)(k:uX S w w')(a:¬S B):Nf1 B w':=⟨Nat.lt_of_lt_of_le h.1 k.size,λj=>by rw[k.frozen h.1 a];exact h.2 j⟩
theorem a9y.ext(h:a9y B U w x br kr bc kc bg kg pb pa pk)(e:Ext w w'):a9y B U w' x br kr bc kc bg kg pb pa pk:=
 ⟨SlW.ext e h.r,λq f=>let ⟨a0,a1,a2,a3,a4,a5,a6⟩:=h.s q f;⟨e.keep a0,e.keep a1,e.keep a2,e.keep a3,e.keep a4,e.keep a5,e.keep a6⟩,λq f=>SlP.ext e (h.p q f),SlI.ext e h.g,λq f=>e.keep (h.p7 q f),λq f i=>let ⟨a,b,c⟩:=h.pl q f i;⟨a,b.ext e,c⟩,h.nr.ext e,h.nc.ext e,h.ng.ext e,h.d,h.dp,h.b,h.l,h.k⟩
theorem a9y.only(h:a9y B U w x br kr bc kc bg kg pb pa pk)(e:uX S w w')(m:∀q,B<=q->q<U->¬S q):a9y B U w' x br kr bc kc bg kg pb pa pk:=by
 have t:=m _ h.b.1.1 h.b.1.2;have f:=m _ h.b.2.1.1 h.b.2.1.2;have v:=m _ h.b.2.2.1 h.b.2.2.2;refine⟨tJ.mono2 h.r λb o n c z A y j=>?_,λq i=>let ⟨a0,a1,a2,a3,a4,a5,a6⟩:=h.s q i;⟨e.keep f a0,e.keep f a1,e.keep f a2,e.keep f a3,e.keep f a4,e.keep f a5,e.keep f a6⟩,λq i=>?_,tJ.mono2 h.g λb o n c z A y j=>?_,λq i=>e.keep f (h.p7 q i),λq i C=>let ⟨a,b,c⟩:=h.pl q i C;⟨a,b1i b e (m _ c.2.1 c.2.2),c⟩,b1i h.nr e t,b1i h.nc e f,b1i h.ng e v,h.d,h.dp,h.b,h.l,h.k⟩
 ·simp only [Value.slice.injEq,Option.some.injEq,Addr.mk.injEq] at z;obtain⟨⟨rfl,_,_⟩,_,_⟩:=z;exact⟨e.keep t j.1,e.keep t j.2.1,e.keep t j.2.2⟩
 ·rcases Nat.eq_zero_or_pos (x.c q).F.length with z | z
  ·grind [Hp.c,tJ,tJ.nil]
  ·obtain⟨a,_,c⟩:=h.pl q i z;refine a6y e (λb o n k u=>?_) (h.p q i);rw[a] at u;simp only [Value.slice.injEq,Option.some.injEq,Addr.mk.injEq] at u;rw[<-u.1.1];exact m _ c.2.1 c.2.2
 ·simp only [Value.slice.injEq,Option.some.injEq,Addr.mk.injEq] at z;obtain⟨⟨rfl,_,_⟩,_,_⟩:=z;exact e.keep v j
theorem a9y.cs(h:a9y B U w x br kr bc kc bg kg pb pa pk):SlC w (sS bc x.A.length kc) x.A:=by
 refine⟨_,_,rfl,by have:=h.l.2.1;omega,λi a=>⟨bc,0,rfl,?_⟩⟩;have e:x.c i=x.A[i]:=(Hp.c_eq x i a).symm;obtain⟨f,g,k,b,n,d,m⟩:=h.s i a;have o:=h.p i a;have j:=h.p7 i a;rw[e] at f g k b n d m o j;rw[Nat.zero_add];exact⟨_,f,g,k,b,n,d,m,j,o⟩
theorem dK.set9(h:dK w B x vr vc vg)(u:Int):dK (w.setCell (aA B 9) (iv u)) B { x with per:=u } vr vc vg:=by
 obtain⟨n,m,g,d,i,l,j,f,k,e,b,c,a⟩:=h;refine⟨?_,?_,?_,?_,?_,?_,?_,?_,?_,?_,?_,?_,?_⟩ <;> first | exact(uC _ (by omega)).trans (by assumption) | exact World.cell?_setCell_same _ _ _ (by assumption)
theorem dK.set10(h:dK w B x vr vc vg)(u:Int):dK (w.setCell (aA B 10) (iv u)) B { x with V:=u } vr vc vg:=by
 obtain⟨n,m,g,d,i,l,j,f,k,e,b,c,a⟩:=h;refine⟨?_,?_,?_,?_,?_,?_,?_,?_,?_,?_,?_,?_,?_⟩ <;> first | exact(uC _ (by omega)).trans (by assumption) | exact World.cell?_setCell_same _ _ _ (by assumption)
def frH(n:Int):Hp:=⟨n,0,0,List.replicate 16 ⟨0,0,0⟩,[],0,0,0,[],0,0,0,0⟩
end Go.Proofs.YtddkhnclmeikfaaGreat
namespace Go.Proofs.YtddkhnclmeikfaaGreat
open Go.ChangeShapes Go.WideShapes Go.ChangeAt Go.RowKit Tryz
attribute [local go_sem ↓] Go.wp_at_zero Go.wp_at_succ
def ByL(w:World)(v:Value):Prop:=∃(ad:Option Addr) (n k:Nat),v=.slice ad n k/\n<=9223372036854775807/\∀i,i<n->∃b o z,ad=some ⟨b,o,none⟩/\w.cell? ⟨b,o+i,none⟩=some (.int .u8 z)/\0<=z/\z<256
theorem cells5:prog.cellsOf 5=1:=by kernel_rfl
theorem c3j{H:Type}{enc:TypeId×Value->H}{w:World}{base:Nat}{r:Reach}{b0:Nat}{held:Bool}{v:Value}{d:DataW H}{p:List MemPlace}(m:Value.okWide prog w r b0 22 v)(h:DataW.Trod enc prog w base (λ_=>true) held 22 v d p):ByL w v:=by
 obtain⟨ad,f,g,rfl⟩:=okWide_slice underlying22 m;obtain⟨q,s⟩:=h;rcases open_ints underlying22 underlying5 cells5 s with⟨hcs,_⟩ | ⟨a,len',cap',zs,hcs,_,hl,hm,hz,_,hcell,hwz⟩
 ·have e:Value.slice ad f g=.slice none 0 0:=by simpa [Value.cells] using hcs
  cases e;exact⟨none,0,0,rfl,by omega,λi u=>by omega⟩
 ·have e:Value.slice ad f g=.slice (some a) len' cap':=by simpa [Value.cells] using hcs
  cases e;simp only [if_true] at hz;refine⟨some a,f,g,rfl,by unfold maxLen at hm;omega,λi u=>?_⟩;have k:=hcell i (by omega);obtain⟨b,o,j⟩:=a
  have c:j=none:=by
   have t:=hcell 0 (by omega)
   simpa [Addr.add] using World.cell?_spot t
  subst c;rw[c0e] at k;obtain⟨z,l⟩:∃z,z=zs.getD i 0:=⟨_,rfl⟩
  have n:=hwz z (by grind [ByL])
  rw[<-l] at k;refine⟨b,o,z,rfl,k,?_⟩;have n:IntKind.u8.min<=z/\z<=IntKind.u8.max:=by simpa [Lit.wf] using n
  have x:IntKind.u8.min=0:=by decide
  have y:IntKind.u8.max=255:=by decide
  omega
end Go.Proofs.YtddkhnclmeikfaaGreat
