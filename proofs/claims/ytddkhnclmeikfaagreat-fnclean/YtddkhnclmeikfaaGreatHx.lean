import Derived.Test.YtddkhnclmeikfaaGreatUn11
import Derived.Maps.AppendAt
namespace Go.Proofs.YtddkhnclmeikfaaGreat
open Go.RowKit
variable{w w' W w5:World}{x y:Hp}{B b br bc c k o base n:Nat}{vr vc vg v:Value}{pb pk:Nat->Nat}{pa:Nat->Option Addr}{xs:List Value}{t T:TypeId}{p:Pr}{S:Nat->Prop}{ad:Option Addr}
theorem c7h(i0:Nat)(hr:y.B=x.B)(hl:∀i,tK x i->i<y.A.length)(hb:∀j,tK y j->tK x j)(hc:∀i,i≠i0->tK x i->y.c i=x.c i)
  (c0:tK x i0->(y.c i0).st=1/\(y.c i0).U=(x.c i0).U/\(y.c i0).F.length=(x.c i0).F.length)
  (tr:∀k (h:k<x.B.length),x.B[k].k=2->tgt y x.B[k]=tgt x x.B[k])
  (tp:∀i p,i≠i0->tK x i->p<(x.c i).F.length->(((x.c i).p p).key.k=2->tgt y ((x.c i).p p).key=tgt x ((x.c i).p p).key)/\(((x.c i).p p).val.k=2->tgt y ((x.c i).p p).val=tgt x ((x.c i).p p).val))
  (t0:∀p,tK x i0->p<(x.c i0).F.length->(((y.c i0).p p).key.k=((x.c i0).p p).key.k/\(((x.c i0).p p).key.k=2->tgt y ((y.c i0).p p).key=tgt x ((x.c i0).p p).key))/\(((y.c i0).p p).val.k=((x.c i0).p p).val.k/\(((x.c i0).p p).val.k=2->tgt y ((y.c i0).p p).val=tgt x ((x.c i0).p p).val))):Ovr x y (λi=>i) where
 rl:=by rw[hr]
 rg:=λk h h'=>by
  have e:y.B[k]=x.B[k]:=by simp only [hr]
  rw[e];exact⟨rfl,tr k h⟩
 g:=λi gi=>by
  by_cases e:i=i0
  ·subst e;have:=c0 gi;exact⟨this.1,hl _ gi,this.2.1,this.2.2⟩
  ·rw[hc i e gi];exact⟨gi.2.1,hl _ gi,rfl,rfl⟩
 ky:=λi p gi hp=>by
  by_cases e:i=i0
  ·subst e;exact(t0 p gi hp).1
  ·rw[hc i e gi];exact⟨rfl,(tp i p e gi hp).1⟩
 vl:=λi p gi hp=>by
  by_cases e:i=i0
  ·subst e;exact(t0 p gi hp).2
  ·rw[hc i e gi];exact⟨rfl,(tp i p e gi hp).2⟩
 b:=λj gj=>⟨j,hb j gj,rfl⟩
theorem Snd.o5(s:Snd x)(hp:x.E=5):Ovr x (eH x) (λi=>i)/\((eH x).E=5\/(eH x).E=6)/\(∀q,((eH x).c q).st=(x.c q).st)/\(eH x).A.length=x.A.length/\((eH x).E=6->(eH x).I=x.A.length):=by
 have hh:=s.r1.I;have hsb:=s.r1.sub;unfold eH
 split
 ·exact⟨a2z (by omega) 6 x.A.length 0 x.Q,.inr rfl,λ_=>rfl,rfl,λ_=>rfl⟩
 ·rename_i ne
  split
  ·rename_i hlt;obtain⟨i,hi⟩:∃i,i=x.I.toNat:=⟨_,rfl⟩;obtain⟨k,hk⟩:∃k,k=x.sub.toNat:=⟨_,rfl⟩;rw[<-hi] at hlt ⊢;rw[<-hk];have hil:i<x.A.length:=by omega
   have hkl:k<(x.c i).F.length:=by omega
   have hst:(x.c i).st=1:=by
    rcases s.r2.1 i hil with⟨_,b,_⟩ | ⟨_,b⟩ | ⟨a,_⟩
    ·have:=b.2.2.2.2.2;omega
    ·have:=b.1.2.2.2.2.2;omega
    ·exact a
   have nd:∀q,¬hY x q:=λq d=>by have:=d.1;omega
   obtain⟨y,hy⟩:∃y:Hp,y={ x with A:=x.A.set i (qD x (x.c i) k),sub:=x.sub+1 }:=⟨_,rfl⟩;have hc:∀q,y.c q=if q=i/\i<x.A.length then qD x (x.c i) k else x.c q:=λq=>by rw[hy];exact a8e _ _ _ _
   have yr:y.B=x.B:=by rw[hy]
   have yl:y.A.length=x.A.length:=by rw[hy];simp
   have yp:y.E=x.E:=by rw[hy]
   rw[<-hy];clear hy;have ci:y.c i=qD x (x.c i) k:=by rw[hc,if_pos ⟨rfl,hil⟩]
   have co:∀q,q≠i->y.c q=x.c q:=λq h=>by rw[hc,if_neg (λe=>h e.1)]
   have st:∀q,(y.c q).st=(x.c q).st:=λq=>by
    by_cases e:q=i
    ·rw[e,ci];rfl
    ·rw[co q e]
   have tz:∀q,(y.c q).to=(x.c q).to:=λq=>by
    by_cases e:q=i
    ·rw[e,ci];rfl
    ·rw[co q e]
   have tg:∀u,tgt y u=tgt x u:=λu=>by unfold tgt zH;rw[st,tz]
   have rs:∀u:Wd,a1w x u->(qX x u).k=u.k/\(u.k=2->tgt x (qX x u)=tgt x u):=λu mu=>by
    unfold qX;by_cases e:u.k=2/\(x.c u.a.toNat).st=2
    ·rw[if_pos e];obtain⟨_,a0,a1,_,gd⟩:=mu e.1;refine⟨e.1.symm,λ_=>?_⟩;have m:=s.moved_to (i:=u.a.toNat) (by omega) e.2;unfold tgt;rw[a9e e.2,a3f (by show(x.c (x.c u.a.toNat).to.toNat).st≠2;omega)]
    ·rw[if_neg e];exact⟨rfl,λ_=>rfl⟩
   have gi:tK x i:=⟨hil,hst,nd i⟩;refine⟨c7h i yr (λj gj=>by rw[yl];exact gj.1) (λj gj=>⟨by rw[<-yl];exact gj.1,by rw[<-st];exact gj.2.1,nd j⟩) (λj hj _=>co j hj) (λ_=>?_) (λ_ _ _=>tg _) (λ_ _ _ _ _=>⟨λ_=>tg _,λ_=>tg _⟩) (λp _ hpp=>?_),.inl (by rw[yp];exact hp),st,yl,λe=>by omega⟩
   ·rw[ci];exact⟨hst,rfl,by simp [qD]⟩
   ·have mm:=a1u s.r2 s.r4 i p gi hpp
    have e:(qD x (x.c i) k).p p=if p=k then ⟨qX x ((x.c i).p k).key,qX x ((x.c i).p k).val⟩ else (x.c i).p p:=by
     unfold qD Cl.p;simp only [List.getD_eq_getElem?_getD,List.getElem?_set];by_cases e:k=p
     ·subst e;simp [hkl]
     ·simp [e,Ne.symm e]
    rw[ci,e];by_cases q:p=k
    ·rw[if_pos q];subst q;exact⟨⟨(rs _ mm.1).1,λh=>by rw[tg];exact(rs _ mm.1).2 h⟩,⟨(rs _ mm.2).1,λh=>by rw[tg];exact(rs _ mm.2).2 h⟩⟩
    ·rw[if_neg q];exact⟨⟨rfl,λ_=>tg _⟩,⟨rfl,λ_=>tg _⟩⟩
  ·exact⟨a2z (by omega) x.E (x.I+1) 0 x.Q,.inl hp,λ_=>rfl,rfl,λe=>by have e':x.E=6:=e;omega⟩
theorem c7i{u:Wd}(h:eE x u)(hk:u.k=2):tgt x u=u.a.toNat:=by unfold tgt;exact a3f (by have:=(h hk).2;omega)
theorem Snd.o6(s:Snd x)(hp:x.E=6)(i:Nat)(yr:y.B=x.B)(yl:∀q,q<x.A.length->(x.c q).st=1->q<y.A.length)(yc:∀q,q<y.A.length->q≠i->y.c q=x.c q)(yi:i<y.A.length->(x.c i).st=1->y.c i=x.c i)(yn:i<y.A.length->(x.c i).st≠1->(y.c i).st≠1)(yx:y.A.length<=x.A.length):Ovr x y (λi=>i):=by
 obtain⟨nr,np⟩:=s.noword hp
 have cg:∀q,tK x q->y.c q=x.c q:=λq g=>by
  have hq:=yl q g.1 g.2.1;by_cases e:q=i
  ·subst e;exact yi hq g.2.1
  ·exact yc q hq e
 have tg:∀u,eE x u->u.k=2->tgt y u=tgt x u:=λu gu hk=>by
  have h:=gu hk;rw[c7i gu hk];unfold tgt;rw[a3f];rw[cg _ ⟨h.1,h.2,λd=>by have:=d.1;omega⟩];omega
 refine⟨by rw[yr],λk h h'=>?_,λq g=>?_,λq p g hpp=>?_,λq p g hpp=>?_,λj g=>⟨j,?_,rfl⟩⟩
 ·have e:y.B[k]=x.B[k]:=by simp only [yr]
  rw[e];exact⟨rfl,tg _ (nr k h)⟩
 ·rw[cg q g];exact⟨g.2.1,yl q g.1 g.2.1,rfl,rfl⟩
 ·rw[cg q g];exact⟨rfl,tg _ (np q p g.1 hpp).1⟩
 ·rw[cg q g];exact⟨rfl,tg _ (np q p g.1 hpp).2⟩
 ·have h1:=g.2.1;refine⟨Nat.lt_of_lt_of_le g.1 yx,?_,λd=>by have:=d.1;omega⟩;by_cases e:j=i
  ·subst e;by_cases u:(x.c j).st=1
   ·exact u
   ·exact(yn g.1 u h1).elim
  ·rw[<-yc j g.1 e];exact h1
theorem b2n{α:Type}(f:α->List Value)(c:Nat)(hc:∀a,(f a).length=c):∀(l:List α) (i j:Nat) (hi:i<l.length),j<c->(l.flatMap f)[i*c+j]?=(f l[i])[j]?
 | a::l,0,j,_,hj=>by simp only [List.flatMap_cons,Nat.zero_mul,Nat.zero_add,List.getElem_cons_zero];exact List.getElem?_append_left (by rw[hc];exact hj)
 | a::l,i+1,j,hi,hj=>by
  simp only [List.flatMap_cons,List.getElem_cons_succ];rw[List.getElem?_append_right (by rw[hc,Nat.succ_mul];omega),hc,show(i+1)*c+j-c=i*c+j by rw[Nat.succ_mul];omega];exact b2n f c hc l i j (by simpa using hi) hj
theorem b4y{α:Type}{f:α->List Value}(hc:∀a,(f a).length=c){L:List α}(h:w.ownsRow base t c v L.length (L.flatMap f)):∃ad cap,v=.slice ad L.length cap/\(0<L.length->∃g,ad=some ⟨g,0,none⟩)/\∀i (hi:i<L.length),∃g,ad=some ⟨g,0,none⟩/\base<=g/\g<w.heap.size/\∀j,j<c->w.cell? ⟨g,0+i*c+j,none⟩=(f L[i])[j]?:=by
 rcases h.2 with⟨h0,h1⟩ | ⟨g,cap,cur,h0,hb,hg,hr⟩
 ·exact⟨none,0,by rw[h0,h1],λq=>by omega,λi hi=>by omega⟩
 ·subst h0;refine⟨_,cap,rfl,λ_=>⟨g,rfl⟩,λi hi=>⟨g,rfl,(h.lt g rfl).1,(h.lt g rfl).2,λj hj=>?_⟩⟩
  have hlt:i*c+j<L.length*c:=by
   have:(i+1)*c<=L.length*c:=Nat.mul_le_mul_right c (by omega);rw[Nat.succ_mul] at this;omega
  rw[Nat.zero_add,World.ownsRow.cellAt h (i*c+j) hlt];exact b2n f c hc L i j hi hj
theorem a2s{a:World}(ea:Ext a W)(hown:W.ownsRow base t c v n xs)(hb:a.heap.size<=base)(hg:W.grownBy w5 v.ownBlock):Ext a w5:=
 Below.trans ea ⟨hg.os,hg.tape,hg.output,hg.size,λk hk=>hg.block k (Nat.lt_of_lt_of_le hk ea.size) (λe=>by have:=(hown.lt k e.symm).1;omega)⟩
theorem b2o{w3:World}{n':Nat}{ys:List Value}{v' u:Value}{bg:Nat}(hb:bg<base)(ew:Ext w3 W)(hW:W.ownsRow base T c v n xs)(h3:w3.heap.size<=bg)(hlt:bg<W.heap.size)(hg:W.grownBy w5 v.ownBlock)(h5:w5.ownsRow base T c v' n' ys):
  (w5.setCell ⟨bg,o,none⟩ u).ownsRow base T c v' n' ys/\Ext w3 (w5.setCell ⟨bg,o,none⟩ u)/\(∀o',o'≠o->(w5.setCell ⟨bg,o,none⟩ u).cell? ⟨bg,o',none⟩=W.cell? ⟨bg,o',none⟩)/\(∀o',(w5.setCell ⟨bg,o,none⟩ u).frozen? ⟨bg,o',none⟩=W.frozen? ⟨bg,o',none⟩)/\(∀y,W.cell? ⟨bg,o,none⟩=some y->(w5.setCell ⟨bg,o,none⟩ u).cell? ⟨bg,o,none⟩=some u)/\(∀q,q<W.heap.size->q≠bg->v.ownBlock≠some q->(w5.setCell ⟨bg,o,none⟩ u).heap[q]?=W.heap[q]?):=by
 have hblk:w5.heap[bg]?=W.heap[bg]?:=hg.block bg hlt (λe=>by have:=(hW.lt bg e.symm).1;omega);refine⟨uN h5 (λq hq=>Below.heap_setCell _ _ _ _ (λe=>by have:=(h5.lt q hq).1;simp only at e;omega)),(a2s ew hW (by omega) hg).setCell h3 u,λo' ho=>?_,λo'=>?_,λy hy=>?_,λq hq hne hv=>?_⟩
 ·rw[uC _ (.inr (λe=>ho e.symm))];exact World.cell?_of_block (a:=⟨bg,o',none⟩) hblk
 ·rw[World.frozen?_setCell];exact World.frozen?_of_block (a:=⟨bg,o',none⟩) hblk
 ·exact World.cell?_setCell_same _ _ _ ((World.cell?_of_block (a:=⟨bg,o,none⟩) hblk).trans hy)
 ·exact(Below.heap_setCell _ _ _ _ hne).trans (hg.block q hq (λe=>hv e.symm))
theorem a3v{b':Nat}(h:w.ownsRow b T c v n xs)(hb:b'<=b):w.ownsRow b' T c v n xs:=
 ⟨h.1,h.2.imp id (λ⟨g,cap,cur,hv,hg,r⟩=>⟨g,cap,cur,hv,Nat.le_trans hb hg,r⟩)⟩
theorem a4o{α:Type}(f:α->List Value)(c:Nat)(hc:∀a,(f a).length=c)(L:List α):(L.flatMap f).length=L.length*c:=by
 induction L with
 | nil=>simp
 | cons a L ih=>simp [ih,hc,Nat.succ_mul];omega
theorem b8e{α:Type}(f:α->List Value)(h:∀a u,u∈f a->u.oneCell'=true)(L:List α):∀u,u∈L.flatMap f->u.oneCell'=true:=λu hu=>by
 obtain⟨a,_,h2⟩:=List.mem_flatMap.1 hu;exact h a u h2
theorem b8f(b o j:Nat):(⟨b,o,none⟩:Addr).add j=⟨b,o+j,none⟩:=by unfold Addr.add;split <;> simp_all
theorem a7h{α:Type}(f:α->List Value)(c:Nat)(h0:0<c)(hc:∀a,(f a).length=c)(L:List α)(b o:Nat)(h:∀i (hi:i<L.length),∀j,j<c->w.cell? ⟨b,o+i*c+j,none⟩=(f L[i])[j]?):∀j u,(L.flatMap f)[j]?=some u->w.cell? ((⟨b,o,none⟩:Addr).add j)=some u:=λj u hu=>by
 have hj:j<L.length*c:=by
  have:=(List.getElem?_eq_some_iff.1 hu).1
  rwa [a4o f c hc] at this
 have hq:j / c<L.length:=(Nat.div_lt_iff_lt_mul h0).2 hj;have hm:j % c<c:=Nat.mod_lt _ h0;have e:j / c*c+j % c=j:=Nat.div_add_mod' j c;rw[b8f,<-hu];have:=h (j / c) hq (j % c) hm;rw[Nat.add_assoc,e] at this;rw[this,<-b2n f c hc L (j / c) (j % c) hq hm,e]
def fW(y:Wd):List Value:=[iv y.k,iv y.n,iv y.a]
def fP(p:Pr):List Value:=[iv p.key.k,iv p.key.n,iv p.key.a,iv p.val.k,iv p.val.n,iv p.val.a]
def fC(z:Cl×Value):List Value:=[iv z.1.st,iv z.1.kind,iv z.1.T,iv z.1.U,iv z.1.born,iv z.1.J,iv z.1.to,z.2]
def S7(w:World)(b o:Nat)(c:Cl):Prop:=
 w.cell? ⟨b,o,none⟩=some (iv c.st)/\w.cell? ⟨b,o+1,none⟩=some (iv c.kind)/\w.cell? ⟨b,o+2,none⟩=some (iv c.T)/\w.cell? ⟨b,o+3,none⟩=some (iv c.U)/\w.cell? ⟨b,o+4,none⟩=some (iv c.born)/\w.cell? ⟨b,o+5,none⟩=some (iv c.J)/\w.cell? ⟨b,o+6,none⟩=some (iv c.to)
theorem S7.of{c:Cl}(h:S7 w b o c)(e:∀j,j<7->w'.cell? ⟨b,o+j,none⟩=w.cell? ⟨b,o+j,none⟩):S7 w' b o c:=by
 obtain⟨a0,a1,a2,a3,a4,a5,a6⟩:=h;exact⟨(e 0 (by omega)).trans a0,(e 1 (by omega)).trans a1,(e 2 (by omega)).trans a2,(e 3 (by omega)).trans a3,(e 4 (by omega)).trans a4,(e 5 (by omega)).trans a5,(e 6 (by omega)).trans a6⟩
theorem tQ.of(h:tQ w b o p)(e:∀j,j<6->w'.cell? ⟨b,o+j,none⟩=w.cell? ⟨b,o+j,none⟩):tQ w' b o p:=by
 obtain⟨a0,a1,a2,a3,a4,a5⟩:=h;exact⟨(e 0 (by omega)).trans a0,(e 1 (by omega)).trans a1,(e 2 (by omega)).trans a2,(e 3 (by omega)).trans a3,(e 4 (by omega)).trans a4,(e 5 (by omega)).trans a5⟩
theorem yQ.of{y:Wd}(h:yQ w b o y)(e:∀j,j<3->w'.cell? ⟨b,o+j,none⟩=w.cell? ⟨b,o+j,none⟩):yQ w' b o y:=by
 obtain⟨a0,a1,a2⟩:=h;exact⟨(e 0 (by omega)).trans a0,(e 1 (by omega)).trans a1,(e 2 (by omega)).trans a2⟩
structure Nfp(b k:Nat)(w:World):Prop where
 lt:b<w.heap.size
 nf:∀j,w.frozen? ⟨b,j,none⟩=false
 cp:∀j,j<k*6->∃v,w.cell? ⟨b,j,none⟩=some v
theorem Nfp.n1(h:Nfp b k w):Nf1 b w:=⟨h.1,h.2⟩
theorem a0f(h:Nfp b k w)(hb:w'.heap[b]?=w.heap[b]?)(hs:w.heap.size<=w'.heap.size):Nfp b k w':=
 ⟨Nat.lt_of_lt_of_le h.1 hs,λj=>(World.frozen?_of_block (a:=⟨b,j,none⟩) hb).trans (h.2 j),λj hj=>let ⟨v,hv⟩:=h.3 j hj;⟨v,(World.cell?_of_block (a:=⟨b,j,none⟩) hb).trans hv⟩⟩
theorem Nfp.ext(h:Nfp b k w)(e:Ext w w'):Nfp b k w':=a0f h (e.block b h.1) e.size
theorem Nfp.set(h:Nfp b k w)(p:Addr)(u:Value):Nfp b k (w.setCell p u):=⟨(h.n1.set p u).1,(h.n1.set p u).2,λj hj=>let ⟨_,hv⟩:=h.3 j hj;cell?_setCell_some hv⟩
theorem Nfp.put{b k g:Nat}:∀{vs:List Value} {w:World} {o:Nat},Nfp b k w->Nfp b k (w.setCells g o vs)
 | [],_,_,h=>h
 | _::r,_,_,h=>Nfp.put (vs:=r) (h.set _ _)
theorem b8g(h:Nfp b c w)(n:Nf1 b w')(hp:tQ w' b (k*6) p)(ho:∀j,(j<k*6\/k*6+6<=j)->w'.cell? ⟨b,j,none⟩=w.cell? ⟨b,j,none⟩):Nfp b c w':=
 ⟨n.1,n.2,λj hj=>by
  by_cases e:j<k*6\/k*6+6<=j
  ·rw[ho j e];exact h.3 j hj
  ·obtain⟨h0,h1,h2,h3,h4,h5⟩:=hp;have:j=k*6\/j=k*6+1\/j=k*6+2\/j=k*6+3\/j=k*6+4\/j=k*6+5:=by omega
   rcases this with rfl | rfl | rfl | rfl | rfl | rfl
   ·exact⟨_,h0⟩
   ·exact⟨_,h1⟩
   ·exact⟨_,h2⟩
   ·exact⟨_,h3⟩
   ·exact⟨_,h4⟩
   ·exact⟨_,h5⟩⟩
structure Rws(B:Nat)(w:World)(x:Hp)(br bc:Nat)(pb:Nat->Nat)(pa:Nat->Option Addr)(pk:Nat->Nat):Prop where
 r:∀i (hi:i<x.B.length),yQ w br (i*3) x.B[i]
 s:∀q,q<x.A.length->S7 w bc (q*8) (x.c q)
 p7:∀q,q<x.A.length->w.cell? ⟨bc,q*8+7,none⟩=some (.slice (pa q) (x.c q).F.length (pk q))
 p:∀q,q<x.A.length->∀k,k<(x.c q).F.length->tQ w (pb q) (k*6) ((x.c q).p k)
 pl:∀q,q<x.A.length->0<pk q->pa q=some ⟨pb q,0,none⟩/\Nfp (pb q) (pk q) w/\(pb q≠br/\pb q≠bc)/\B<=pb q
 nr:0<x.B.length->Nf1 br w/\B<=br
 nc:0<x.A.length->Nf1 bc w/\B<=bc
 d:0<x.A.length->br≠bc
 dp:∀q q',q<x.A.length->q'<x.A.length->q≠q'->0<pk q->0<pk q'->pb q≠pb q'
 kp:∀q,q<x.A.length->(x.c q).F.length<=pk q
theorem Rws.pw(h:Rws B w x br bc pb pa pk){q:Nat}(hq:q<x.A.length)(hl:0<(x.c q).F.length):0<pk q:=Nat.lt_of_lt_of_le hl (h.kp q hq)
theorem uV(h:Nf1 b w)(hb:w'.heap[b]?=w.heap[b]?)(hs:w.heap.size<=w'.heap.size):Nf1 b w':=
 ⟨Nat.lt_of_lt_of_le h.1 hs,λj=>(World.frozen?_of_block (a:=⟨b,j,none⟩) hb).trans (h.2 j)⟩
theorem Rws.same(h:Rws B w x br bc pb pa pk)(hs:w.heap.size<=w'.heap.size)
  (hr:0<x.B.length->w'.heap[br]?=w.heap[br]?) (hc:0<x.A.length->w'.heap[bc]?=w.heap[bc]?) (hp:∀q,q<x.A.length->0<pk q->w'.heap[pb q]?=w.heap[pb q]?):Rws B w' x br bc pb pa pk where
 r:=λi hi=>(h.r i hi).of λj _=>World.cell?_of_block (a:=⟨br,_,none⟩) (hr (by omega))
 s:=λq hq=>(h.s q hq).of λj _=>World.cell?_of_block (a:=⟨bc,_,none⟩) (hc (by omega))
 p7:=λq hq=>(World.cell?_of_block (a:=⟨bc,_,none⟩) (hc (by omega))).trans (h.p7 q hq)
 p:=λq hq k hk=>(h.p q hq k hk).of λj _=>World.cell?_of_block (a:=⟨pb q,_,none⟩) (hp q hq (h.pw hq (by omega)))
 pl:=λq hq hl=>let ⟨a,b,c⟩:=h.pl q hq hl;⟨a,a0f b (hp q hq hl) hs,c⟩
 nr:=λhl=>⟨uV (h.nr hl).1 (hr hl) hs,(h.nr hl).2⟩
 nc:=λhl=>⟨uV (h.nc hl).1 (hc hl) hs,(h.nc hl).2⟩
 d:=h.d
 dp:=h.dp
 kp:=h.kp
theorem Rws.ext(h:Rws B w x br bc pb pa pk)(e:Ext w w'):Rws B w' x br bc pb pa pk:=
 h.same e.size (λhl=>e.block _ (h.nr hl).1.1) (λhl=>e.block _ (h.nc hl).1.1) (λq hq hl=>e.block _ (h.pl q hq hl).2.1.1)
theorem Rws.only(h:Rws B w x br bc pb pa pk)(e:uZ S w w')(hr:0<x.B.length->¬S br)(hc:0<x.A.length->¬S bc)(hp:∀q,q<x.A.length->0<pk q->¬S (pb q)):Rws B w' x br bc pb pa pk:=
 h.same e.size (λhl=>e.block _ (h.nr hl).1.1 (hr hl)) (λhl=>e.block _ (h.nc hl).1.1 (hc hl)) (λq hq hl=>e.block _ (h.pl q hq hl).2.1.1 (hp q hq hl))
theorem Rws.less{C:Nat}(h:Rws B w x br bc pb pa pk)(hc:C<=B):Rws C w x br bc pb pa pk:=
 ⟨h.r,h.s,h.p7,h.p,λq hq hl=>let ⟨a,b,c,d⟩:=h.pl q hq hl;⟨a,b,c,Nat.le_trans hc d⟩,λhl=>⟨(h.nr hl).1,Nat.le_trans hc (h.nr hl).2⟩,λhl=>⟨(h.nc hl).1,Nat.le_trans hc (h.nc hl).2⟩,h.d,h.dp,h.kp⟩
theorem Rws.slW(h:Rws B w x br bc pb pa pk)(kr:Nat)(ha:0<x.B.length->ad=some ⟨br,0,none⟩)(hl:x.B.length<=1048576):SlW w (.slice ad x.B.length kr) x.B:=
 ⟨_,_,rfl,by omega,λi hi=>⟨br,0,ha (by omega),by rw[Nat.zero_add];exact h.r i hi⟩⟩
theorem Rws.slC(h:Rws B w x br bc pb pa pk)(kc:Nat)(ha:0<x.A.length->ad=some ⟨bc,0,none⟩)(hl:x.A.length<=1048576)(h2:∀q,q<x.A.length->(x.c q).F.length<=200):SlC w (.slice ad x.A.length kc) x.A:=by
 refine⟨_,_,rfl,by omega,λi hi=>⟨bc,0,ha (by omega),?_⟩⟩;rw[Nat.zero_add,Hp.c_eq x i hi];obtain⟨a0,a1,a2,a3,a4,a5,a6⟩:=h.s i hi;refine⟨_,a0,a1,a2,a3,a4,a5,a6,h.p7 i hi,_,_,rfl,by have:=h2 i hi;omega,λk hk=>⟨pb i,0,(h.pl i hi (h.pw hi (by omega))).1,?_⟩⟩;rw[Nat.zero_add,Cl.p_eq _ _ hk];exact h.p i hi k hk
def dE(w:World)(B:Nat)(x:Hp)(vr vc vg:Value):Prop:=
 w.cell? ⟨B,0,none⟩=some (iv x.M)/\w.cell? ⟨B,1,none⟩=some (iv x.K)/\w.cell? ⟨B,2,none⟩=some (iv x.born)/\w.cell? ⟨B,3,none⟩=some vr/\w.cell? ⟨B,4,none⟩=some vc/\w.cell? ⟨B,5,none⟩=some (iv x.E)/\w.cell? ⟨B,6,none⟩=some (iv x.I)/\w.cell? ⟨B,7,none⟩=some (iv x.sub)/\w.cell? ⟨B,8,none⟩=some vg/\w.cell? ⟨B,9,none⟩=some (iv x.per)/\w.cell? ⟨B,10,none⟩=some (iv x.V)/\w.cell? ⟨B,11,none⟩=some (iv x.Q)/\w.cell? ⟨B,12,none⟩=some (iv x.S)
theorem dE.ext(h:dE w B x vr vc vg)(e:Ext w w'):dE w' B x vr vc vg:=by
 obtain⟨h0,h1,h2,h3,h4,h5,h6,h7,h8,h9,h10,h11,h12⟩:=h;exact⟨e.keep h0,e.keep h1,e.keep h2,e.keep h3,e.keep h4,e.keep h5,e.keep h6,e.keep h7,e.keep h8,e.keep h9,e.keep h10,e.keep h11,e.keep h12⟩
theorem dE.new(w:World)(x:Hp)(vr vc vg:Value)(t:TypeId):dE (w.alloc (.cells #[iv x.M,iv x.K,iv x.born,vr,vc,iv x.E,iv x.I,iv x.sub,vg,iv x.per,iv x.V,iv x.Q,iv x.S] t)) w.heap.size x vr vc vg:=by
 refine⟨?_,?_,?_,?_,?_,?_,?_,?_,?_,?_,?_,?_,?_⟩ <;> simp [go_sem]
theorem dE.of{B':Nat}(h:dE w B x vr vc vg)(e:∀o,o<13->w'.cell? ⟨B',o,none⟩=w.cell? ⟨B,o,none⟩):dE w' B' x vr vc vg:=by
 obtain⟨h0,h1,h2,h3,h4,h5,h6,h7,h8,h9,h10,h11,h12⟩:=h;exact⟨(e 0 (by omega)).trans h0,(e 1 (by omega)).trans h1,(e 2 (by omega)).trans h2,(e 3 (by omega)).trans h3,(e 4 (by omega)).trans h4,(e 5 (by omega)).trans h5,(e 6 (by omega)).trans h6,(e 7 (by omega)).trans h7,(e 8 (by omega)).trans h8,(e 9 (by omega)).trans h9,(e 10 (by omega)).trans h10,(e 11 (by omega)).trans h11,(e 12 (by omega)).trans h12⟩
theorem dE.only(h:dE w B x vr vc vg)(e:uZ S w w')(hs:¬S B):dE w' B x vr vc vg:=
 h.of λo _=>e.A B (uL h.1) hs o
theorem dE.block(h:dE w B x vr vc vg)(e:w'.heap[B]?=w.heap[B]?):dE w' B x vr vc vg:=
 h.of λo _=>World.cell?_of_block (a:=⟨B,o,none⟩) e
theorem dE.far(h:dE w B x vr vc vg)(b o:Nat)(u:Value)(hb:b≠B\/13<=o):dE (w.setCell ⟨b,o,none⟩ u) B x vr vc vg:=
 h.of λo' ho=>uC _ (by omega)
theorem dE.set3(h:dE w B x vr vc vg)(u:Value):dE (w.setCell ⟨B,3,none⟩ u) B x u vc vg:=by
 obtain⟨h0,h1,h2,h3,h4,h5,h6,h7,h8,h9,h10,h11,h12⟩:=h;refine⟨?_,?_,?_,?_,?_,?_,?_,?_,?_,?_,?_,?_,?_⟩ <;> first | exact(uC _ (by omega)).trans (by assumption) | exact World.cell?_setCell_same _ _ _ (by assumption)
theorem dE.set4(h:dE w B x vr vc vg)(u:Value):dE (w.setCell ⟨B,4,none⟩ u) B x vr u vg:=by
 obtain⟨h0,h1,h2,h3,h4,h5,h6,h7,h8,h9,h10,h11,h12⟩:=h;refine⟨?_,?_,?_,?_,?_,?_,?_,?_,?_,?_,?_,?_,?_⟩ <;> first | exact(uC _ (by omega)).trans (by assumption) | exact World.cell?_setCell_same _ _ _ (by assumption)
theorem dE.set8(h:dE w B x vr vc vg)(u:Value):dE (w.setCell ⟨B,8,none⟩ u) B x vr vc u:=by
 obtain⟨h0,h1,h2,h3,h4,h5,h6,h7,h8,h9,h10,h11,h12⟩:=h;refine⟨?_,?_,?_,?_,?_,?_,?_,?_,?_,?_,?_,?_,?_⟩ <;> first | exact(uC _ (by omega)).trans (by assumption) | exact World.cell?_setCell_same _ _ _ (by assumption)
theorem dE.set1(h:dE w B x vr vc vg)(u:Int):dE (w.setCell ⟨B,1,none⟩ (iv u)) B { x with K:=u } vr vc vg:=by
 obtain⟨h0,h1,h2,h3,h4,h5,h6,h7,h8,h9,h10,h11,h12⟩:=h;refine⟨?_,?_,?_,?_,?_,?_,?_,?_,?_,?_,?_,?_,?_⟩ <;> first | exact(uC _ (by omega)).trans (by assumption) | exact World.cell?_setCell_same _ _ _ (by assumption)
theorem dE.set2(h:dE w B x vr vc vg)(u:Int):dE (w.setCell ⟨B,2,none⟩ (iv u)) B { x with born:=u } vr vc vg:=by
 obtain⟨h0,h1,h2,h3,h4,h5,h6,h7,h8,h9,h10,h11,h12⟩:=h;refine⟨?_,?_,?_,?_,?_,?_,?_,?_,?_,?_,?_,?_,?_⟩ <;> first | exact(uC _ (by omega)).trans (by assumption) | exact World.cell?_setCell_same _ _ _ (by assumption)
theorem dE.set5(h:dE w B x vr vc vg)(u:Int):dE (w.setCell ⟨B,5,none⟩ (iv u)) B { x with E:=u } vr vc vg:=by
 obtain⟨h0,h1,h2,h3,h4,h5,h6,h7,h8,h9,h10,h11,h12⟩:=h;refine⟨?_,?_,?_,?_,?_,?_,?_,?_,?_,?_,?_,?_,?_⟩ <;> first | exact(uC _ (by omega)).trans (by assumption) | exact World.cell?_setCell_same _ _ _ (by assumption)
theorem dE.set6(h:dE w B x vr vc vg)(u:Int):dE (w.setCell ⟨B,6,none⟩ (iv u)) B { x with I:=u } vr vc vg:=by
 obtain⟨h0,h1,h2,h3,h4,h5,h6,h7,h8,h9,h10,h11,h12⟩:=h;refine⟨?_,?_,?_,?_,?_,?_,?_,?_,?_,?_,?_,?_,?_⟩ <;> first | exact(uC _ (by omega)).trans (by assumption) | exact World.cell?_setCell_same _ _ _ (by assumption)
theorem dE.set7(h:dE w B x vr vc vg)(u:Int):dE (w.setCell ⟨B,7,none⟩ (iv u)) B { x with sub:=u } vr vc vg:=by
 obtain⟨h0,h1,h2,h3,h4,h5,h6,h7,h8,h9,h10,h11,h12⟩:=h;refine⟨?_,?_,?_,?_,?_,?_,?_,?_,?_,?_,?_,?_,?_⟩ <;> first | exact(uC _ (by omega)).trans (by assumption) | exact World.cell?_setCell_same _ _ _ (by assumption)
theorem dE.set11(h:dE w B x vr vc vg)(u:Int):dE (w.setCell ⟨B,11,none⟩ (iv u)) B { x with Q:=u } vr vc vg:=by
 obtain⟨h0,h1,h2,h3,h4,h5,h6,h7,h8,h9,h10,h11,h12⟩:=h;refine⟨?_,?_,?_,?_,?_,?_,?_,?_,?_,?_,?_,?_,?_⟩ <;> first | exact(uC _ (by omega)).trans (by assumption) | exact World.cell?_setCell_same _ _ _ (by assumption)
theorem dE.set12(h:dE w B x vr vc vg)(u:Int):dE (w.setCell ⟨B,12,none⟩ (iv u)) B { x with S:=u } vr vc vg:=by
 obtain⟨h0,h1,h2,h3,h4,h5,h6,h7,h8,h9,h10,h11,h12⟩:=h;refine⟨?_,?_,?_,?_,?_,?_,?_,?_,?_,?_,?_,?_,?_⟩ <;> first | exact(uC _ (by omega)).trans (by assumption) | exact World.cell?_setCell_same _ _ _ (by assumption)
end Go.Proofs.YtddkhnclmeikfaaGreat
