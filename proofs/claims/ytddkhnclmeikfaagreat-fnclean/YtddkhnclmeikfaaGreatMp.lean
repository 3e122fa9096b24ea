import Derived.Test.YtddkhnclmeikfaaGreatEr
import Derived.Test.YtddkhnclmeikfaaGreatEh
import Derived.Test.YtddkhnclmeikfaaGreatEh6
import Derived.Test.YtddkhnclmeikfaaGreatEi
import Derived.Test.YtddkhnclmeikfaaGreatEi8
import Derived.LaidEql
import Derived.MapKept
set_option maxRecDepth 100000
set_option maxHeartbeats 1000000
namespace Go.Proofs.YtddkhnclmeikfaaGreat
open Go.RowKit
attribute [local go_sem ↓] Go.wp_at_zero Go.wp_at_succ
variable{P:Program}{w w':World}{r bn k:Nat}{Q:List Nat}{n:Int}{mt t e et:TypeId}
theorem cJ{op a b c:Int}(h:qY op a b c n=true):(1<=op/\op<=24)/\(0<=a/\a<=tC op)/\(0<=b/\b<=tZ op)/\(0<=c/\c<=tX op):=by
 unfold qY at h;simp only [Bool.and_eq_true,decide_eq_true_eq] at h;exact⟨h.1.1,h.2.1,h.2.2.1,h.2.2.2⟩
abbrev b7c[Inhabited uQ](B g:Nat)(x:Hp)(op a b c n:Int)(v:World)(e:Ending)(w':World):Prop:=∃(y:Hp) (cd nm:Int),Hid (e=.returned (qU cd nm))/\Hid (DoIs x op a b c n y cd nm)/\Hid (GOk B w' g y)/\Ext v w'
theorem l5do_no[p:Inhabited uQ](B g:Nat)(x:Hp)(op a b c n:Int)(w:World)(h:GOk B w g x)(ok:qY op a b c n=false)(v:World)(hx:Ext v w):
  Calls Tryz.prog 234 #[.pointer (some ⟨g,0,none⟩),yL op a b c n] w λe w'=>b7c B g x op a b c n v e w':=by
 obtain⟨p1,o1,g1⟩:=GOk.enter h (w0:=doW w op a b c n) (((Ext.refl w).alloc _).alloc _);have HG:=uU g1;have O1:=uU o1;have OK:=uU ok;have QA:=uU (λW=>a1g op a b c n W);rw[ok] at QA;have V0:=uU (show v.heap.size<=w.heap.size+1 by have:=hx.size;omega);have XD:=uU (show Ext v (doW w op a b c n) from(hx.alloc _).alloc _);clear h o1 g1 ok;go_enter Tryz.func234,Tryz.ntmps234;go_wp2_with fail;refine(QA _).mono ?_;rintro e w1 ⟨rfl,x1⟩;have X1:=uU (XD.trans x1);have G1:=uU (HG.ext x1);clear x1 QA XD HG;go_wp2_with fail;refine(a0i 1 _).mono ?_;rintro e w3 ⟨rfl,x3⟩;have G3:=uU (G1.ext x3);have X3:=uU (X1.trans x3);obtain⟨u0,u1,u2,u3,u4,u5,u6,u7⟩:=G3.boxes O1;have hw3:w.heap.size+1<w3.heap.size:=uL u5;clear x3;go_wp2_with fail;refine bodyPost_ret (v:=qU 1 0) (by simp [results,Tryz.results234,go_sem,u5,u6]) rfl ?_;exact⟨x,1,0,rfl,.inl ⟨OK,rfl,rfl,rfl⟩,GOk.done O1 G3 1 0,dZ X3 V0 1 0⟩
theorem zQ.is[Inhabited uQ]{B g:Nat}{x:Hp}{a b c:Nat}{v:World}{e:Ending}(h:zQ B g x a b c n k v e w')(ok:qY (k:Int) a b c n=true):b7c B g x (k:Int) a b c n v e w':=by
 obtain⟨y,cd,nm,h1,h2,h3,h4⟩:=h;exact⟨y,cd,nm,h1,.inr ⟨ok,by simpa using uH h2⟩,h3,h4⟩
theorem l5do_ok[p:Inhabited uQ](B g:Nat)(x:Hp)(a b c:Nat)(n:Int)(w:World)(h:GOk B w g x)(s:Snd x)(v:World)(hv:v.heap.size<=B)(hx:Ext v w):
  ∀k:Nat,1<=k->k<=24->qY (k:Int) a b c n=true->Calls Tryz.prog 234 #[.pointer (some ⟨g,0,none⟩),yL (k:Int) a b c n] w λe w'=>zQ B g x a b c n k v e w'
 | 0,h1,_,_=>absurd h1 (by omega)
 | 1,_,_,ok=>by have h9:=cJ ok;simp [tC,zX,tZ,tX] at h9;exact l5do_1 B g x a b c n w h s ok (by omega) (by omega) (by omega) v hv hx
 | 2,_,_,ok=>by have h9:=cJ ok;simp [tC,zX,tZ,zE,tX] at h9;exact a4y B g x 2 2 a b c n w (by simp) h s ok v hv hx (by omega) (by omega)
 | 3,_,_,ok=>by have h9:=cJ ok;simp [tC,zX,tZ,zE,tX] at h9;exact a4y B g x 3 3 a b c n w (by simp) h s ok v hv hx (by omega) (by omega)
 | 4,_,_,ok=>by have h9:=cJ ok;simp [tC,zX,tZ,zE,tX] at h9;exact a4y B g x 4 4 a b c n w (by simp) h s ok v hv hx (by omega) (by omega)
 | 5,_,_,ok=>by have h9:=cJ ok;simp [tC,zX,tZ,zE,tX] at h9;exact a1t B g x 5 5 a b c n w (by simp) h ok v hx (λ_ w1 G X=>c8j B g x a b c n w1 G s (by omega) (by omega) v hv X)
 | 6,_,_,ok=>by have h9:=cJ ok;simp [tC,zX,tZ,zE,tX] at h9;exact a1t B g x 6 6 a b c n w (by simp) h ok v hx (λ_ w1 G X=>c8k B g x a b c n w1 G s (by omega) (by omega) v hv X)
 | 7,_,_,ok=>by have h9:=cJ ok;simp [tC,zX,tZ,zE,tX] at h9;exact a1t B g x 7 7 a b c n w (by simp) h ok v hx (λ_ w1 G X=>c8m B g x a b c n w1 G s (by omega) (by omega) v hv X)
 | 8,_,_,ok=>by have h9:=cJ ok;simp [tC,zX,tZ,zE,tX] at h9;exact a1t B g x 8 8 a b c n w (by simp) h ok v hx (λ_ w1 G X=>c8n B g x a b c n w1 G s (by omega) (by omega) v hv X)
 | 9,_,_,ok=>by have h9:=cJ ok;simp [tC,zX,tZ,zE,tX] at h9;exact l5do_9 B g x a b c n w h s ok (by omega) (by omega) v hv hx
 | 10,_,_,ok=>by have h9:=cJ ok;simp [tC,zX,tZ,zE,tX] at h9;exact a1t B g x 10 10 a b c n w (by simp) h ok v hx (λ_ w1 G X=>a5a B g x 10 10 a b c n w1 G s (by omega) v X (λhk=>.inl ⟨hk,rfl,rfl,rfl⟩) (λhk=>a4z B g x 10 10 a b c n w1 (by simp) G s (by omega) hk v hv X))
 | 11,_,_,ok=>by have h9:=cJ ok;simp [tC,zX,tZ,zE,tX] at h9;exact a1t B g x 11 11 a b c n w (by simp) h ok v hx (λ_ w1 G X=>a5a B g x 11 11 a b c n w1 G s (by omega) v X (λhk=>.inl ⟨hk,rfl,rfl,rfl⟩) (λhk=>a4z B g x 11 11 a b c n w1 (by simp) G s (by omega) hk v hv X))
 | 12,_,_,ok=>by have h9:=cJ ok;simp [tC,zX,tZ,zE,tX] at h9;exact a1t B g x 12 12 a b c n w (by simp) h ok v hx (λ_ w1 G X=>a5a B g x 12 12 a b c n w1 G s (by omega) v X (λhk=>.inl ⟨hk,rfl,rfl,rfl⟩) (λhk=>a4z B g x 12 12 a b c n w1 (by simp) G s (by omega) hk v hv X))
 | 13,_,_,ok=>by have h9:=cJ ok;simp [tC,zX,tZ,zE,tX] at h9;exact a4y B g x 13 13 a b c n w (by simp) h s ok v hv hx (by omega) (by omega)
 | 14,_,_,ok=>by have h9:=cJ ok;simp [tC,zX,tZ,zE,tX] at h9;exact a4y B g x 14 14 a b c n w (by simp) h s ok v hv hx (by omega) (by omega)
 | 15,_,_,ok=>by have h9:=cJ ok;simp [tC,zX,tZ,zE,tX] at h9;exact a4y B g x 15 15 a b c n w (by simp) h s ok v hv hx (by omega) (by omega)
 | 16,_,_,ok=>by have h9:=cJ ok;simp [tC,zX,tZ,zE,tX] at h9;exact a1t B g x 16 16 a b c n w (by simp) h ok v hx (λ_ w1 G X=>a5a B g x 16 16 a b c n w1 G s (by omega) v X (λhk=>.inl ⟨hk,rfl,rfl,rfl⟩) (λhk=>a4z B g x 16 16 a b c n w1 (by simp) G s (by omega) hk v hv X))
 | 17,_,_,ok=>by have h9:=cJ ok;simp [tC,zX,tZ,zE,tX] at h9;exact a1t B g x 17 17 a b c n w (by simp) h ok v hx (λ_ w1 G X=>a5a B g x 17 17 a b c n w1 G s (by omega) v X (λhk=>.inl ⟨hk,rfl,rfl,rfl⟩) (λhk=>a4z B g x 17 17 a b c n w1 (by simp) G s (by omega) hk v hv X))
 | 18,_,_,ok=>by have h9:=cJ ok;simp [tC,zX,tZ,zE,tX] at h9;exact a5n B g x 18 18 a b c n w (by simp) h s ok v hv hx (by omega) (by omega)
 | 19,_,_,ok=>by have h9:=cJ ok;simp [tC,zX,tZ,zE,tX] at h9;exact a5n B g x 19 19 a b c n w (by simp) h s ok v hv hx (by omega) (by omega)
 | 20,_,_,ok=>by have h9:=cJ ok;simp [tC,zX,tZ,zE,tX] at h9;exact a5n B g x 20 20 a b c n w (by simp) h s ok v hv hx (by omega) (by omega)
 | 21,_,_,ok=>by have h9:=cJ ok;simp [tC,zX,tZ,zE,tX] at h9;exact a5n B g x 21 21 a b c n w (by simp) h s ok v hv hx (by omega) (by omega)
 | 22,_,_,ok=>by have h9:=cJ ok;simp [tC,zX,tZ,zE,tX] at h9;exact a5n B g x 22 22 a b c n w (by simp) h s ok v hv hx (by omega) (by omega)
 | 23,_,_,ok=>by have h9:=cJ ok;simp [tC,zX,tZ,zE,tX] at h9;exact a5n B g x 23 23 a b c n w (by simp) h s ok v hv hx (by omega) (by omega)
 | 24,_,_,ok=>by have h9:=cJ ok;simp [tC,zX,tZ,zE,tX] at h9;exact a5n B g x 24 24 a b c n w (by simp) h s ok v hv hx (by omega) (by omega)
 | k+25,_,h2,_=>absurd h2 (by omega)
theorem d0g[p:Inhabited uQ](B g:Nat)(x:Hp)(op a b c n:Int)(w:World)(h:GOk B w g x)(s:Snd x)(v:World)(hv:v.heap.size<=B)(hx:Ext v w):
  Calls Tryz.prog 234 #[.pointer (some ⟨g,0,none⟩),yL op a b c n] w λe w'=>b7c B g x op a b c n v e w':=by
 cases ok:qY op a b c n
 ·exact l5do_no B g x op a b c n w h ok v hx
 ·have hb:=cJ ok;obtain⟨k,rfl⟩:∃k:Nat,op=k:=⟨op.toNat,by omega⟩;obtain⟨a,rfl⟩:∃k:Nat,a=k:=⟨a.toNat,by omega⟩;obtain⟨b,rfl⟩:∃k:Nat,b=k:=⟨b.toNat,by omega⟩;obtain⟨c,rfl⟩:∃k:Nat,c=k:=⟨c.toNat,by omega⟩;exact(l5do_ok B g x a b c n w h s v hv hx k (by omega) (by omega) ok).mono λ_ _ hh=>hh.is ok
theorem c6u{wr:World}{xs:List Int}(hlt:k<xs.length)(hm:∀j (hj:j<xs.length),j<k->yD wr w.heap.size (0+j*1) xs[j])(ho:∀j,j<xs.length*1->yN wr w.heap.size j)(hbl:Ext w wr)(hnf:Nf1 w.heap.size wr):
  let W:=wr.setCell ⟨w.heap.size,k,none⟩ (iv xs[k])
  (∀j (hj:j<xs.length),j<k+1->yD W w.heap.size (0+j*1) xs[j])/\(∀j,j<xs.length*1->yN W w.heap.size j)/\Ext w W/\Nf1 w.heap.size W:=by
 intro W;refine⟨λj hj hjk=>?_,λj hj=>(ho j hj).set _ _,hbl.setCell (Nat.le_refl _) _,hnf.set _ _⟩;by_cases e:j=k
 ·subst e;show W.cell? _=_;have:=(ho j (by omega)).same (iv xs[j])
  simpa using this
 ·show W.cell? _=_;rw[uC _ (Or.inr (by omega))];exact hm j hj (by omega)
abbrev ptr(bn p:Nat):Value:=.pointer (some ⟨bn,p,none⟩)
theorem a8t(w:World)(bn p q:Nat):(sameAddr ⟨bn,p,none⟩ ⟨bn,q,none⟩).run P w=.ok (p == q) w:=by
 have:((⟨bn,p,none⟩:Addr) == ⟨bn,q,none⟩)=(p == q):=by
  rw[Bool.eq_iff_iff];simp
 simp [sameAddr,this]
theorem b1s(w:World)(d:Nat)(t e:TypeId)(i:TypeInfo)(ht:P.underlying t=some (.pointer e))(hi:P.info? e=some i)(hs:i.size≠0)(bn p q:Nat):
  (Op.equalIn (d+1) t (ptr bn p) (ptr bn q)).run P w=.ok (p == q) w:=by
 simp [Op.equalIn,run_underlying ht,sizeOf,typeInfo,hi,hs,a8t]
theorem a8a(w:World)(t e:TypeId)(i:TypeInfo)(ht:P.underlying t=some (.pointer e))(hi:P.info? e=some i)(hs:i.size≠0)(bn p q:Nat):
  (Op.equal t (ptr bn p) (ptr bn q)).run P w=.ok (p == q) w:=b1s w 9999 t e i ht hi hs bn p q
def b1w(bn:Nat)(Q:List Nat)(l:List MapEntry):Prop:=l.map (·.key)=Q.map (ptr bn)/\∀e,e∈l->e.val=.agg #[]
theorem c0d{P:Program}(w:World)(t e:TypeId)(i:TypeInfo)(ht:P.underlying t=some (.pointer e))(hi:P.info? e=some i)(hs:i.size≠0)(bn p:Nat):
  ∀(l:List MapEntry) (Q:List Nat) (k:Nat),b1w bn Q l->∃r,(Instr.findAsking t (ptr bn p) l k).run P w=.ok r w/\((p∈Q/\∃j,r=some (j,.agg #[]))\/(¬p∈Q/\r=none))
 | [],Q,k,h=>by
  have:Q=[]:=by simpa using h.1.symm
  subst this;exact⟨none,by simp [Instr.findAsking],.inr ⟨by simp,rfl⟩⟩
 | x::l,Q,k,h=>by
  cases Q with
  | nil=>have:=h.1;simp at this
  | cons q Q=>
   have h1:=h.1;simp only [List.map_cons,List.cons.injEq] at h1;have hv:=h.2 x List.mem_cons_self;by_cases e:p=q
   ·subst e;refine⟨some (k,.agg #[]),?_,.inl ⟨List.mem_cons_self,k,rfl⟩⟩;simp [Instr.findAsking,h1.1,a8a w t _ i ht hi hs,hv]
   ·obtain⟨r,hr,ho⟩:=c0d w t _ i ht hi hs bn p l Q (k+1) ⟨h1.2,λy hy=>h.2 y (List.mem_cons_of_mem _ hy)⟩;refine⟨r,?_,?_⟩
    ·simp [Instr.findAsking,h1.1,a8a w t _ i ht hi hs,e,hr]
    ·rcases ho with⟨m,j⟩ | ⟨m,j⟩
     ·exact .inl ⟨List.mem_cons_of_mem _ m,j⟩
     ·exact .inr ⟨by simp [e,m],j⟩
theorem b1i(e:TypeId)(k:Value)(l:List MapEntry):Instr.findNow (.pointer e) k l 0=(if l=[] then some none else none):=by
 cases l with
 | nil=>rfl
 | cons x l=>simp [Instr.findNow,Instr.sameNow]
theorem b1j(w:World)(t e:TypeId)(i:TypeInfo)(ht:P.underlying t=some (.pointer e))(hi:P.info? e=some i)(hs:i.size≠0)(bn p:Nat)(l:List MapEntry)(Q:List Nat)(h:b1w bn Q l):
  ∃r,(Instr.findKey t (ptr bn p) l).run P w=.ok r w/\((p∈Q/\∃j,r=some (j,.agg #[]))\/(¬p∈Q/\r=none)):=by
 obtain⟨r,hr,ho⟩:=c0d w t e i ht hi hs bn p l Q 0 h;by_cases hl:l=[]
 ·subst hl;have:Q=[]:=by simpa using h.1.symm
  subst this;exact⟨none,by simp [Instr.findKey,run_underlying ht,b1i],.inr ⟨by simp,rfl⟩⟩
 ·refine⟨r,?_,ho⟩;simp [Instr.findKey,run_underlying ht,b1i,hl,hr]
theorem b4q(w:World)(d:Nat)(t e:TypeId)(ht:P.underlying t=some (.pointer e))(em:Bool)(v:Option Addr):(Instr.checkKey em (d+1) t (.pointer v)).run P w=.ok () w:=by
 simp [Instr.checkKey,run_underlying ht]
theorem a5q(w:World)(t e:TypeId)(ht:P.underlying t=some (.pointer e))(em:Bool)(v:Option Addr):(Instr.checkKey em 10000 t (.pointer v)).run P w=.ok () w:=b4q w 9999 t e ht em v
structure a4a(w:World)(r bn:Nat)(Q:List Nat):Prop where
 mk' ::
 m:∃es clock,w.heap[r]?=some (.map es clock)/\b1w bn Q es.toList
theorem a4a.block(h:a4a w r bn Q)(e:w'.heap[r]?=w.heap[r]?):a4a w' r bn Q:=by
 obtain⟨es,c,h1,h2⟩:=h.m;exact⟨es,c,e.trans h1,h2⟩
theorem a4a.lookup(h:a4a w r bn Q){i:TypeInfo}(hm:P.underlying mt=some (.map t et))(ht:P.underlying t=some (.pointer e))(hi:P.info? e=some i)(hs:i.size≠0)(hz:∀w,(zeroValue et).run P w=.ok (.agg #[]) w)(p:Nat):
  (Instr.lookup mt (.map (some r)) (ptr bn p) true).run P w=.ok (.tuple #[.agg #[],.bool (decide (p∈Q))]) w:=by
 obtain⟨es,c,h1,h2⟩:=h.m;obtain⟨f,hf,ho⟩:=b1j w t e i ht hi hs bn p es.toList Q h2;rcases ho with⟨m,j,rfl⟩ | ⟨m,rfl⟩
 ·simp [Instr.lookup,run_underlying hm,MapKept.run_getObj_map h1,a5q w t e ht,hf,m]
 ·simp [Instr.lookup,run_underlying hm,MapKept.run_getObj_map h1,a5q w t e ht,hf,m,hz]
theorem a4a.update(h:a4a w r bn Q){i:TypeInfo}(hm:P.underlying mt=some (.map t et))(ht:P.underlying t=some (.pointer e))(hi:P.info? e=some i)(hs:i.size≠0)(p:Nat)(hp:¬p∈Q):
  ∃w',(Instr.mapUpdate mt (.map (some r)) (ptr bn p) (.agg #[])).run P w=.ok () w'/\a4a w' r bn (Q++[p])/\w'.os=w.os/\w'.tape=w.tape/\w'.output=w.output/\w'.heap.size=w.heap.size/\(∀k:Nat,k≠r->w'.heap[k]?=w.heap[k]?):=by
 obtain⟨es,c,h1,h2⟩:=h.m;obtain⟨f,hf,ho⟩:=b1j w t e i ht hi hs bn p es.toList Q h2;rcases ho with⟨m,_⟩ | ⟨_,rfl⟩
 ·exact(hp m).elim
 ·have hlt:r<w.heap.size:=by
   rcases Nat.lt_or_ge r w.heap.size with q | q
   ·exact q
   ·rw[Array.getElem?_eq_none q] at h1;cases h1
  refine⟨{ w with heap:=w.heap.setIfInBounds r (.map (es.push { key:=ptr bn p,val:=.agg #[],born:=c }) (c+1)) },?_,⟨es.push { key:=ptr bn p,val:=.agg #[],born:=c },c+1,?_,?_⟩,rfl,rfl,rfl,by simp,λk hk=>?_⟩
  ·simp [Instr.mapUpdate,run_underlying hm,MapKept.run_getObj_map h1,a5q w t e ht,hf,MapKept.run_setObj_map _ h1]
  ·show(w.heap.setIfInBounds r _)[r]?=_;rw[Array.getElem?_setIfInBounds,if_pos rfl,if_pos hlt]
  ·refine⟨?_,λy hy=>?_⟩
   ·simp [h2.1]
   ·simp at hy;rcases hy with hy | hy
    ·exact h2.2 y (by simpa using hy)
    ·rw[hy]
  ·show(w.heap.setIfInBounds r _)[k]?=_;rw[Array.getElem?_setIfInBounds,if_neg (λe=>hk e.symm)]
end Go.Proofs.YtddkhnclmeikfaaGreat
