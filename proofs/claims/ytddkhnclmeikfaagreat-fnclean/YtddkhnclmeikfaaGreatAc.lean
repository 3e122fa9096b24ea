import Derived.Test.YtddkhnclmeikfaaGreatHx
set_option maxRecDepth 100000
set_option maxHeartbeats 2000000
namespace Go.Proofs.YtddkhnclmeikfaaGreat
open Go.RowKit
attribute [local go_sem ↓] Go.wp_at_zero Go.wp_at_succ
variable{x y z:Hp}{w:World}{B u:Nat}{G:List Int}{v:Value}{op a b c n:Int}
def Grw(w:World)(B:Nat)(v:Value)(G:List Int):Prop:=
 (v=.slice none 0 0/\G=[])\/∃gb go cap cur,v=.slice (some ⟨gb,go,none⟩) G.length cap/\B<=gb/\w.heap[gb]?=some (.cells cur 3 (0,0))/\G.length<=cap/\go+cap<=cur.size/\(cur.toList.drop go).take G.length=G.map iv
theorem Grw.lt(h:Grw w B v G):∀k,v.ownBlock=some k->B<=k/\k<w.heap.size:=by
 intro k hk;rcases h with⟨rfl,_⟩ | ⟨gb,go,cap,cur,rfl,hb,hg,_⟩
 ·simp [Value.ownBlock] at hk
 ·simp [Value.ownBlock] at hk;subst hk;exact⟨hb,(Array.getElem?_eq_some_iff.1 hg).1⟩
theorem Grw.block{w':World}(h:Grw w B v G)(hb:∀k,v.ownBlock=some k->w'.heap[k]?=w.heap[k]?):Grw w' B v G:=by
 rcases h with h | ⟨gb,go,cap,cur,rfl,h1,hg,h2⟩
 ·exact .inl h
 ·exact .inr ⟨gb,go,cap,cur,rfl,h1,by rw[hb gb rfl];exact hg,h2⟩
theorem Grw.form(h:Grw w B v G):∃a k,v=.slice a G.length k:=by
 rcases h with⟨rfl,rfl⟩ | ⟨gb,go,cap,cur,rfl,_⟩
 ·exact⟨none,0,rfl⟩
 ·exact⟨_,_,rfl⟩
theorem Grw.of(h:w.ownsRow B 3 1 v G.length (G.map iv)):Grw w B v G:=by
 rcases h.2 with⟨h0,h1⟩ | ⟨g,cap,cur,h0,hb,hg,hn,_,hs,ht⟩
 ·exact .inl ⟨h0,List.eq_nil_of_length_eq_zero h1⟩
 ·exact .inr ⟨g,0,cap,cur,h0,hb,hg,hn,by omega,by simpa using ht⟩
theorem Grw.at{a:Option Addr}{k:Nat}(h:Grw w B (.slice a G.length k) G)(i:Nat)(hi:i<G.length):∃gb go,a=some ⟨gb,go,none⟩/\w.cell? ⟨gb,go+i,none⟩=some (iv G[i])/\B<=gb:=by
 rcases h with⟨_,rfl⟩ | ⟨gb,go,cap,cur,e,hb,hg,hn,hs,ht⟩
 ·simp at hi
 ·simp only [Value.slice.injEq] at e;refine⟨gb,go,e.1,?_,hb⟩;rw[cell_of_row w gb (go+i) cur _ _ hg,<-Array.getElem?_toList];have h1:((cur.toList.drop go).take G.length)[i]?=(G.map iv)[i]?:=by rw[ht]
  rw[List.getElem?_take_of_lt hi,List.getElem?_drop] at h1;rw[h1];simp [hi]
theorem Grw.tail{gb go cap:Nat}{g:Int}(h:Grw w B (.slice (some ⟨gb,go,none⟩) (G.length+1) cap) (g::G)):Grw w B (.slice (some ⟨gb,go+1,none⟩) G.length (cap-1)) G:=by
 rcases h with⟨_,e⟩ | ⟨gb',go',cap',cur,e,hb,hg,hn,hs,ht⟩
 ·cases e
 ·simp only [Value.slice.injEq,Option.some.injEq,Addr.mk.injEq] at e;obtain⟨⟨rfl,rfl,_⟩,_,rfl⟩:=e;refine .inr ⟨gb,go+1,cap-1,cur,rfl,hb,hg,by simp at hn;omega,by simp at hn;omega,?_⟩
  have h1:((cur.toList.drop go).take (G.length+1)).drop 1=G.map iv:=by
   have:(g::G).length=G.length+1:=rfl;rw[this] at ht;rw[ht];rfl
  rw[List.drop_take,List.drop_drop] at h1
  simpa using h1
theorem c7m{α:Type}(L:List α)(o n:Nat)(v:α)(xs:List α)(h:(L.drop o).take n=xs)(hl:xs.length=n)(ho:o+n<L.length):((L.take (o+n)++[v]++L.drop (o+n+1)).drop o).take (n+1)=xs++[v]:=by
 have e1:(L.take (o+n)).length=o+n:=by simp;omega
 have e2:(L.take (o+n)).drop o=xs:=by rw[List.drop_take,show o+n-o=n by omega];exact h
 rw[List.append_assoc,List.drop_append_of_le_length (by omega),e2];simp [List.take_append,hl];exact List.take_of_length_le (by omega)
theorem c7n{P:Program}(w:World)(t ty:TypeId)(i:TypeInfo)(z:Value)(B:Nat)(v:Value)(G:List Int)(ht:P.underlying t=some (.slice 3))(hi:P.info? 3=some i)(hz:i.zero=some z)(hs1:i.size=1)(hby:i.bytes=8)(hzs:z.cells.size=1)(h:Grw w B v G)(ad:Addr)(c:Nat)(x:Int)(hx:w.cell? ad=some (iv x))(hn:G.length<=1048576)(hB:B<=w.heap.size):
  ∃gb go cap w',(Builtin.append_ #[t,t] ty #[v,.slice (some ad) 1 c]).run P w=.ok (.slice (some ⟨gb,go,none⟩) (G.length+1) cap) w'/\Grw w' B (.slice (some ⟨gb,go,none⟩) (G.length+1) cap) (G++[x])/\w.grownBy w' v.ownBlock/\(v.ownBlock=some gb\/gb=w.heap.size)/\gb<w'.heap.size:=by
 have hnews:∀j u,[iv x][j]?=some u->w.cell? (ad.add j)=some u:=λj u hj=>by
  match j,hj with
  | 0,hj=>
   simp at hj;subst hj;have:ad.add 0=ad:=by unfold Addr.add;simp
   rw[this];exact hx
 have grown:∀(old:Nat),old<G.length+1->Grw (w.drew.alloc (.cells ((G.map iv).toArray ++ #[iv x]++Builtin.zeroCells z.cells (grownCap w (G.length+1) old 3-(G.length+1))) 3)) B (.slice (some ⟨w.heap.size,0,none⟩) (G.length+1) (grownCap w (G.length+1) old 3)) (G++[x])/\∀row,w.grownBy (w.drew.alloc (.cells ((G.map iv).toArray ++ #[iv x]++Builtin.zeroCells z.cells (grownCap w (G.length+1) old 3-(G.length+1))) 3)) row:=by
  intro old ho;have hge:=grownCap_ge w (G.length+1) old 3;refine⟨.inr ⟨w.heap.size,0,grownCap w (G.length+1) old 3,_,by simp,hB,heap_alloc_new w.drew _,by simpa using hge,?_,?_⟩,λrow=>⟨rfl,rfl,rfl,by simp,λk hk _=>Below.heap_alloc w.drew _ k hk⟩⟩
  ·simp [size_zeroCells,hzs];omega
  ·simp;have e:G.length+1=(G.map iv++[iv x]).length:=by simp
   rw[List.append_cons,e,List.take_left]
 rcases h with⟨rfl,rfl⟩ | ⟨gb,go,cap,cur,rfl,hb,hg,hnc,hcs,htake⟩
 ·have hr:=run_append_nil (P:=P) w t ty 3 i z ht hi hz ad 1 c [iv x] (by simp [hs1]) hnews (by omega) (by omega) (by rw[hby];omega);have hgr:=grown 0 (by omega);simp only [List.length_nil,Nat.zero_add,List.map_nil] at hgr;refine⟨_,_,_,_,hr,?_,hgr.2 _,.inr rfl,by simp⟩
  simpa using hgr.1
 ·by_cases hroom:G.length+1<=cap
  ·have hf:=run_firstCells_some (P:=P) w i.size 1 ad 1 c [iv x] (by simp [hs1]) hnews;rw[hs1] at hf;have hst:=run_storeCells_at P gb (go+G.length) 3 [iv x] 0 cur w hg (by simp;omega) (by intro v hv;simp at hv;subst hv;rfl);simp only [Nat.add_zero,List.length_cons,List.length_nil,Nat.zero_add] at hst;refine⟨gb,go,cap,w.setRow gb (cur.toList.take (go+G.length)++[iv x]++cur.toList.drop (go+G.length+1)).toArray,?_,.inr ⟨gb,go,cap,_,by simp,hb,setRow_heap w gb cur _ 3 _ hg,by simpa using hroom,?_,?_⟩,⟨rfl,rfl,rfl,by simp,λk _ hk=>setRow_other w gb k _ (λe=>hk (by simp [Value.ownBlock,e]))⟩,.inl rfl,?_⟩
   ·simp only [List.append_assoc,List.singleton_append] at hst ⊢;simp [Builtin.append_,run_underlying ht,sizeOf,typeInfo,hi,Builtin.lenOf,hroom,hf,Addr.add_lit,hst,hs1]
   ·simp;omega
   ·have:=c7m cur.toList go G.length (iv x) (G.map iv) htake (by simp) (by simp;omega)
    simpa using this
   ·have:=(Array.getElem?_eq_some_iff.1 hg).1
    simpa using this
  ·have hr:=run_append_grow (P:=P) w t ty 3 i z ht hi hz ⟨gb,go,none⟩ G.length cap (G.map iv) (by simp [hs1]) (λj u hj=>by
     have hj':j<G.length:=by have:=(List.getElem?_eq_some_iff.1 hj).1;simpa using this
     have:(⟨gb,go,none⟩:Addr).add j=⟨gb,go+j,none⟩:=by unfold Addr.add;split <;> simp_all
     rw[this,cell_of_row w gb (go+j) cur _ _ hg,<-Array.getElem?_toList];have h1:((cur.toList.drop go).take G.length)[j]?=(G.map iv)[j]?:=by rw[htake]
     rw[List.getElem?_take_of_lt hj',List.getElem?_drop] at h1;rw[h1];exact hj) ad 1 c [iv x] (by simp [hs1]) hnews (by omega) (by omega) (growslice_fits (by omega) (by rw[hby];omega))
   have hgr:=grown cap (by omega);exact⟨_,_,_,_,hr,hgr.1,hgr.2 _,.inr rfl,by simp⟩
theorem c4i{P:Program}(w:World){ops:Array Oper}{o:Oper}{a:Act}{K:Act->World->Prop}{Q:Exit->Act->World->Prop}{E:Prop}(hgd:o.guard=none)(s x:Operand)(t:TypeId)
  (ho:o.op=.call { callee:=.builtin .append,args:=#[s,x],argTypes:=#[t,t] }) (i:TypeInfo) (z:Value) (B:Nat) (v:Value) (G:List Int) (ht:P.underlying t=some (.slice 3)) (hi:P.info? 3=some i) (hz:i.zero=some z) (hs1:i.size=1) (hby:i.bytes=8) (hzs:z.cells.size=1) (hs:a.eval s=v) (h:Grw w B v G) (ad:Addr) (c:Nat) (y:Int) (hx:a.eval x=.slice (some ad) 1 c) (hy:w.cell? ad=some (iv y)) (hn:G.length<=1048576) (hB:B<=w.heap.size)
  (hK:∀gb go cap w',Grw w' B (.slice (some ⟨gb,go,none⟩) (G.length+1) cap) (G++[y])->w.grownBy w' v.ownBlock->(v.ownBlock=some gb\/gb=w.heap.size)->gb<w'.heap.size->K (a.put o.dst (.slice (some ⟨gb,go,none⟩) (G.length+1) cap)) w') :
  if Region.wanted o (yielded ops a.tmps)=true then Oper.wp P o a w K Q else E:=by
 have hw:Region.wanted o (yielded ops a.tmps)=true:=by simp [Region.wanted,hgd]
 rw[if_pos hw];obtain⟨gb,go,cap,w',hr,h2,h3,h4,h5⟩:=c7n (P:=P) w t o.type i z B v G ht hi hz hs1 hby hzs h ad c y hy hn hB;unfold Oper.wp execOp;simp only [ho,resolve,invoke,builtin,Sem.run_bind,Sem.run_pure,Result.andThen_ok,List.map_toArray,List.map_cons,List.map_nil,hs,hx,hr];exact hK gb go cap w' h2 h3 h4 h5
def regTo(x:Hp)(r:Nat)(y:Wd):Hp:={ x with B:=x.B.set r y }
theorem Snd.regTo(h:Snd x)(r:Nat)(y:Wd)(hy:cL x y False):Snd (regTo x r y) where
 r1:=⟨h.r1.M,by simp [Proofs.YtddkhnclmeikfaaGreat.regTo];exact h.r1.B,h.r1.A,h.r1.D,h.r1.born,h.r1.Q,h.r1.S,h.r1.per,h.r1.V,h.r1.E,h.r1.I,h.r1.sub⟩
 r2:=h.r2
 r3:=h.r3
 r4:=⟨λi hi=>by
  have hi2:i<x.B.length:=by simpa [Proofs.YtddkhnclmeikfaaGreat.regTo] using hi
  by_cases e:r=i
  ·subst e;have:(Proofs.YtddkhnclmeikfaaGreat.regTo x r y).B[r]=y:=by simp [Proofs.YtddkhnclmeikfaaGreat.regTo]
   rw[this];exact hy
  ·have:(Proofs.YtddkhnclmeikfaaGreat.regTo x r y).B[i]=x.B[i]:=by simp [Proofs.YtddkhnclmeikfaaGreat.regTo,List.getElem_set_ne e]
   rw[this];exact h.r4.1 i hi2,h.r4.2⟩
 r5:=h.r5
 r6:=h.r6
 r7:=h.r7
 r8:=h.r8
def paceTo(x:Hp)(p s:Int):Hp:={ x with per:=p,V:=s }
theorem Snd.paceTo(h:Snd x)(p s:Int)(hp:0<=p/\p<=64)(hs:0<=s/\s<=4000):Snd (paceTo x p s) where
 r1:=⟨h.r1.M,h.r1.B,h.r1.A,h.r1.D,h.r1.born,h.r1.Q,h.r1.S,hp,hs,h.r1.E,h.r1.I,h.r1.sub⟩
 r2:=h.r2
 r3:=h.r3
 r4:=h.r4
 r5:=h.r5
 r6:=h.r6
 r7:=h.r7
 r8:=h.r8
def forceTo(x:Hp):Hp:={ x with S:=if x.S<1000000000 then x.S+1 else x.S }
theorem Snd.forceTo(h:Snd x):Snd (forceTo x) where
 r1:=⟨h.r1.M,h.r1.B,h.r1.A,h.r1.D,h.r1.born,h.r1.Q,by have:=h.r1.S;show 0<=(if x.S<1000000000 then x.S+1 else x.S)/\(if x.S<1000000000 then x.S+1 else x.S)<=1000000000;split <;> omega,h.r1.per,h.r1.V,h.r1.E,h.r1.I,h.r1.sub⟩
 r2:=h.r2
 r3:=h.r3
 r4:=h.r4
 r5:=h.r5
 r6:=h.r6
 r7:=h.r7
 r8:=h.r8
def a9h(x:Hp)(y:Hp):Prop:=∃k,a9g x k/\y=itU k x
theorem a9h.uniq(h:a9h x y)(g:a9h x z):y=z:=by
 obtain⟨j,a,b⟩:=h;obtain⟨k,c,d⟩:=g;rw[b,d,a.uniq c]
theorem a9h.snd(s:Snd x)(h:a9h x y):Snd y/\y.E=0:=by
 obtain⟨k,a,b⟩:=h;rw[b];exact⟨s.itU k,a.1⟩
def stepH(x:Hp)(n:Nat):Hp:=if x.E=0/\n≠0 then dN x 1 0 else x
theorem Snd.stepH(s:Snd x)(n:Nat):Snd (stepH x n):=by
 unfold Go.Proofs.YtddkhnclmeikfaaGreat.stepH
 split
 ·rename_i h;exact s.begin h.1
 ·exact s
def a2j(x:Hp)(u:Nat):Bool:=decide (x.K+u<=x.M)
def b4d(x z:Hp):Prop:=∃y,a9h x y/\a9h (dN y 1 0) z
theorem b4d.uniq(h:b4d x y)(k:b4d x z):y=z:=by
 obtain⟨a,h1,h2⟩:=h;obtain⟨b,k1,k2⟩:=k;have e:=h1.uniq k1;subst e;exact h2.uniq k2
theorem b4d.snd(s:Snd x)(h:b4d x z):Snd z:=by
 obtain⟨y,h1,h2⟩:=h;exact(h2.snd ((h1.snd s).1.begin (h1.snd s).2)).1
def a2t(x:Hp)(u:Nat)(y:Hp):Prop:=(a2j x u=true/\y=x)\/(a2j x u=false/\b4d (forceTo x) y)
theorem a2t.uniq(h:a2t x u y)(k:a2t x u z):y=z:=by
 rcases h with⟨h1,h2⟩ | ⟨h1,h2⟩ <;> rcases k with⟨k1,k2⟩ | ⟨k1,k2⟩
 ·rw[h2,k2]
 ·rw[h1] at k1;cases k1
 ·rw[h1] at k1;cases k1
 ·exact h2.uniq k2
theorem a2t.snd(s:Snd x)(h:a2t x u y):Snd y:=by
 rcases h with⟨_,h⟩ | ⟨_,h⟩
 ·rw[h];exact s
 ·exact h.snd s.forceTo
def a9i(x:Hp)(u:Nat):Bool:=x.per == 0 || (u == 0 || (x.E == 0 && decide (x.K<=x.V)))
def a3e(x:Hp)(u:Nat)(y:Hp):Prop:=(a9i x u=true/\y=x)\/(a9i x u=false/\∃k,a5i (stepH x (x.per.toNat*u)) (x.per.toNat*u) k/\y=itU k (stepH x (x.per.toNat*u)))
theorem a3e.uniq(h:a3e x u y)(k:a3e x u z):y=z:=by
 rcases h with⟨h1,h2⟩ | ⟨h1,j,h2,h3⟩ <;> rcases k with⟨k1,k2⟩ | ⟨k1,i,k2,k3⟩
 ·rw[h2,k2]
 ·rw[h1] at k1;cases k1
 ·rw[h1] at k1;cases k1
 ·rw[h3,k3,h2.uniq k2]
theorem a3e.snd(s:Snd x)(h:a3e x u y):Snd y:=by
 rcases h with⟨_,h⟩ | ⟨_,k,_,h⟩
 ·rw[h];exact s
 ·rw[h];exact(s.stepH _).itU k
abbrev qU(c n:Int):Value:=.agg #[iv c,iv n]
def a2f(c:Cl)(n:Nat):Cl:={ c with F:=c.F++List.replicate n Pr0 }
def zD(x:Hp)(i n:Nat):Hp:={ x with A:=x.A.set i (a2f (x.c i) n),K:=x.K+n }
theorem a2x(x:Hp)(i n:Nat)(hi:i<x.A.length)(q:Nat):(zD x i n).c q=if q=i then a2f (x.c i) n else x.c q:=Hp.c_set x i (a2f (x.c i) n) hi q
theorem a0m(x:Hp)(i n:Nat):(zD x i n).A.length=x.A.length:=by simp [zD]
theorem a0x(x:Hp)(i n:Nat)(hi:i<x.A.length)(q:Nat):((zD x i n).c q).st=(x.c q).st/\((zD x i n).c q).kind=(x.c q).kind/\((zD x i n).c q).T=(x.c q).T/\((zD x i n).c q).U=(x.c q).U/\((zD x i n).c q).born=(x.c q).born/\((zD x i n).c q).J=(x.c q).J/\((zD x i n).c q).to=(x.c q).to:=by
 rw[a2x x i n hi q];by_cases e:q=i
 ·rw[if_pos e,e];exact⟨rfl,rfl,rfl,rfl,rfl,rfl,rfl⟩
 ·rw[if_neg e];exact⟨rfl,rfl,rfl,rfl,rfl,rfl,rfl⟩
theorem c3c(c:Cl)(n k:Nat):(a2f c n).p k=if k<c.F.length then c.p k else Pr0:=by
 unfold Cl.p a2f;by_cases h:k<c.F.length
 ·rw[if_pos h];simp only [List.getD_eq_getElem?_getD];rw[List.getElem?_append_left h]
 ·rw[if_neg h];simp only [List.getD_eq_getElem?_getD];rw[List.getElem?_append_right (by omega)];by_cases h2:k-c.F.length<n
  ·simp [h2]
  ·simp [h2]
theorem a3h(x:Hp)(i n:Nat)(hi:i<x.A.length)(q:Nat):hY (zD x i n) q↔hY x q:=by
 have a:=a0x x i n hi q;unfold hY;rw[a.1,a.2.2.2.2.2.1];exact Iff.rfl
theorem a6j(x:Hp)(i n:Nat)(hi:i<x.A.length)(y:Wd)(m:Prop):cL (zD x i n) y m↔cL x y m:=by
 have a:=a0x x i n hi y.a.toNat;unfold cL;rw[a0m,a.1,a3h x i n hi]
theorem Snd.grow(h:Snd x)(i n:Nat)(hi:i<x.A.length)(hs:(x.c i).st=1)(hl:(x.c i).F.length+n<=200)(hu:x.K+n<=x.M):Snd (zD x i n) where
 r1:=⟨h.r1.M,h.r1.B,by rw[a0m];exact h.r1.A,by rw[a0m];exact h.r1.D,h.r1.born,h.r1.Q,h.r1.S,h.r1.per,h.r1.V,h.r1.E,by rw[a0m];exact h.r1.I,h.r1.sub⟩
 r2:=⟨λq hq=>by
  rw[a0m] at hq;have ok:=h.r2.1 q hq;have aT:=a0x x i n hi (x.c q).to.toNat;by_cases e:q=i
  ·subst e;rcases ok with o | o | o
   ·omega
   ·omega
   ·refine .inr (.inr ⟨?_,?_⟩)
    ·rw[a2x x q n hi q,if_pos rfl];exact hs
    ·rw[a2x x q n hi q,if_pos rfl];obtain⟨_,o1,o2,o3,o4,o5,o6,o7⟩:=o;exact⟨o1,o2,o3,o4,o5,o6,by simp [a2f];omega⟩
  ·have ec:(zD x i n).c q=x.c q:=by rw[a2x x i n hi q,if_neg e]
   unfold cQ;rw[ec];rcases ok with o | ⟨o,m⟩ | o
   ·exact .inl o
   ·refine .inr (.inl ⟨o,m.1,m.2.1,m.2.2.1,m.2.2.2.1,by rw[aT.1];exact m.2.2.2.2.1,λhp k hk=>?_⟩);have ak:=a0x x i n hi k;rw[ak.1];exact m.2.2.2.2.2 hp k hk
   ·exact .inr (.inr o),λq hq h0 k hk=>by
  rw[a0m] at hq;have aq:=a0x x i n hi q;have ak:=a0x x i n hi k;rw[aq.1] at h0;rw[ak.1,ak.2.2.2.2.1,ak.2.2.2.2.2.2,aq.1,aq.2.2.2.2.1,aq.2.2.2.2.2.2];exact h.r2.2 q hq h0 k hk⟩
 r3:=by
  have u:=a1z x.A i (a2f (x.c i) n) hi;rw[Hp.c_eq x i hi] at u;have e1:hE (x.c i)=1+(x.c i).F.length:=by unfold hE;rw[if_pos hs]
  have e2:hE (a2f (x.c i) n)=1+((x.c i).F.length+n):=by
   unfold hE;rw[if_pos (show(a2f (x.c i) n).st=1 from hs)];simp [a2f]
  rw[e1,e2] at u;have r:=h.r3;refine⟨?_,hu⟩;show x.K+(n:Int)=(dL (x.A.set i (a2f (x.c i) n)):Nat);have:=r.1;omega
 r4:=⟨λj hj=>(a6j x i n hi _ _).2 (h.r4.1 j hj),λq hq=>by
  rw[a0m] at hq;have aq:=a0x x i n hi q;refine⟨λ⟨d,s⟩=>(h.r4.2 q hq).1 ⟨(a3h x i n hi q).1 d,by unfold cU at s ⊢;rw[aq.2.2.2.1] at s;exact s⟩,λk hk=>?_⟩
  have key:∀p:Pr,a2m x q k p->a2m (zD x i n) q k p:=λp o=>⟨λd=>by rw[a0m];exact o.1 ((a3h x i n hi q).1 d),λd=>by
   have:=o.2 (λd2=>d ((a3h x i n hi q).2 d2));exact⟨(a6j x i n hi _ _).2 this.1,(a6j x i n hi _ _).2 this.2⟩⟩
  by_cases e:q=i
  ·subst e;rw[a2x x q n hi q,if_pos rfl] at hk ⊢;rw[c3c];by_cases hk2:k<(x.c q).F.length
   ·rw[if_pos hk2];exact key _ ((h.r4.2 q hq).2 k hk2)
   ·rw[if_neg hk2];have nl:∀m:Prop,cL x ⟨0,0,0⟩ m:=λm=>⟨.inl ⟨rfl,rfl,rfl⟩,λh=>by simp at h⟩
    exact key _ ⟨λ_=>⟨(nl True).1,(nl True).1⟩,λ_=>⟨nl _,nl _⟩⟩
  ·rw[a2x x i n hi q,if_neg e] at hk ⊢;exact key _ ((h.r4.2 q hq).2 k hk)⟩
 r5:=⟨h.r5.1,λq hq=>by
  rw[a0m] at hq;have aq:=a0x x i n hi q;unfold eV;rw[aq.2.2.2.2.2.1];exact h.r5.2.1 q hq,λg hg=>by rw[a0m];exact h.r5.2.2 g hg⟩
 r6:=by
  have lg:∀q,(x.c q).F.length<=((zD x i n).c q).F.length:=λq=>by
   rw[a2x x i n hi q];by_cases e:q=i
   ·rw[if_pos e,e];simp [a2f]
   ·rw[if_neg e];exact Nat.le_refl _
  obtain⟨a,b,c,d⟩:=h.r6;refine⟨a,λhp=>⟨(b hp).1,(b hp).2.1,λhg=>?_⟩,λhp=>⟨λhq=>(c hp).1 ?_,λhq=>?_⟩,d⟩
  ·have h1:=(b hp).2.2 hg;have h2:=lg x.g0;show x.sub<=(((zD x i n).c x.g0).F.length:Int);omega
  ·rw[a0m] at hq;have:=a0x x i n hi x.I.toNat;rcases hq with hq | hq
   ·exact .inl hq
   ·exact .inr (by rw[<-this.1];exact hq)
  ·rw[a0m] at hq;have a1:=a0x x i n hi x.I.toNat;have h1:=(c hp).2 ⟨hq.1,by rw[<-a1.1];exact hq.2⟩;have h2:=lg x.I.toNat;show x.sub<=(((zD x i n).c x.I.toNat).F.length:Int);omega
 r7:=λhm q hq=>by
  rw[a0m] at hq;have aq:=a0x x i n hi q;have o:=h.r7 hm q hq;refine⟨λhb=>o.1 ⟨by have:=hb.1;unfold cU at this ⊢;rw[aq.2.2.2.1] at this;exact this,by rw[<-aq.2.2.2.2.2.1];exact hb.2.1,hb.2.2⟩,λk hk=>?_⟩;have wh:∀y:Wd,cZ (zD x i n) y->cZ x y:=λy hy=>⟨hy.1,by rw[<-(a0x x i n hi y.a.toNat).2.2.2.2.2.1];exact hy.2⟩
  have nil:∀p:Pr,p=Pr0->¬cZ (zD x i n) p.key/\¬cZ (zD x i n) p.val:=λp e=>by subst e;exact⟨λw=>by have:=w.1;simp [Pr0] at this,λw=>by have:=w.1;simp [Pr0] at this⟩
  have old:∀k,k<cC x q->(k<(x.c q).F.length->True)->¬cZ (zD x i n) ((x.c q).p k).key/\¬cZ (zD x i n) ((x.c q).p k).val:=λk hk _=>⟨λw=>(o.2 k hk).1 (wh _ w),λw=>(o.2 k hk).2 (wh _ w)⟩
  by_cases e:q=i
  ·subst e;rw[a2x x q n hi q,if_pos rfl,c3c];by_cases hk2:k<(x.c q).F.length
   ·rw[if_pos hk2];refine old k ?_ (λ_=>trivial);unfold cC at hk ⊢;rw[aq.2.2.2.2.2.1] at hk
    split at hk
    ·rename_i hc;rw[if_pos hc];exact hk2
    ·rename_i hc;rw[if_neg hc];exact hk
   ·rw[if_neg hk2];exact nil _ rfl
  ·rw[a2x x i n hi q,if_neg e];refine old k ?_ (λ_=>trivial);unfold cC at hk ⊢;rw[a2x x i n hi q,if_neg e] at hk;exact hk
 r8:=λq hq=>by
  rw[a0m] at hq;rw[(a0x x i n hi q).1];exact h.r8 q hq
def tV(b k:Int)(n:Nat)(col:Int):Cl:=⟨1,k,0,0,b,col,0,List.replicate n Pr0⟩
def qZ(x:Hp)(t:Nat):Int:=if x.E=1\/x.E=2\/(x.E=3/\x.I<=(t:Int)) then 2 else 0
def a4t(x:Hp)(t:Nat)(c:Cl):List Cl:=if t<x.A.length then x.A.set t c else x.A++[c]
def a4f(x:Hp)(k:Int)(n:Nat):Hp:={ x with born:=x.born+1,K:=x.K+(1+n),A:=a4t x (cH x) (tV (x.born+1) k n (qZ x (cH x))) }
theorem a7i(x:Hp)(t:Nat)(c:Cl):(a4t x t c).length=if t<x.A.length then x.A.length else x.A.length+1:=by
 unfold a4t
 split <;> simp
theorem c3d(x z:Hp)(t:Nat)(c:Cl)(ht:t<=x.A.length)(hz:z.A=a4t x t c)(q:Nat):z.c q=if q=t then c else x.c q:=by
 unfold Hp.c;rw[hz];unfold a4t;by_cases h:t<x.A.length
 ·rw[if_pos h];simp only [List.getD_eq_getElem?_getD,List.getElem?_set];by_cases e:q=t
  ·subst e;simp [h]
  ·rw[if_neg (λe'=>e e'.symm),if_neg e]
 ·rw[if_neg h];have te:t=x.A.length:=by omega
  simp only [List.getD_eq_getElem?_getD];by_cases e:q=t
  ·rw[if_pos e,e,te];simp
  ·rw[if_neg e];by_cases h2:q<x.A.length
   ·rw[List.getElem?_append_left h2]
   ·rw[List.getElem?_eq_none (by simp;omega),List.getElem?_eq_none (by omega)]
theorem Snd.crowd{x:Hp}(h:Snd x)(hf:∀i,i<x.A.length->(x.c i).st≠0):x.A.length<=2*dL x.A:=by
 have r2:=h.r2
 let U:=(List.range x.A.length).filter (λi=>(x.c i).st == 1)
 let M:=(List.range x.A.length).filter (λi=>(x.c i).st == 2)
 have hU:U.length<=dL x.A:=by
  have key:∀m,m<=x.A.length->((List.range m).filter (λi=>(x.c i).st == 1)).length<=dL (x.A.take m):=λm=>by
   induction m with
   | zero=>intro _;simp
   | succ m ih=>
    intro hm;have i1:=ih (by omega);have ht:x.A.take (m+1)=x.A.take m++[x.A[m]'(by omega)]:=List.take_succ_eq_append_getElem (by omega);rw[List.range_succ,List.filter_append,List.length_append,ht];have eu:dL (x.A.take m++[x.A[m]'(by omega)])=dL (x.A.take m)+hE (x.c m):=by simp [dL,Hp.c_eq x m (by omega)]
    rw[eu];by_cases e:(x.c m).st=1
    ·have:hE (x.c m)=1+(x.c m).F.length:=by unfold hE;rw[if_pos e]
     simp [e];omega
    ·simp [e];omega
  have:=key x.A.length (Nat.le_refl _);rw[List.take_length] at this;exact this
 have hM:M.length<=U.length:=by
  have nd:(M.map (λi=>(x.c i).to.toNat)).Nodup:=by
   rw[List.nodup_iff_pairwise_ne,List.pairwise_map];have pm:M.Pairwise (· < ·):=List.Pairwise.filter _ List.pairwise_lt_range;refine List.Pairwise.imp_of_mem (λ{a b} ha hb hab e=>?_) pm;have ha2:=List.mem_filter.1 ha;have hb2:=List.mem_filter.1 hb;have la:=List.mem_range.1 ha2.1;have lb:=List.mem_range.1 hb2.1;have sa:(x.c a).st=2:=by simpa using ha2.2
   have sb:(x.c b).st=2:=by simpa using hb2.2
   have oa:=r2.1 a la;have ob:=r2.1 b lb;unfold cQ eX yW at oa ob;exact r2.2 b lb (by omega) a hab ⟨by omega,by omega,by omega⟩
  have sub:∀z,z∈M.map (λi=>(x.c i).to.toNat)->z∈U:=λz hz=>by
   obtain⟨i,hi,e⟩:=List.mem_map.1 hz;have hi2:=List.mem_filter.1 hi;have li:=List.mem_range.1 hi2.1;have si:(x.c i).st=2:=by simpa using hi2.2
   have oi:=r2.1 i li;unfold cQ eX at oi
   have st:(x.c (x.c i).to.toNat).st=1:=by
    rcases oi with o | o | o
    ·omega
    ·exact o.2.2.2.2.2.1
    ·omega
   rw[<-e];exact List.mem_filter.2 ⟨List.mem_range.2 (by omega),by simpa using st⟩
  have:=List.Nodup.length_le_of_subset nd sub
  simpa using this
 have hA:x.A.length<=U.length+M.length:=by
  have key:∀m,m<=x.A.length->m<=((List.range m).filter (λi=>(x.c i).st == 1)).length+((List.range m).filter (λi=>(x.c i).st == 2)).length:=λm=>by
   induction m with
   | zero=>intro _;omega
   | succ m ih=>
    intro hm;have i1:=ih (by omega);rw[List.range_succ,List.filter_append,List.filter_append,List.length_append,List.length_append];have:=r2.1 m (by omega);have nf:=hf m (by omega);have s12:(x.c m).st=1\/(x.c m).st=2:=by unfold cQ at this;omega
    rcases s12 with e | e
    ·simp [e];omega
    ·simp [e];omega
  exact key x.A.length (Nat.le_refl _)
 omega
theorem newC_p(b k:Int)(n:Nat)(col:Int)(j:Nat):(tV b k n col).p j=Pr0:=by
 unfold Cl.p tV;simp only [List.getD_eq_getElem?_getD];by_cases h:j<n
 ·simp [h]
 ·simp [h]
theorem Snd.make{x:Hp}(h:Snd x)(k:Int)(n:Nat)(hk:0<=k/\k<=255)(hn:n<=200)(hb:x.born<1000000000)(hu:x.K+(1+n)<=x.M):Snd (a4f x k n)/\((a4f x k n).c (cH x)).st=1/\cH x<(a4f x k n).A.length/\¬hY (a4f x k n) (cH x):=by
 obtain⟨f1,f2,f3⟩:=a0o x;obtain⟨t,ht⟩:∃t,t=cH x:=⟨_,rfl⟩;obtain⟨c,hc⟩:∃c,c=tV (x.born+1) k n (qZ x t):=⟨_,rfl⟩;obtain⟨z,hz⟩:∃z,z=a4f x k n:=⟨_,rfl⟩;rw[<-ht] at f1 f2 f3 ⊢;have zcs:z.A=a4t x t c:=by rw[hz,hc,ht];rfl
 have zc:∀q,z.c q=if q=t then c else x.c q:=c3d x z t c f1 zcs
 have zl:z.A.length=if t<x.A.length then x.A.length else x.A.length+1:=by rw[zcs];exact a7i x t c
 have zle:x.A.length<=z.A.length:=by rw[zl];split <;> omega
 have zq:∀q,q<z.A.length->q=t\/(q≠t/\q<x.A.length):=λq hq=>by
  rw[zl] at hq;by_cases e:q=t
  ·exact .inl e
  ·refine .inr ⟨e,?_⟩
   split at hq <;> omega
 have tl:t<z.A.length:=by rw[zl];split <;> omega
 have zne:∀q,q≠t->z.c q=x.c q:=λq e=>by rw[zc q,if_neg e]
 have ze:z.c t=c:=by rw[zc t,if_pos rfl]
 have free:∀q,q<x.A.length->(x.c q).st≠0->q≠t:=λq hq hs e=>by subst e;exact hs (f3 hq)
 have zro:z.M=x.M:=by rw[hz];rfl
 have zus:z.K=x.K+(1+n):=by rw[hz];rfl
 have zbo:z.born=x.born+1:=by rw[hz];rfl
 have zre:z.B=x.B:=by rw[hz];rfl
 have zph:z.E=x.E:=by rw[hz];rfl
 have zha:z.I=x.I:=by rw[hz];rfl
 have zsu:z.sub=x.sub:=by rw[hz];rfl
 have zgr:z.D=x.D:=by rw[hz];rfl
 have zrest:z.per=x.per/\z.V=x.V/\z.Q=x.Q/\z.S=x.S:=by rw[hz];exact⟨rfl,rfl,rfl,rfl⟩
 have cst:c.st=1:=by rw[hc];rfl
 have cbo:c.born=x.born+1:=by rw[hc];rfl
 have cto:c.to=0:=by rw[hc];rfl
 have cla:c.U=0:=by rw[hc];rfl
 have cco:c.J=qZ x t:=by rw[hc];rfl
 have cpl:c.F.length=n:=by rw[hc];simp [tV]
 have cp:∀j,c.p j=Pr0:=λj=>by rw[hc];exact newC_p _ _ _ _ j
 have ncd:¬hY z t:=λd=>by
  have d4:=d.2.2.2;rw[ze,cco] at d4;unfold qZ at d4;have d1:=d.1;have d2:=d.2.1;rw[zph] at d1;rw[zha] at d2;rw[if_pos (.inr (.inr ⟨d1,d2⟩))] at d4;omega
 have dm:∀q,q≠t->(hY z q↔hY x q):=λq e=>by unfold hY;rw[zph,zha,zne q e]
 have fm:∀y:Wd,uE y x.A.length->uE y z.A.length:=λy f=>by unfold uE at f ⊢;omega
 have ld:∀(y:Wd) (m:Prop),cL x y m->cL z y m:=λy m l=>⟨fm y l.1,λhk=>by
  have hf:=l.1;unfold uE at hf;have hy:y.a.toNat<x.A.length:=by omega
  rcases l.2 hk with o | o
  ·have e:=free _ hy (by rw[o.1];omega);rw[zne _ e];exact .inl o
  ·have e:=free _ hy (by rw[o.1];omega);rw[zne _ e];exact .inr ⟨o.1,λd=>o.2 ((dm _ e).1 d)⟩⟩
 have nl:∀m:Prop,cL z ⟨0,0,0⟩ m:=λm=>⟨.inl ⟨rfl,rfl,rfl⟩,λh=>by simp at h⟩
 have us:x.K=(dL x.A:Nat):=h.r3.1;rw[<-hz];refine⟨⟨?_,?_,?_,?_,?_,?_,?_,?_⟩,by rw[ze];exact cst,tl,ncd⟩
 ·have rc:=h.r1.A;have rr:=h.r1.M;refine⟨by rw[zro];exact rr,by rw[zre];exact h.r1.B,?_,by rw[zgr];exact Nat.le_trans h.r1.D zle,by rw[zbo];have:=h.r1.born;omega,by rw[zrest.2.2.1];exact h.r1.Q,by rw[zrest.2.2.2];exact h.r1.S,by rw[zrest.1];exact h.r1.per,by rw[zrest.2.1];exact h.r1.V,by rw[zph];exact h.r1.E,by rw[zha];have:=h.r1.I;omega,by rw[zsu];exact h.r1.sub⟩;rw[zro,zl];by_cases e:t<x.A.length
  ·rw[if_pos e];exact rc
  ·rw[if_neg e];have:=h.crowd (λi hi=>f2 i (by omega));omega
 ·refine⟨λq hq=>?_,λq hq h0 j hj hb2=>?_⟩
  ·rcases zq q hq with e | ⟨e,hqx⟩
   ·subst e;refine .inr (.inr ⟨by rw[ze];exact cst,?_⟩);rw[ze];have cc:0<=c.J/\c.J<=2:=by rw[cco];unfold qZ;split <;> omega
    have ck:c.kind=k:=by rw[hc];rfl
    have cw:c.T=0:=by rw[hc];rfl
    have:=h.r1.born;exact⟨by rw[ck];exact hk,by omega,by omega,by rw[zbo];omega,cc,cto,by omega⟩
   ·have ok:=h.r2.1 q hqx;unfold cQ;rw[zne q e];rcases ok with o | ⟨o,m⟩ | ⟨o,m⟩
    ·exact .inl o
    ·have mt:=m.2.2.2.2.1;have tt:=m.2.2.2.1;have t0:=m.2.2.1;have e2:=free (x.c q).to.toNat (by omega) (by rw[mt];omega);refine .inr (.inl ⟨o,m.1,by rw[zph];exact m.2.1,t0,tt,by rw[zne _ e2];exact mt,λhp j hj=>?_⟩);rw[zph] at hp;have:=m.2.2.2.2.2 hp j hj;by_cases ej:j=t
     ·rw[ej,ze];omega
     ·rw[zne j ej];exact this
    ·refine .inr (.inr ⟨o,?_⟩);unfold a2k at m ⊢;rw[zbo];omega
  ·have key:∀a,a≠t->a<x.A.length->(x.c a).st=1->(x.c a).born<=x.born:=λa _ ha hs=>by
    have:=h.r2.1 a ha;unfold cQ a2k at this;omega
   rcases zq q hq with e | ⟨e,hqx⟩
   ·subst e;rcases zq j (by omega) with e2 | ⟨e2,hjx⟩
    ·omega
    ·rw[zne j e2,ze] at hb2;have:=key j e2 hjx (by omega);omega
   ·rcases zq j (by omega) with e2 | ⟨e2,hjx⟩
    ·subst e2;rw[ze,zne q e] at hb2;have:=key q e hqx (by omega);omega
    ·rw[zne j e2,zne q e] at hb2;rw[zne q e] at h0;exact h.r2.2 q hqx h0 j hj hb2
 ·refine⟨?_,by rw[zus,zro];exact hu⟩;rw[zus,zcs];have uc:hE c=1+n:=by unfold hE;rw[if_pos cst,cpl]
  unfold a4t;by_cases e:t<x.A.length
  ·rw[if_pos e];have u:=a1z x.A t c e;rw[Hp.c_eq x t e] at u;have u0:hE (x.c t)=0:=by unfold hE;rw[if_neg (by rw[f3 e];omega)]
   omega
  ·rw[if_neg e];have:dL (x.A++[c])=dL x.A+hE c:=by simp [dL]
   omega
 ·refine⟨λi hi=>?_,λq hq=>?_⟩
  ·have e:z.B[i]=x.B[i]'(by rw[<-zre];exact hi):=by simp only [zre]
   rw[e];exact ld _ _ (h.r4.1 i (by rw[<-zre];exact hi))
  ·rcases zq q hq with e | ⟨e,hqx⟩
   ·subst e;refine⟨λd=>ncd d.1,λj hj=>?_⟩;rw[ze,cp j];exact⟨λd=>(ncd d).elim,λ_=>⟨nl _,nl _⟩⟩
   ·have o:=h.r4.2 q hqx;have md:∀j,cX z q j↔cX x q j:=λj=>by unfold cX;rw[zph,zha,zsu]
    rw[zne q e];refine⟨λd=>o.1 ⟨(dm q e).1 d.1,d.2⟩,λj hj=>?_⟩;have p:=o.2 j hj;refine⟨λd=>?_,λd=>?_⟩
    ·have:=p.1 ((dm q e).1 d);exact⟨fm _ this.1,fm _ this.2⟩
    ·have:=p.2 (λd2=>d ((dm q e).2 d2));have em:(¬cX z q j)=(¬cX x q j):=propext (not_congr (md j));rw[em];exact⟨ld _ _ this.1,ld _ _ this.2⟩
 ·refine⟨λhm=>by rw[zgr];exact h.r5.1 (λm=>hm (by unfold uD at m ⊢;rw[zph];exact m)),λq hq=>?_,λg hg=>?_⟩
  ·rcases zq q hq with e | ⟨e,hqx⟩
   ·subst e
    have c0:cnt x.D q=0:=by
     by_cases e:q<x.A.length
     ·have ok:=h.r2.1 q e;have s0:=f3 e;have:(x.c q).J≠1:=by unfold cQ yW at ok;omega
      exact(h.r5.2.1 q e).2.1 this
     ·unfold cnt;rw[List.count_eq_zero];intro hg;have:=h.r5.2.2 _ hg;omega
    unfold eV;rw[ze,zgr,zph,zha,cco];refine⟨λe1=>?_,λ_=>c0,λe2=>?_⟩
    ·unfold qZ at e1;split at e1 <;> omega
    ·unfold qZ at e2
     split at e2
     ·rename_i hh;rcases hh with hh | hh | hh
      ·exact .inl (by unfold uD;rw[zph];exact .inl hh)
      ·exact .inl (by unfold uD;rw[zph];exact .inr hh)
      ·exact .inr hh
     ·omega
   ·have o:=h.r5.2.1 q hqx;unfold eV at o ⊢;rw[zne q e,zgr,zph,zha]
    exact⟨o.1,o.2.1,λe2=>by
     rcases o.2.2 e2 with m | m
     ·exact .inl (by unfold uD at m ⊢;rw[zph];exact m)
     ·exact .inr m⟩
  ·rw[zgr] at hg;have:=h.r5.2.2 g hg;omega
 ·obtain⟨a,b,d,e⟩:=h.r6;refine⟨λhp=>by rw[zph] at hp;rw[zha,zsu];exact a hp,λhp=>?_,λhp=>?_,λhp=>by rw[zph] at hp;rw[zsu];exact e hp⟩
  ·rw[zph] at hp;have b2:=b hp;have eg:z.g0=x.g0:=by unfold Hp.g0;rw[zgr]
   rw[zha,zgr,zsu,eg];refine⟨b2.1,b2.2.1,λhg=>?_⟩;have hs:=b2.2.2 hg
   have gl:(x.D.getD 0 0)∈x.D:=by
    cases hgr:x.D with
    | nil=>rw[hgr] at hg;simp at hg
    | cons g G=>simp
   have gr:=h.r5.2.2 _ gl;have g0l:x.g0<x.A.length:=by unfold Hp.g0;omega
   by_cases e2:x.g0=t
   ·have s0:=f3 (by omega);rw[<-e2] at s0;have ok:=h.r2.1 x.g0 g0l;have p0:(x.c x.g0).F.length=0:=by unfold cQ yW at ok;omega
    rw[e2,ze,cpl];omega
   ·rw[zne _ e2];exact hs
  ·rw[zph] at hp;have d2:=d hp;have hh:=h.r1.I;rw[zha,zsu];have hcase:x.I.toNat=t\/x.I.toNat≠t:=by omega
   refine⟨λhq=>?_,λhq=>?_⟩
   ·rcases hcase with e2 | e2
    ·rcases hq with hq | hq
     ·exfalso;rw[zl] at hq
      split at hq <;> omega
     ·rw[e2,ze] at hq;omega
    ·rcases hq with hq | hq
     ·refine d2.1 (.inl ?_);rw[zl] at hq
      split at hq <;> omega
     ·rw[zne _ e2] at hq;exact d2.1 (.inr hq)
   ·rcases hcase with e2 | e2
    ·have s0:x.sub=0:=by
      by_cases e3:t<x.A.length
      ·refine d2.1 (.inr ?_);rw[e2,f3 e3];omega
      ·exact d2.1 (.inl (by omega))
     rw[s0];omega
    ·rw[zne _ e2] at hq ⊢;refine d2.2 ⟨λe3=>?_,hq.2⟩;have h1:=hq.1;have h2:=hq.2;rw[zl] at h1
     split at h1
     ·omega
     ·omega
 ·intro hm q hq;have hm2:uD x:=by unfold uD at hm ⊢;rw[zph] at hm;exact hm
  have wh:∀y:Wd,cZ z y->cZ x y:=λy hy=>⟨hy.1,by
   have h2:=hy.2;by_cases e:y.a.toNat=t
   ·rw[e,ze,cco] at h2;unfold qZ at h2;unfold uD at hm2;rw[if_pos (by omega)] at h2;omega
   ·rw[zne _ e] at h2;exact h2⟩
  rcases zq q hq with e | ⟨e,hqx⟩
  ·subst e;rw[ze];refine⟨λs=>?_,λj _=>?_⟩
   ·have:=s.1;unfold cU at this;omega
   ·rw[cp j];exact⟨λw=>by have:=w.1;simp [Pr0] at this,λw=>by have:=w.1;simp [Pr0] at this⟩
  ·have o:=h.r7 hm2 q hqx;rw[zne q e,zph,zha];refine⟨o.1,λj hj=>?_⟩;have lk:cC z q=cC x q:=by unfold cC;rw[zne q e,zph,zgr,zsu]
   rw[lk] at hj;exact⟨λw=>(o.2 j hj).1 (wh _ w),λw=>(o.2 j hj).2 (wh _ w)⟩
 ·intro q hq;rw[zph,zha];rcases zq q hq with e | ⟨e,hqx⟩
  ·subst e;rw[ze];intro hb2;omega
  ·rw[zne q e];exact h.r8 q hqx
def zX(op:Int):Bool:=!(op == 18 || op == 20 || op == 21 || op == 22 || op == 23 || op == 24)
def zE(op:Int):Bool:=op == 4 || op == 5 || op == 6 || op == 7 || op == 8 || op == 13
def tZ(op:Int):Int:=if op=1 then 255 else if zE op=true then 15 else if op=23 then 64 else 0
def tX(op:Int):Int:=if op=1\/op=9\/op=10 then 200 else if 5<=op/\op<=8 then 199 else if op=11 then 3 else if op=12 then 1 else if op=22 then 100000 else if op=23 then 4000 else 0
theorem b8x(op:Int)(h1:1<=op)(h2:op<=24):op=1\/op=2\/op=3\/op=4\/op=5\/op=6\/op=7\/op=8\/op=9\/op=10\/op=11\/op=12\/op=13\/op=14\/op=15\/op=16\/op=17\/op=18\/op=19\/op=20\/op=21\/op=22\/op=23\/op=24:=by omega
theorem b5e(op:Int)(h1:1<=op)(h2:op<=24)(w:World):Calls Tryz.prog 220 #[.int .i64 op] w λe w'=>e=.returned (.tuple #[.bool (zX op),.bool (zE op)])/\w'=w:=by
 have h:=b8x op h1 h2;clear h1 h2;rcases h with rfl | rfl | rfl | rfl | rfl | rfl | rfl | rfl | rfl | rfl | rfl | rfl | rfl | rfl | rfl | rfl | rfl | rfl | rfl | rfl | rfl | rfl | rfl | rfl
 all_goals
  go_enter Tryz.func220,Tryz.ntmps220
  go_wp2
  go_ret2;exact⟨rfl,rfl⟩
theorem c1n(op:Int)(h1:1<=op)(h2:op<=24)(w:World):Calls Tryz.prog 221 #[.int .i64 op] w λe w'=>e=.returned (.tuple #[.int .i64 (tZ op),.int .i64 (tX op)])/\w'=w:=by
 have h:=b8x op h1 h2;clear h1 h2;rcases h with rfl | rfl | rfl | rfl | rfl | rfl | rfl | rfl | rfl | rfl | rfl | rfl | rfl | rfl | rfl | rfl | rfl | rfl | rfl | rfl | rfl | rfl | rfl | rfl
 all_goals
  go_enter Tryz.func221,Tryz.ntmps221
  go_wp2
  go_ret2;exact⟨rfl,rfl⟩
def tC(op:Int):Int:=if zX op=true then 15 else 0
def qY(op a b c n:Int):Bool:=decide ((1<=op/\op<=24)/\(n=0\/op=2)) && (decide (0<=a/\a<=tC op) && (decide (0<=b/\b<=tZ op) && decide (0<=c/\c<=tX op)))
abbrev yL(op a b c n:Int):Value:=.agg #[iv op,iv a,iv b,iv c,iv n]
theorem c1o(h:op<1\/24<op\/(n≠0/\op≠2)):qY op a b c n=false:=by
 unfold qY;rw[decide_eq_false (by omega)];rfl
theorem act_a(h:a<0\/tC op<a):qY op a b c n=false:=by
 unfold qY;have e:decide (0<=a/\a<=tC op)=false:=decide_eq_false (by omega);rw[e];simp
theorem act_yes(h1:1<=op)(h2:op<=24)(h3:n=0\/op=2)(h4:0<=a)(h5:a<=tC op):qY op a b c n=(decide (0<=b/\b<=tZ op) && decide (0<=c/\c<=tX op)):=by
 unfold qY;rw[decide_eq_true ⟨⟨h1,h2⟩,h3⟩,decide_eq_true ⟨h4,h5⟩];simp
theorem b0k(n lo hi:Int)(r:Bool)(h:hD n lo hi=r)(w:World):Calls Tryz.prog 60 #[.int .i64 n,.int .i64 lo,.int .i64 hi] w λe w'=>e=.returned (.bool r)/\w'=w:=h ▸ dK n lo hi w
theorem a9t(op a b c n:Int)(w:World)(h1:1<=op)(h2:op<=24)(hq:((op != 2)=true/\(n != 0)=false)\/(op != 2)=false):Calls Tryz.prog 158 #[yL op a b c n] w λe w'=>e=.returned (.bool (qY op a b c n))/\Ext w w':=by
 have H3:=uU (show n=0\/op=2 from by rcases hq with⟨_,q⟩ | q <;> simp at q <;> omega);have QM:=uU (λW=>c1n op h1 h2 W);have YY:=uU (λh4 h5=>act_yes (b:=b) (c:=c) (n:=n) (a:=a) h1 h2 H3 h4 h5);obtain⟨bm,eb⟩:∃v,v=tZ op:=⟨_,rfl⟩;obtain⟨cm,ec⟩:∃v,v=tX op:=⟨_,rfl⟩;rw[<-eb,<-ec] at QM YY;clear eb ec;have h1b:¬op<1:=by omega
 have h2b:¬op > 24:=by omega
 rcases hq with⟨q1b,q2b⟩ | q1b
 all_goals
  cases q3:zX op
  ·have QL:=uU (λW=>q3 ▸ b5e op h1 h2 W);cases q5:(a == 0)
   ·have q5b:(a != 0)=true:=by simpa using q5
    have E:=uU (act_a (op:=op) (a:=a) (b:=b) (c:=c) (n:=n) (by unfold tC;rw[q3];simp at q5;simp;omega));go_enter Tryz.func158,Tryz.ntmps158;go_wp2_with (first | (go_at_call 220;refine(QL _).mono ?_;rintro e w2 ⟨rfl,rfl⟩));go_ret;exact⟨by rw[uH E];rfl,(Ext.refl _).alloc _⟩
   ·have q5b:(a != 0)=false:=by simpa using q5
    have EY:=uU (YY (by simp at q5;omega) (by unfold tC;rw[q3];simp at q5;simp;omega));cases q6:hD b 0 bm
    ·have QB:=uU (λW=>b0k b 0 bm false q6 W);have E:=uU (show qY op a b c n=false by rw[uH EY];have e:decide (0<=b/\b<=bm)=false:=q6;rw[e];rfl);clear EY H3 YY;go_enter Tryz.func158,Tryz.ntmps158;go_wp2_with (first | (go_at_call 220;refine(QL _).mono ?_;rintro e w2 ⟨rfl,rfl⟩) | (go_at_call 221;refine(QM _).mono ?_;rintro e w2 ⟨rfl,rfl⟩) | (go_at_call 60;refine(QB _).mono ?_;rintro e w2 ⟨rfl,rfl⟩));go_ret;exact⟨by rw[uH E];rfl,(Ext.refl _).alloc _⟩
    ·have QB:=uU (λW=>b0k b 0 bm true q6 W);have QC:=uU (λW=>dK c 0 cm W);have E:=uU (show qY op a b c n=hD c 0 cm by rw[uH EY];have e:decide (0<=b/\b<=bm)=true:=q6;rw[e];rfl);clear EY H3 YY;go_enter Tryz.func158,Tryz.ntmps158;go_wp2_with (first | (go_at_call 220;refine(QL _).mono ?_;rintro e w2 ⟨rfl,rfl⟩) | (go_at_call 221;refine(QM _).mono ?_;rintro e w2 ⟨rfl,rfl⟩) | (have _:=LQB;go_at_call 60;refine(QC _).mono ?_;rintro e w2 ⟨rfl,rfl⟩) | (go_at_call 60;refine(QB _).mono ?_;rintro e w2 ⟨rfl,rfl⟩;have LQB:=True.intro));go_ret;exact⟨by rw[uH E];rfl,(Ext.refl _).alloc _⟩
  ·have QL:=uU (λW=>q3 ▸ b5e op h1 h2 W);cases q5:hD a 0 15
   ·have QA:=uU (λW=>b0k a 0 15 false q5 W);have E:=uU (act_a (op:=op) (a:=a) (b:=b) (c:=c) (n:=n) (by unfold tC;rw[q3];simp [hD] at q5;simp;omega));go_enter Tryz.func158,Tryz.ntmps158;go_wp2_with (first | (go_at_call 220;refine(QL _).mono ?_;rintro e w2 ⟨rfl,rfl⟩) | (go_at_call 60;refine(QA _).mono ?_;rintro e w2 ⟨rfl,rfl⟩));go_ret;exact⟨by rw[uH E];rfl,(Ext.refl _).alloc _⟩
   ·have QA:=uU (λW=>b0k a 0 15 true q5 W);have EY:=uU (YY (by simp [hD] at q5;omega) (by unfold tC;rw[q3];simp [hD] at q5;simp;omega));cases q6:hD b 0 bm
    ·have QB:=uU (λW=>b0k b 0 bm false q6 W);have E:=uU (show qY op a b c n=false by rw[uH EY];have e:decide (0<=b/\b<=bm)=false:=q6;rw[e];rfl);clear EY H3 YY;go_enter Tryz.func158,Tryz.ntmps158;go_wp2_with (first | (go_at_call 220;refine(QL _).mono ?_;rintro e w2 ⟨rfl,rfl⟩) | (go_at_call 221;refine(QM _).mono ?_;rintro e w2 ⟨rfl,rfl⟩) | (have _:=LQA;go_at_call 60;refine(QB _).mono ?_;rintro e w2 ⟨rfl,rfl⟩) | (go_at_call 60;refine(QA _).mono ?_;rintro e w2 ⟨rfl,rfl⟩;have LQA:=True.intro));go_ret;exact⟨by rw[uH E];rfl,(Ext.refl _).alloc _⟩
    ·have QB:=uU (λW=>b0k b 0 bm true q6 W);have QC:=uU (λW=>dK c 0 cm W);have E:=uU (show qY op a b c n=hD c 0 cm by rw[uH EY];have e:decide (0<=b/\b<=bm)=true:=q6;rw[e];rfl);clear EY H3 YY;go_enter Tryz.func158,Tryz.ntmps158;go_wp2_with (first | (go_at_call 220;refine(QL _).mono ?_;rintro e w2 ⟨rfl,rfl⟩) | (go_at_call 221;refine(QM _).mono ?_;rintro e w2 ⟨rfl,rfl⟩) | (have _:=LQB;go_at_call 60;refine(QC _).mono ?_;rintro e w2 ⟨rfl,rfl⟩) | (have _:=LQA;go_at_call 60;refine(QB _).mono ?_;rintro e w2 ⟨rfl,rfl⟩;have LQB:=True.intro) | (go_at_call 60;refine(QA _).mono ?_;rintro e w2 ⟨rfl,rfl⟩;have LQA:=True.intro));go_ret;exact⟨by rw[uH E];rfl,(Ext.refl _).alloc _⟩
theorem a1g(op a b c n:Int)(w:World):Calls Tryz.prog 158 #[yL op a b c n] w λe w'=>e=.returned (.bool (qY op a b c n))/\Ext w w':=by
 by_cases h1:op<1
 ·have E:=uU (c1o (op:=op) (a:=a) (b:=b) (c:=c) (n:=n) (.inl h1));go_enter Tryz.func158,Tryz.ntmps158;go_wp2_with fail;go_ret;exact⟨by rw[uH E];rfl,(Ext.refl _).alloc _⟩
 ·by_cases h2:op > 24
  ·have E:=uU (c1o (op:=op) (a:=a) (b:=b) (c:=c) (n:=n) (.inr (.inl h2)));go_enter Tryz.func158,Tryz.ntmps158;go_wp2_with fail;go_ret;exact⟨by rw[uH E];rfl,(Ext.refl _).alloc _⟩
  ·cases q1:(op == 2)
   ·have q1b:(op != 2)=true:=by simpa using q1
    cases q2:(n == 0)
    ·have q2b:(n != 0)=true:=by simpa using q2
     have E:=uU (c1o (op:=op) (a:=a) (b:=b) (c:=c) (n:=n) (.inr (.inr ⟨by simpa using q2,by simpa using q1⟩)));go_enter Tryz.func158,Tryz.ntmps158;go_wp2_with fail;go_ret;exact⟨by rw[uH E];rfl,(Ext.refl _).alloc _⟩
    ·exact a9t op a b c n w (by omega) (by omega) (.inl ⟨q1b,by simpa using q2⟩)
   ·exact a9t op a b c n w (by omega) (by omega) (.inr (by simpa using q1))
end Go.Proofs.YtddkhnclmeikfaaGreat
