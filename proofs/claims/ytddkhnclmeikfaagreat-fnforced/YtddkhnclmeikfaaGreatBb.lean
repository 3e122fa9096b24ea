import Derived.Test.YtddkhnclmeikfaaGreatGx
import Derived.Test.YtddkhnclmeikfaaGreatWh3
import Derived.Test.YtddkhnclmeikfaaGreatMa
namespace Go.Proofs.YtddkhnclmeikfaaGreat
open Go.RowKit
attribute [local go_sem ↓] Go.wp_at_zero Go.wp_at_succ
theorem NMk.only{S:Nat→Prop}{w w':World}{B n k:Nat}{len pb:Nat→Nat}{K:Nat→Int}(h:NMk w B n len pb K k)(e:Only S w w')(hk:k≤n)(hB:¬S B)(hp:∀q,q<n→¬S (pb q)):NMk w' B n len pb K k:=
 ⟨fun q hq=>e.keep hB (h.a q hq),fun q hq i hi=>(h.o q hq i hi).only e hB,fun q hq j hj=>(h.p q hq j hj).only e (hp q hq),fun q hq=>⟨fun i hi=>e.keep hB ((h.m q hq).1 i hi),fun j hj=>e.keep (hp q (by omega)) ((h.m q hq).2 j hj)⟩⟩
def GMd(w:World)(br nr B n:Nat)(len pb:Nat→Nat)(k0:Int):Prop:=(∀j,j<3*nr→w.cell? ⟨br,0+j,none⟩=some (iv (1+j)))∧NMk w B n len pb (Kf len k0) n
theorem GMd.ext{w w':World}{br nr B n:Nat}{len pb:Nat→Nat}{k0:Int}(h:GMd w br nr B n len pb k0)(e:Ext w w'):GMd w' br nr B n len pb k0:=⟨fun j hj=>e.keep (h.1 j hj),h.2.ext e⟩
def upd(R:Nat→Option Nat)(a:Nat)(e:Option Nat):Nat→Option Nat:=fun k=>if k=a then e else R k
theorem r_regTo(x:Hp)(a:Nat)(u:Wd)(ha:a<x.regs.length)(k:Nat):(regTo x a u).r k=if k=a then u else x.r k:=by
 unfold Hp.r regTo;simp only [List.getD_eq_getElem?_getD,List.getElem?_set];by_cases e:k=a
 ·subst e;simp [ha]
 ·rw[if_neg (fun q=>e q.symm),if_neg e]
theorem Sm.reg{x:Hp}{F:Nat→Nat}{m n:Nat}{wk:Int}{R K V:Nat→Option Nat}{U:Int}(h:Sm x F m n wk R K V U)(a:Nat)(ha:a<16)(u:Wd)(e:Option Nat)(q:Mt x F m u e)(t:Snd (regTo x a u)):Sm (regTo x a u) F m n wk (upd R a e) K V U where
 s:=t
 m0:=h.m0
 gd:=h.gd
 ij:=h.ij
 rg:=fun k hk=>by
  have mt:∀v e,Mt x F m v e→Mt (regTo x a u) F m v e:=fun v e=>by cases e <;> exact id
  rw[r_regTo x a u (by rw[h.s.n16];exact ha)];unfold upd;by_cases z:k=a
  ·rw[if_pos z,if_pos z];exact mt _ _ q
  ·rw[if_neg z,if_neg z];exact mt _ _ (h.rg k hk)
 l0:=h.l0
 wk:=h.wk
 lj:=h.lj
 ky:=fun p hp=>by have:=h.ky p hp;cases e:K p <;> rw[e] at this <;> exact this
 vl:=fun p hp=>by have:=h.vl p hp;cases e:V p <;> rw[e] at this <;> exact this
 ns:=h.ns
 per:=h.per
 rm:=h.rm
 us:=h.us
 bn:=h.bn
theorem Sm.at{x:Hp}{F:Nat→Nat}{m n:Nat}{wk:Int}{R K V:Nat→Option Nat}{U:Int}(h:Sm x F m n wk R K V U)(a:Nat)(ha:a<16)(j:Nat)(e:R a=some j):(x.r a).k=2∧x.at a=F j:=by
 have q:=h.rg a ha;rw[e] at q;obtain⟨_,_,p3,p4,p5⟩:=h.s.at a ha q.2.1;refine⟨q.2.1,?_⟩;rw[←q.2.2];unfold tgt;rw[lead_no (show(x.c (x.r a).a.toNat).st≠2 by have:(x.c (x.r a).a.toNat).st=1:=p4;omega)];rfl
theorem Sm.turn{x y:Hp}{F:Nat→Nat}{m n n':Nat}{wk wk':Int}{R K V K' V':Nat→Option Nat}{U:Int}(h:Sm x F m n wk R K V U)(t:Snd y)(hr:y.regs=x.regs)(hl:y.cells.length=x.cells.length)(hp:y.phase=x.phase)(hh:y.hand=x.hand)
  (hs:∀q,(y.c q).st=(x.c q).st∧(y.c q).to=(x.c q).to∧(y.c q).last=(x.c q).last) (hc:∀q,(x.c q).color≠0→(y.c q).color≠0) (hj:∀j,0<j→j<m→(y.c (F j)).prs.length=0)
  (hn:(y.c (F 0)).prs.length=n') (hw:(y.c (F 0)).weak=wk') (hk:∀p,p<n'→Mt x F m ((y.c (F 0)).p p).key (K' p)) (hv:∀p,p<n'→Mt x F m ((y.c (F 0)).p p).val (V' p)) (r:Rst x y):Sm y F m n' wk' R K' V' U:=by
 have tg:∀u,tgt y u=tgt x u:=fun u=>by unfold tgt lead2;rw[(hs _).1,(hs _).2.1]
 have mt:∀u e,Mt x F m u e→Mt y F m u e:=fun u e=>by
  cases e with
  | none=>exact id
  | some j=>exact fun q=>⟨q.1,q.2.1,by rw[tg];exact q.2.2⟩
 exact {
  s:=t,m0:=h.m0
  gd:=fun j b=>⟨by rw[hl];exact(h.gd j b).1,by rw[(hs _).1];exact(h.gd j b).2.1,fun d=>(h.gd j b).2.2 ⟨by rw[←hp];exact d.1,by rw[←hh];exact d.2.1,(h.gd j b).2.1,Classical.byContradiction fun z=>hc _ z d.2.2.2⟩⟩
  ij:=h.ij
  rg:=fun k b=>by have:=mt _ _ (h.rg k b);unfold Hp.r at this ⊢;rw[hr];exact this
  l0:=hn,wk:=hw,lj:=hj
  ky:=fun p b=>mt _ _ (hk p b)
  vl:=fun p b=>mt _ _ (hv p b)
  ns:=fun i sp=>h.ns i (by unfold Speaks at sp ⊢;rw[←(hs i).2.2];exact sp)
  per:=r.1.trans h.per
  rm:=r.2.1.trans h.rm
  us:=Int.le_trans r.2.2.2 h.us
  bn:=by rw[r.2.2.1];exact h.bn }
theorem Sm.weak{x:Hp}{F:Nat→Nat}{m n:Nat}{wk:Int}{R K V:Nat→Option Nat}{U:Int}(h:Sm x F m n wk R K V U)(c:Int)(t:Snd (setcH x (F 0) (weakC (x.c (F 0)) c))):Sm (setcH x (F 0) (weakC (x.c (F 0)) c)) F m n c R K V U:=by
 have g0:=h.gd 0 h.m0;have hq:∀q,(setcH x (F 0) (weakC (x.c (F 0)) c)).c q=if q=F 0 then weakC (x.c (F 0)) c else x.c q:=fun q=>Hp.c_set x (F 0) _ g0.1 q
 have c0:(setcH x (F 0) (weakC (x.c (F 0)) c)).c (F 0)=weakC (x.c (F 0)) c:=by rw[hq,if_pos rfl]
 refine h.turn t rfl (by simp [setcH]) rfl rfl (fun q=>?_) (fun q z=>?_) (fun j a b=>?_) (by rw[c0];exact h.l0) (by rw[c0];rfl) (fun p b=>by rw[c0];exact h.ky p b) (fun p b=>by rw[c0];exact h.vl p b) (Rst.refl x)
 ·rw[hq];split
  ·rename_i e;rw[e];exact⟨rfl,rfl,rfl⟩
  ·exact⟨rfl,rfl,rfl⟩
 ·rw[hq];split
  ·rename_i e;rw[e] at z;exact z
  ·exact z
 ·rw[hq,if_neg (fun e=>by have:=h.ij j 0 b h.m0 e;omega)];exact h.lj j a b
theorem Sm.put{x:Hp}{F:Nat→Nat}{m n:Nat}{wk:Int}{R K V:Nat→Option Nat}{U:Int}(h:Sm x F m n wk R K V U)(c b:Nat)(hc:c<n)(hb:b<16)(e:Option Nat)(he:R b=e)(C:Cl)(p0:Pr)(hC:C={ x.c (F 0) with prs:=(x.c (F 0)).prs.set c p0 }){K' V':Nat→Option Nat}
  (hk:(p0=⟨x.r b,((x.c (F 0)).p c).val⟩∧K'=upd K c e∧V'=V)∨(p0=⟨((x.c (F 0)).p c).key,x.r b⟩∧K'=K∧V'=upd V c e)) (t:Snd (shadeW (setcH x (F 0) C) (x.r b))):Sm (shadeW (setcH x (F 0) C) (x.r b)) F m n wk R K' V' U:=by
 have g0:=h.gd 0 h.m0;obtain⟨z,hz⟩:∃z,z=setcH x (F 0) C:=⟨_,rfl⟩;have hq:∀q,z.c q=if q=F 0 then C else x.c q:=fun q=>by rw[hz];exact Hp.c_set x (F 0) _ g0.1 q
 have zl:z.cells.length=x.cells.length:=by rw[hz];simp [setcH]
 have zs:∀q,(z.c q).st=(x.c q).st∧(z.c q).to=(x.c q).to∧(z.c q).last=(x.c q).last∧(z.c q).color=(x.c q).color∧(z.c q).weak=(x.c q).weak:=fun q=>by
  rw[hq];split
  ·rename_i e;rw[e,hC];exact⟨rfl,rfl,rfl,rfl,rfl⟩
  ·exact⟨rfl,rfl,rfl,rfl,rfl⟩
 have gb:Good1 z (x.r b):=fun hk2=>by
  obtain⟨_,_,p3,p4,_⟩:=h.s.at b hb hk2;exact⟨by rw[zl];exact p3,by rw[(zs _).1];exact p4⟩
 rw[←hz] at t ⊢;have un:=shadeW_un z (x.r b) gb;have sm:=shadeW_same z (x.r b);have c0:((shadeW z (x.r b)).c (F 0)).prs=(x.c (F 0)).prs.set c p0:=by rw[(un_parts (un (F 0))).2.2.2.2.2.2,hq,if_pos rfl,hC]
 have cp:∀p,((shadeW z (x.r b)).c (F 0)).p p=if p=c then p0 else (x.c (F 0)).p p:=fun p=>by
  unfold Cl.p;rw[c0];simp only [List.getD_eq_getElem?_getD,List.getElem?_set];by_cases q:p=c
  ·subst q;simp [h.l0,hc]
  ·rw[if_neg (fun z=>q z.symm),if_neg q]
 have zx:Rst x z:=by rw[hz];exact Rst.refl x
 refine h.turn t (by rw[sm.1,hz];rfl) (by rw[sm.2.1,zl]) (by rw[sm.2.2.1,hz];rfl) (by rw[sm.2.2.2.1,hz];rfl) (fun q=>?_) (fun q k=>shadeW_mono z _ gb q (by rw[(zs q).2.2.2.1];exact k)) (fun j a k=>?_) (by rw[c0];simp [h.l0]) ?_ (fun p k=>?_) (fun p k=>?_) (zx.trans (rst_shadeW _ _))
 ·have u:=un_parts (un q);have s:=zs q;exact⟨u.1.trans s.1,u.2.2.2.2.2.1.trans s.2.1,u.2.2.2.1.trans s.2.2.1⟩
 ·rw[(un_parts (un (F j))).2.2.2.2.2.2,hq,if_neg (fun e=>by have:=h.ij j 0 k h.m0 e;omega)];exact h.lj j a k
 ·rw[(un_parts (un (F 0))).2.2.1,(zs _).2.2.2.2];exact h.wk
 ·rw[cp];have:=h.rg b hb;rw[he] at this;rcases hk with⟨e1,e2,e3⟩ | ⟨e1,e2,e3⟩
  ·rw[e2];unfold upd;by_cases q:p=c
   ·rw[if_pos q,if_pos q,e1];exact this
   ·rw[if_neg q,if_neg q];exact h.ky p k
  ·rw[e2];by_cases q:p=c
   ·rw[if_pos q,e1,q];exact h.ky c hc
   ·rw[if_neg q];exact h.ky p k
 ·rw[cp];have:=h.rg b hb;rw[he] at this;rcases hk with⟨e1,e2,e3⟩ | ⟨e1,e2,e3⟩
  ·rw[e3];by_cases q:p=c
   ·rw[if_pos q,e1,q];exact h.vl c hc
   ·rw[if_neg q];exact h.vl p k
  ·rw[e3];unfold upd;by_cases q:p=c
   ·rw[if_pos q,if_pos q,e1];exact this
   ·rw[if_neg q,if_neg q];exact h.vl p k
theorem Sm.make{x:Hp}{F:Nat→Nat}{m n:Nat}{wk:Int}{R K V:Nat→Option Nat}{U:Int}(h:Sm x F m n wk R K V U)(a:Nat)(ha:a<16)(t:Snd (regTo (makeH x 0 0) a ⟨2,0,fstFree x⟩)):
  Sm (regTo (makeH x 0 0) a ⟨2,0,fstFree x⟩) (fun j=>if j=m then fstFree x else F j) (m+1) n wk (upd R a (some m)) K V (U+1):=by
 obtain⟨f1,f2,f3⟩:=fstFree_is x;obtain⟨f,hf⟩:∃f,f=fstFree x:=⟨_,rfl⟩;obtain⟨y,hy⟩:∃y,y=regTo (makeH x 0 0) a ⟨2,0,fstFree x⟩:=⟨_,rfl⟩;have hc:∀q,y.c q=if q=f then newC (x.born+1) 0 0 (newCol x f) else x.c q:=fun q=>by rw[hy,hf];exact newCs_c x (regTo (makeH x 0 0) a ⟨2,0,fstFree x⟩) (fstFree x) _ (by omega) rfl q
 have yl:y.cells.length=if f<x.cells.length then x.cells.length else x.cells.length+1:=by rw[hy,hf];exact newCs_len x _ _
 have st0:(x.c f).st≠1:=by
  rcases Nat.lt_or_ge f x.cells.length with l | l
  ·have:=f3 (by omega);rw[hf];omega
  ·rw[Hp.c_out l];simp [Cl0]
 have ne:∀j,j<m→F j≠f:=fun j b e=>st0 (e ▸ (h.gd j b).2.1)
 have yp:y.phase=x.phase:=by rw[hy];rfl
 have yh:y.hand=x.hand:=by rw[hy];rfl
 have nf:f≤x.cells.length:=by omega
 have tg:∀u,MayMark x u→u.k=2→tgt y u=tgt x u:=fun u mu hk=>by
  have gs:=(mu hk).2.2.2.2.2.1
  have n:u.a.toNat≠f:=fun e=>by
   unfold tgt lead2 at gs;rw[e] at gs
   split at gs
   ·rename_i s2;have:(x.c f).st=2:=by simpa using s2
    rcases Nat.lt_or_ge f x.cells.length with l | l
    ·have:=f3 (by omega);rw[←hf] at this;omega
    ·rw[Hp.c_out l] at this;simp [Cl0] at this
   ·exact st0 gs
  unfold tgt lead2;rw[hc,if_neg n]
 have mt:∀u e,MayMark x u→Mt x F m u e→Mt y (fun j=>if j=m then f else F j) (m+1) u e:=fun u e mu q=>by
  cases e with
  | none=>exact q
  | some j=>exact⟨by have:=q.1;omega,q.2.1,by rw[tg u mu q.2.1,q.2.2];show F j=if j=m then f else F j;rw[if_neg (by have:=q.1;omega)]⟩
 have z0:(if (0:Nat)=m then f else F 0)=F 0:=if_neg (by have:=h.m0;omega);have c0:y.c (F 0)=x.c (F 0):=by rw[hc,if_neg (ne 0 h.m0)]
 have cf:y.c f=newC (x.born+1) 0 0 (newCol x f):=by rw[hc,if_pos rfl]
 have mk:=fun p (hp:p<n)=>may_pair h.s.r2 h.s.r4 (F 0) p (h.gd 0 h.m0) (by rw[h.l0];exact hp)
 rw[←hf] at hy t ⊢;rw[←hy] at t ⊢
 exact {
  s:=t,m0:=by omega
  gd:=fun j b=>by
   by_cases e:j=m
   ·rw[if_pos e];refine⟨by rw[yl];split <;> omega,by rw[cf];rfl,fun d=>?_⟩;have d4:=d.2.2.2;rw[cf] at d4;have d1:=d.1;have d2:=d.2.1;rw[yp] at d1;rw[yh] at d2;have:newCol x f=0:=d4;unfold newCol at this;rw[if_pos (.inr (.inr ⟨d1,d2⟩))] at this;omega
   ·rw[if_neg e];have g:=h.gd j (by omega);have e2:y.c (F j)=x.c (F j):=by rw[hc,if_neg (ne j (by omega))]
    refine⟨by have:=g.1;rw[yl];split <;> omega,by rw[e2];exact g.2.1,fun d=>g.2.2 ⟨by rw[←yp];exact d.1,by rw[←yh];exact d.2.1,g.2.1,by rw[←e2];exact d.2.2.2⟩⟩
  ij:=fun i j bi bj e=>by
   by_cases a1:i=m
   ·by_cases a2:j=m
    ·omega
    ·rw[if_pos a1,if_neg a2] at e;exact(ne j (by omega) e.symm).elim
   ·by_cases a2:j=m
    ·rw[if_neg a1,if_pos a2] at e;exact(ne i (by omega) e).elim
    ·rw[if_neg a1,if_neg a2] at e;exact h.ij i j (by omega) (by omega) e
  rg:=fun k hk=>by
   have e:y.r k=if k=a then ⟨2,0,f⟩ else x.r k:=by rw[hy];exact r_regTo (makeH x 0 0) a _ (by show a<x.regs.length;rw[h.s.n16];exact ha) k
   rw[e];unfold upd;by_cases q:k=a
   ·rw[if_pos q,if_pos q];refine⟨by omega,rfl,?_⟩;show lead2 y ((f:Int).toNat)=_;show _=if m=m then f else F m
    rw[if_pos rfl,Int.toNat_natCast,lead_no (by rw[cf];show(1:Int)≠2;omega)]
   ·rw[if_neg q,if_neg q];have l:k<x.regs.length:=by rw[h.s.n16];exact hk
    exact mt _ _ (by rw[←Hp.r_eq x k l];exact may_reg h.s.r2 h.s.r4 k l) (h.rg k hk)
  l0:=by rw[z0,c0];exact h.l0
  wk:=by rw[z0,c0];exact h.wk
  lj:=fun j b1 b2=>by
   by_cases e:j=m
   ·rw[if_pos e,cf];rfl
   ·rw[if_neg e,hc,if_neg (ne j (by omega))];exact h.lj j b1 (by omega)
  ky:=fun p hp=>by rw[z0,c0];exact mt _ _ (mk p hp).1 (h.ky p hp)
  vl:=fun p hp=>by rw[z0,c0];exact mt _ _ (mk p hp).2 (h.vl p hp)
  ns:=fun i sp=>by
   rw[hc] at sp
   split at sp
   ·unfold Speaks newC at sp;rcases sp with e | e <;> simp at e
   ·exact h.ns i sp
  per:=by rw[hy];exact h.per
  rm:=by rw[hy];exact h.rm
  us:=by have:=h.us;rw[hy];show x.used+(1+((0:Nat):Int))≤U+1;omega
  bn:=by have:=h.bn;rw[hy];show x.born+1≤U+1;omega }
theorem prs200{x:Hp}(r2:R2 x)(i:Nat)(hi:i<x.cells.length):(x.c i).prs.length≤200:=by
 rcases r2.1 i hi with c | c | c
 ·have:=c.2.1.2.2.2.2.2;omega
 ·have:=c.2.1.2.2.2.2.2;omega
 ·exact c.2.2.2.2.2.2.2
theorem Sm.first(n:Nat)(t:Snd (regTo (makeH (frH 1000) 0 n) 0 ⟨2,0,fstFree (frH 1000)⟩)):
  Sm (regTo (makeH (frH 1000) 0 n) 0 ⟨2,0,fstFree (frH 1000)⟩) (fun _=>0) 1 n 0 (upd (fun _=>none) 0 (some 0)) (fun _=>none) (fun _=>none) (n+1):=by
 have f0:fstFree (frH 1000)=0:=rfl;rw[f0] at t ⊢;obtain⟨y,hy⟩:∃y,y=regTo (makeH (frH 1000) 0 n) 0 ⟨2,0,((0:Nat):Int)⟩:=⟨_,rfl⟩;have yc:y.cells=[newC 1 0 n 0]:=by rw[hy];rfl
 have c0:y.c 0=newC 1 0 n 0:=by unfold Hp.c;rw[yc];rfl
 have yr:∀k,k<16→y.r k=if k=0 then ⟨2,0,0⟩ else Wd0:=fun k hk=>by
  rw[hy,r_regTo _ 0 _ (by simp [makeH,frH])]
  split
  ·rfl
  ·unfold Hp.r
   have e:∀m,(List.replicate m Wd0).getD k Wd0=Wd0:=fun m=>by
    simp only [List.getD_eq_getElem?_getD,List.getElem?_replicate]
    split <;> rfl
   exact e 16
 have yp:y.phase=0:=by rw[hy];rfl
 have e1:y.per=0∧y.room=1000∧y.used=0+(1+(n:Int))∧y.born=0+1:=by rw[hy];exact⟨rfl,rfl,rfl,rfl⟩
 rw[←hy] at t ⊢
 have pn:∀p,p<n→(y.c 0).p p=Pr0:=fun p hp=>by
  rw[c0];unfold Cl.p newC;simp [List.getD_eq_getElem?_getD,hp]
 exact {
  s:=t,m0:=by omega
  gd:=fun j _=>⟨by rw[yc];simp,by rw[c0];rfl,fun d=>by have:=d.1;omega⟩
  ij:=fun i j a b _=>by omega
  rg:=fun k hk=>by
   rw[yr k hk];unfold upd
   split
   ·refine⟨by omega,rfl,?_⟩;show lead2 y (0:Int).toNat=0;exact lead_no (by show(y.c 0).st≠2;rw[c0];show(1:Int)≠2;omega)
   ·show(0:Int)≠2;omega
  l0:=by rw[c0];simp [newC]
  wk:=by rw[c0];rfl
  lj:=fun j a b=>by omega
  ky:=fun p hp=>by rw[pn p hp];show(0:Int)≠2;omega
  vl:=fun p hp=>by rw[pn p hp];show(0:Int)≠2;omega
  ns:=not_speaks t fun i g sp=>by
   have:=g.1;rw[yc] at this;have e:i=0:=by simpa using this
   rw[e,c0] at sp;unfold Speaks newC at sp;rcases sp with e | e <;> simp at e
  per:=e1.1,rm:=e1.2.1,us:=by omega,bn:=by omega }
theorem S0_img(W F:Nat→Nat)(N:Nat):∀(m:Nat) (p:Nat→Bool),(∀j,j<m→F j<N)→(∀i j,i<m→j<m→F i=F j→i=j)→(∀i,p i=true↔∃j,j<m∧i=F j)→S0 (fun i=>if p i=true then W i else 0) N=S0 (fun j=>W (F j)) m
 | 0,p,_,_,hp=>by
  have:∀i,i<N→(if p i=true then W i else 0)=(fun _=>0) i:=fun i _=>if_neg (fun h=>by obtain⟨j,hj,_⟩:=(hp i).1 h;omega)
  rw[S0_congr N this,S0_zero];rfl
 | m+1,p,hF,hi,hp=>by
  classical
  have ih:=S0_img W F N m (fun i=>decide (∃j,j<m∧i=F j)) (fun j h=>hF j (by omega)) (fun i j a b=>hi i j (by omega) (by omega)) (fun i=>by simp)
  have e:∀i,i<N→(if p i=true then W i else 0)=(fun i=>(if decide (∃j,j<m∧i=F j)=true then W i else 0)+(if i=F m then W i else 0)) i:=fun i _=>by
   by_cases a:i=F m
   ·have n:¬∃j,j<m∧i=F j:=fun⟨j,hj,q⟩=>by have:=hi j m (by omega) (by omega) (q.symm.trans a);omega
    show _=(if decide (∃j,j<m∧i=F j)=true then W i else 0)+(if i=F m then W i else 0);rw[if_pos ((hp i).2 ⟨m,by omega,a⟩),if_pos a,decide_eq_false n];simp
   ·by_cases b:∃j,j<m∧i=F j
    ·obtain⟨j,hj,q⟩:=b;rw[if_pos ((hp i).2 ⟨j,by omega,q⟩)];have b:∃j,j<m∧i=F j:=⟨j,hj,q⟩;show _=(if decide (∃j,j<m∧i=F j)=true then W i else 0)+(if i=F m then W i else 0);rw[if_neg a,decide_eq_true b];simp
    ·rw[if_neg (fun h=>by
      obtain⟨j,hj,q⟩:=(hp i).1 h;by_cases c:j=m
      ·subst c;exact a q
      ·exact b ⟨j,by omega,q⟩)]
     show _=(if decide (∃j,j<m∧i=F j)=true then W i else 0)+(if i=F m then W i else 0);rw[if_neg a,decide_eq_false b];simp
  rw[S0_congr N e,S0_add,ih,S0_point,if_pos (hF m (by omega))];rfl
theorem Sm.sum{x:Hp}{F:Nat→Nat}{m n:Nat}{wk:Int}{R K V:Nat→Option Nat}{U:Int}(h:Sm x F m n wk R K V U){P:Nat→Prop}{nm:Int}(q:Nat)(hq:q+1≤m)(hP:∀i,P i↔∃j,j<q+1∧i=F j)(s:SumIs x P nm):nm=q+1+n:=by
 obtain⟨p,hp,rfl⟩:=s;rw[S0_sum,S0_img (fun i=>1+(x.c i).prs.length) F x.cells.length (q+1) p (fun j hj=>(h.gd j (by omega)).1) (fun i j a b=>h.ij i j (by omega) (by omega)) (fun i=>(hp i).trans (hP i))]
 have key:∀k,k≤q→S0 (fun j=>1+(x.c (F j)).prs.length) (k+1)=k+1+n:=fun k=>by
  induction k with
  | zero=>intro _;simp [S0,h.l0]
  | succ k ih=>intro hk;unfold S0;rw[ih (by omega),h.lj (k+1) (by omega) (by omega)];omega
 rw[key q (Nat.le_refl _)];omega
theorem Sm.held{x:Hp}{F:Nat→Nat}{n:Nat}{R K V:Nat→Option Nat}{U:Int}(h:Sm x F (n+2) n 1 R K V U)(r0:R 0=some 0)(r3:R 3=some 1)(hK:∀p,p<n→K p=some (p+1))(hV:∀p,p<n→V p=some (p+2)):∀j,j<n+2→Held x (F j):=by
 have reg:∀k j,k<16→R k=some j→Held x (F j):=fun k j hk e=>by
  have a:k<x.regs.length:=by rw[h.s.n16];exact hk
  have q:=h.rg k hk;rw[e] at q;rw[←q.2.2,←Hp.r_eq x k a];exact Held.reg k a (by rw[Hp.r_eq x k a];exact q.2.1)
 have h0:=reg 0 0 (by omega) r0
 have key:∀j,j<n+1→Held x (F (j+1)):=fun j=>by
  induction j with
  | zero=>intro _;exact reg 3 1 (by omega) r3
  | succ j ih=>
   intro hj;have q:=h.vl j (by omega);have k:=h.ky j (by omega);rw[hV j (by omega)] at q;rw[hK j (by omega)] at k;rw[←q.2.2];exact Held.val _ j h0 (by rw[h.l0];omega) ⟨by rw[h.wk];omega,by rw[h.wk];omega⟩ (fun _=>by rw[k.2.2];exact ih (by omega)) q.2.1
 intro j hj;by_cases e:j=0
 ·rw[e];exact h0
 ·have:=key (j-1) (by omega);rw[show j-1+1=j by omega] at this;exact this
theorem Sm.heldOne{x:Hp}{F:Nat→Nat}{m n:Nat}{R K V:Nat→Option Nat}{U:Int}(h:Sm x F m n 1 R K V U)(r0:R 0=some 0)(hR:∀k,k≠0→R k=none)(hK:∀p,p<n→K p=some (p+1))(i:Nat):Held x i↔i=F 0:=by
 constructor
 ·intro hh;refine hh (fun i=>i=F 0) (fun k hk e=>?_) (fun i hi e=>(h.ns i (.inr e)).elim) (fun j p hj hp sk _=>?_) (fun j p hj hp _ kk e=>?_)
  ·rw[Hp.r_eq x k hk] at e ⊢;have q:=h.rg k (by rw[←h.s.n16];exact hk);by_cases z:k=0
   ·rw[z,r0] at q;rw[z];exact q.2.2
   ·rw[hR k z] at q;exact(q e).elim
  ·rw[hj] at sk;exact(sk.1 h.wk).elim
  ·subst hj;rw[h.l0] at hp;have k:=h.ky p hp;rw[hK p hp] at k;have:=kk k.2.1;rw[k.2.2] at this;have:=h.ij (p+1) 0 k.1 h.m0 this;omega
 ·rintro rfl;have a:0<x.regs.length:=by rw[h.s.n16];omega
  have q:=h.rg 0 (by omega);rw[r0] at q;rw[←q.2.2,←Hp.r_eq x 0 a];exact Held.reg 0 a (by rw[Hp.r_eq x 0 a];exact q.2.1)
theorem due_none{x:Hp}(ns:∀i,¬Speaks (x.c i))(H:Nat→Bool):∀k,dueN x H k=0
 | 0=>rfl
 | k+1=>by
  unfold dueN;rw[if_neg (fun e=>ns k (.inl (by unfold dueB at e;rw[Bool.and_eq_true] at e;simpa using e.2)))];exact due_none ns H k
theorem rst_settle(x:Hp)(H:Nat→Bool):Rst x (settleH x H):=by
 have r:=(dueTo_rest x (cutTo x H x.cells.length) H x.cells.length).1;have c:=cutTo_rest x H x.cells.length;exact⟨r.2.2.2.2.2.2.1.trans c.2.2.2.2.2.2.1,r.1.trans c.1,r.2.1.trans c.2.1,by rw[settle_used];omega⟩
theorem Sm.settle{x:Hp}{F:Nat→Nat}{m n n':Nat}{wk:Int}{R K V K' V':Nat→Option Nat}{U:Int}(h:Sm x F m n wk R K V U)(H:Nat→Bool)(h0:H (F 0)=true)(t:Snd (settleH x H))(hn:(stay x H (x.c (F 0)) (x.c (F 0)).prs).length=n')
  (hk:∀p,p<n'→Mt x F m ((letC x H (x.c (F 0))).p p).key (K' p)) (hv:∀p,p<n'→Mt x F m ((letC x H (x.c (F 0))).p p).val (V' p)):Sm (settleH x H) F m n' wk R K' V' U:=by
 have r:=(dueTo_rest x (cutTo x H x.cells.length) H x.cells.length).1;have c:=cutTo_rest x H x.cells.length
 have hc:∀q,(settleH x H).c q=if H q=true∧q<x.cells.length then letC x H (x.c q) else x.c q:=fun q=>by
  rcases Nat.lt_or_ge q x.cells.length with l | l
  ·rw[settle_c x H q l];unfold stlC;by_cases e:H q=true
   ·rw[if_pos e,if_pos ⟨e,l⟩]
   ·rw[if_neg e,if_neg (fun z=>h.ns q (.inl z)),if_neg (fun z=>e z.1)]
  ·rw[Hp.c_out (by rw[settle_len];exact l),if_neg (by omega),Hp.c_out l]
 have c0:(settleH x H).c (F 0)=letC x H (x.c (F 0)):=by rw[hc,if_pos ⟨h0,(h.gd 0 h.m0).1⟩]
 refine h.turn t (settle_regs x H) (settle_len x H) (r.2.2.2.1.trans c.2.2.2.1) (r.2.2.2.2.1.trans c.2.2.2.2.1) (fun q=>?_) (fun q z=>?_) (fun j a b=>?_) (by rw[c0];exact hn) (by rw[c0];exact h.wk) (fun p b=>by rw[c0];exact hk p b) (fun p b=>by rw[c0];exact hv p b) (rst_settle x H)
 ·rw[hc];split <;> exact⟨rfl,rfl,rfl⟩
 ·rw[hc];split <;> exact z
 ·have e:=h.lj j a b;rw[hc];split
  ·show(stay x H (x.c (F j)) (x.c (F j)).prs).length=0;have:=stay_goes x H (x.c (F j)) (x.c (F j)).prs;omega
  ·exact e
theorem res_tgt(x:Hp)(u:Wd):(resW x u).k=u.k∧(u.k=2→(resW x u).a.toNat=tgt x u):=by
 unfold resW
 split
 ·rename_i e;exact⟨e.1.symm,fun _=>(lead_yes e.2).symm⟩
 ·rename_i e;exact⟨rfl,fun k=>(lead_no (fun z=>e ⟨k,z⟩)).symm⟩
theorem Sm.goes{x:Hp}{F:Nat→Nat}{m n:Nat}{R K V:Nat→Option Nat}{U:Int}(h:Sm x F m n 1 R K V U)(H:Nat→Bool)(hK:∀p,p<n→K p=some (p+1))(b:Bool)(hH:∀p,p<n→H (F (p+1))=b):stay x H (x.c (F 0)) (x.c (F 0)).prs=if b then (x.c (F 0)).prs else []:=by
 have key:∀q,q∈(x.c (F 0)).prs→(!goB x H (x.c (F 0)) q)=b:=fun q hq=>by
  obtain⟨p,hp,e⟩:=List.getElem_of_mem hq;have e2:(x.c (F 0)).p p=q:=by unfold Cl.p;rw[←e];simp [List.getD_eq_getElem?_getD,hp]
  rw[h.l0] at hp;have k:=h.ky p hp;rw[hK p hp,e2] at k;have r:=res_tgt x q.key;unfold goB wkB wvB lostB;rw[h.wk,r.1,r.2 k.2.1,k.2.1,k.2.2,hH p hp];cases b <;> rfl
 unfold stay;cases b
 ·rw[List.filter_eq_nil_iff.2 (fun q hq=>by rw[key q hq];simp)];rfl
 ·rw[List.filter_eq_self.2 (fun q hq=>key q hq)];rfl
theorem Sm.one{x:Hp}{F:Nat→Nat}{m:Nat}{wk:Int}{R K V:Nat→Option Nat}{U:Int}(h:Sm x F m 0 wk R K V U)(hR:∀k j,R k=some j→j=0):Sm x F 1 0 wk R K V U:=
 { h with
  m0:=by omega
  gd:=fun j _=>h.gd j (by have:=h.m0;omega)
  ij:=fun i j _ _ _=>by omega
  rg:=fun k hk=>by
   have q:=h.rg k hk;cases e:R k with
   | none=>rw[e] at q;exact q
   | some j=>rw[e] at q;have:=hR k j e;exact⟨by omega,q.2⟩
  lj:=fun j a b=>by omega
  ky:=fun p hp=>by omega
  vl:=fun p hp=>by omega }
theorem open_only{S:Nat→Prop}{w w':World}{b o:Nat}(h:Open w b o)(k:Only S w w')(hs:¬S b):Open w' b o:=by
 obtain⟨⟨v,hv⟩,hf⟩:=h;exact⟨⟨v,k.keep hs hv⟩,by rw[k.frozen (cell_lt hv) hs];exact hf⟩
def Kc(len:Nat→Nat)(k0:Int):Nat→Int
 | 0=>k0
 | q+1=>Kc len k0 q+7+6*(len q:Int)
structure CMk(w:World)(B n:Nat)(len pb:Nat→Nat)(pa:Nat→Option Addr)(pk:Nat→Nat)(K:Nat→Int)(k:Nat):Prop where
 a:∀q,q<n→w.cell? ⟨B,q*8+7,none⟩=some (.slice (pa q) (len q) (pk q))
 l:∀q,q<n→0<len q→pa q=some ⟨pb q,0,none⟩
 o:∀q,q<n→∀i,i<7→Open w B (q*8+i)
 p:∀q,q<n→∀j,j<6*len q→Open w (pb q) (0+j)
 m:∀q,q<k→(∀i,i<7→w.cell? ⟨B,q*8+i,none⟩=some (iv (K q+i)))∧∀j,j<6*len q→w.cell? ⟨pb q,0+j,none⟩=some (iv (K q+7+j))
theorem CMk.ext{w w':World}{B n k:Nat}{len pb:Nat→Nat}{pa:Nat→Option Addr}{pk:Nat→Nat}{K:Nat→Int}(h:CMk w B n len pb pa pk K k)(e:Ext w w'):CMk w' B n len pb pa pk K k:=
 ⟨fun q hq=>e.keep (h.a q hq),h.l,fun q hq i hi=>(h.o q hq i hi).ext e,fun q hq j hj=>(h.p q hq j hj).ext e,fun q hq=>⟨fun i hi=>e.keep ((h.m q hq).1 i hi),fun j hj=>e.keep ((h.m q hq).2 j hj)⟩⟩
theorem CMk.only{S:Nat→Prop}{w w':World}{B n k:Nat}{len pb:Nat→Nat}{pa:Nat→Option Addr}{pk:Nat→Nat}{K:Nat→Int}(h:CMk w B n len pb pa pk K k)(e:Only S w w')(hk:k≤n)(hB:¬S B)(hp:∀q,q<n→0<len q→¬S (pb q)):CMk w' B n len pb pa pk K k:=
 ⟨fun q hq=>e.keep hB (h.a q hq),h.l,fun q hq i hi=>open_only (h.o q hq i hi) e hB,fun q hq j hj=>open_only (h.p q hq j hj) e (hp q hq (by omega)),fun q hq=>⟨fun i hi=>e.keep hB ((h.m q hq).1 i hi),fun j hj=>e.keep (hp q (by omega) (by omega)) ((h.m q hq).2 j hj)⟩⟩
theorem set_np(x:Hp)(j:Nat)(c:Cl)(hc:c.prs.length=(x.c j).prs.length)(q:Nat):(({ x with cells:=x.cells.set j c }:Hp).c q).prs.length=(x.c q).prs.length:=by
 by_cases hj:j<x.cells.length
 ·rw[Hp.c_set x j c hj q]
  split
  ·rename_i e;rw[e];exact hc
  ·rfl
 ·have e:x.cells.set j c=x.cells:=List.set_eq_of_length_le (by omega);rw[e]
theorem shadeH_np(x:Hp)(j q:Nat):((shadeH x j).c q).prs.length=(x.c q).prs.length:=by
 unfold shadeH
 split
 ·exact set_np x j (grayC (x.c j)) rfl q
 ·rfl
theorem shadeW_np(x:Hp)(y:Wd)(q:Nat):((shadeW x y).c q).prs.length=(x.c q).prs.length:=by
 unfold shadeW
 split
 ·exact shadeH_np x _ q
 ·rfl
theorem fold_np(q:Nat):∀(ys:List Wd) (z:Hp),((ys.foldl shadeW z).c q).prs.length=(z.c q).prs.length
 | [],_=>rfl
 | y::ys,z=>(fold_np q ys (shadeW z y)).trans (shadeW_np z y q)
theorem uprs1(x:Hp)(q:Nat):((unit1 x).c q).prs.length=(x.c q).prs.length:=by
 unfold unit1
 split
 ·rfl
 ·by_cases e:spkB (x.c x.hand.toNat)=true
  ·simp only [if_pos e];exact shadeH_np x _ q
  ·simp only [if_neg e];rfl
theorem uprs2(x:Hp)(q:Nat):((unit2 x).c q).prs.length=(x.c q).prs.length:=by
 unfold unit2
 split
 ·rename_i g G _
  split
  ·exact(shadeW_np _ _ q).trans (shadeW_np _ _ q)
  ·exact set_np x g.toNat (blackC (x.c g.toNat)) rfl q
 ·split
  ·exact fold_np q x.regs x
  ·exact fold_np q x.regs x
theorem uprs5(x:Hp)(q:Nat):((unit5 x).c q).prs.length=(x.c q).prs.length:=by
 unfold unit5
 split
 ·rfl
 ·split
  ·exact set_np x x.hand.toNat (mendC x (x.c x.hand.toNat) x.sub.toNat) (by simp [mendC]) q
  ·rfl
theorem take_at{α:Type}(l:List α)(m q:Nat)(d:α)(h:q<m):(l.take m).getD q d=l.getD q d:=by simp [h]
theorem uprs3(x:Hp)(s:Snd x)(hp:x.phase=3)(q:Nat)(hq:q<x.cells.length)(s1:(x.c q).st=1)(nd:¬Doomed x q):((unit3 x).c q).prs.length=(x.c q).prs.length:=by
 have hh:=s.r1.hand;unfold unit3
 split
 ·rfl
 ·have hl:x.hand.toNat<x.cells.length:=by omega
  split
  ·rename_i e;show((({ x with cells:=x.cells.set x.hand.toNat Cl0 }:Hp)).c q).prs.length=_;rw[Hp.c_set x _ _ hl q]
   split
   ·rename_i eq;refine absurd (show Doomed x q from⟨hp,by omega,s1,?_⟩) nd;rw[eq];unfold whB at e;simp at e;exact e.2
   ·rfl
  ·exact set_np x x.hand.toNat (whiteC (x.c x.hand.toNat)) rfl q
theorem uprs6(x:Hp)(s:Snd x)(q:Nat)(hq:q<x.cells.length)(s1:(x.c q).st=1):((unit6 x).c q).prs.length=(x.c q).prs.length:=by
 have hh:=s.r1.hand;unfold unit6
 split
 ·rfl
 ·have e:∀i,i<x.cells.length→((shutH x i).c q)=x.c q:=fun i hi=>by
   unfold shutH
   split
   ·rename_i e2;show((({ x with cells:=x.cells.set i Cl0 }:Hp)).c q)=_;rw[Hp.c_set x _ _ hi q,if_neg (fun u=>by rw[u] at s1;omega)]
   ·rfl
  have el:=e (x.hand-1).toNat (by omega);unfold dropH
  split
  ·rename_i d
   have ne:q≠(x.hand-1).toNat:=fun u=>by
    have:=d.2;rw[←u,e _ hq] at this
    all_goals omega
   have ql:q<(x.hand-1).toNat:=by
    have l:(shutH x (x.hand-1).toNat).cells.length=x.cells.length:=by unfold shutH;split <;> simp
    have:=d.1;omega
   rw[←el];show(((shutH x (x.hand-1).toNat).cells.take (x.hand-1).toNat).getD q Cl0).prs.length=_;rw[take_at _ _ _ _ ql];rfl
  ·rw[el]
end Go.Proofs.YtddkhnclmeikfaaGreat
