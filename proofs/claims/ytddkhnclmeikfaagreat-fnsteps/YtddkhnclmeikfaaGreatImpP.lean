import Derived.Test.YtddkhnclmeikfaaGreatSc
set_option maxRecDepth 100000
set_option maxHeartbeats 4000000
namespace Go.Proofs.YtddkhnclmeikfaaGreat
open Go.RowKit
attribute [local go_sem ↓] Go.wp_at_zero Go.wp_at_succ
variable{x z:Hp}{F L1 L2 F':List Int}{K:List Nat}{w w' wr:World}{ar:Option Addr}{kr kn B b br bn hd C k:Nat}{vf v4 v8 vk v1 v2:Value}{cB cO pb pk role:Nat->Nat}{pa:Nat->Option Addr}
def zV(p:Int)(b:Nat):Value:=if p=1 then .iface 233 (.agg #[.pointer (some ⟨b,0,none⟩)]) else if p=2 then .iface 234 (.agg #[.pointer (some ⟨b,0,none⟩)]) else if p=3 then .iface 235 (.agg #[.pointer (some ⟨b,0,none⟩)]) else if p=4 then .iface 236 (.agg #[.pointer (some ⟨b,0,none⟩)]) else if p=5 then .iface 237 (.agg #[.pointer (some ⟨b,0,none⟩)]) else if p=6 then .iface 238 (.agg #[.pointer (some ⟨b,0,none⟩)]) else .nilIface
theorem b1b(p:Int)(b:Nat)(w:World)(c5:w.cell? ⟨b,5,none⟩=some (iv p))(hp:0<=p/\p<=6):
  Calls Tryz.prog 213 #[.pointer (some ⟨b,0,none⟩)] w λe w'=>e=.returned (zV p b)/\w'=w:=by
 have h:p=0\/p=1\/p=2\/p=3\/p=4\/p=5\/p=6:=by omega
 clear hp;rcases h with rfl | rfl | rfl | rfl | rfl | rfl | rfl
 all_goals
  go_enter Tryz.func213,Tryz.ntmps213;go_wp2_with fail;go_ret;exact⟨rfl,rfl⟩
theorem a6k(hd:Int)(b n kn:Nat)(an:Option Addr)(w:World)(c6:w.cell? ⟨b,6,none⟩=some (iv hd))(c13:w.cell? ⟨b,13,none⟩=some (.slice an n kn))(h:(hd == (n:Int))=true):
  Calls Tryz.prog 236 #[.pointer (some ⟨b,0,none⟩)] w λe w'=>e=.returned (.pointer none)/\Ext w w':=by
 go_enter Tryz.func236,Tryz.ntmps236;go_wp2_with fail;go_quiet (fail);go_wp2_with fail;go_ret;exact⟨rfl,(Ext.refl _).drewN _⟩
theorem a1k(b n kn bn i:Nat)(w:World)(c6:w.cell? ⟨b,6,none⟩=some (iv i))(c13:w.cell? ⟨b,13,none⟩=some (.slice (some ⟨bn,0,none⟩) n kn))(hi:i<n):
  Calls Tryz.prog 236 #[.pointer (some ⟨b,0,none⟩)] w λe w'=>e=.returned (ndp bn i)/\Ext w w':=by
 have h:((i:Int) == (n:Int))=false:=by simp;omega
 have i0:(0:Int)<=(i:Int):=by omega
 have i1:(i:Int)<(n:Int):=by omega
 go_enter Tryz.func236,Tryz.ntmps236;go_wp2_with fail;go_quiet (fail);obtain⟨m1,rfl⟩:∃m,m=nq:=⟨_,rfl⟩;go_wp2_with fail;go_quiet (fail);go_wp2_with fail;go_ret;exact⟨rfl,((Ext.refl _).drewN _).drewN _⟩
theorem SAt.boxed[Inhabited uN]{x':Hp}(h:SAt B w b x ar kr v4 v8 br cB cO bn pb pa pk kn hd vf F vk K role)(o:uX (λq=>q=b) w w')(nf:Nf1 b w')(hr:x'.regs=x.regs)(hc:x'.cells=x.cells)(hg:x'.gray=x.gray)(bx:dW w' b x' (.slice ar x.regs.length kr) v4 v8)(c:∀k,13<=k->w'.cell? ⟨b,k,none⟩=w.cell? ⟨b,k,none⟩):
  SAt B w' b x' ar kr v4 v8 br cB cO bn pb pa pk kn hd vf F vk K role:=by
 have far:∀q,q<w.heap.size->role q≠0->w'.heap[q]?=w.heap[q]?:=λq hq hn=>o.block q hq (λe=>hn (by rw[e];exact h.sp.b))
 have fn:=far bn h.sb.lo.2.2.1 (by rw[h.sp.n];omega);have cc:∀q,x'.c q=x.c q:=λq=>by simp only [Hp.c,hc]
 have rw2:=h.rw.same o.size (λhl=>far br (h.rw.nr hl).1.1 (by rw[h.sp.r hl];omega)) (λq hq=>far (cB q) (h.rw.nc q hq).1.1 (by rw[h.sp.c q hq];omega)) (λq hq hl=>far (pb q) (h.rw.pl q hq hl).2.1.1 (by rw[h.sp.p q hq hl];omega));refine⟨⟨by rw[hr];exact bx,by rw[hr];exact h.sb.ha,by rw[hc];exact(c 13 (by omega)).trans h.sb.n13,λk hk=>?_,⟨(c 14 (by omega)).trans h.sb.fr.hd,nf.2 14,uQ h.sb.fr.own (λq hq=>far q (h.sb.fr.own.lt q hq).2 (by rw[h.sp.f q hq];omega)),h.sb.fr.apart⟩,?_,(c 4017 (by omega)).trans h.sb.k0,uQ h.sb.kp (λq hq=>far q (h.sb.kp.lt q hq).2 (by rw[h.sp.k q hq];omega)),nf,⟨h.sb.lo.1,h.sb.lo.2.1,h.sb.lo.2.2.of fn o.size⟩⟩,?_,?_,h.pr.of (λq hq h1=>far q hq (by rw[h1];omega)) (λ_ _ h=>h)⟩
 ·rw[hc] at hk;exact⟨(World.cell?_of_block (a:=⟨bn,_,none⟩) fn).trans (h.sb.nd k hk).1,(World.cell?_of_block (a:=⟨bn,_,none⟩) fn).trans (h.sb.nd k hk).2⟩
 ·rw[hg];exact h.sb.rg.of λo h1 _=>c o (by omega)
 ·refine⟨λi hi=>?_,λq hq=>?_,λq hq=>?_,λq hq k hk=>?_,λq hq hl=>?_,?_,?_,?_,λq q' hq hq' hne h1 h2=>?_,λq q' hq hq' hne=>?_,λq hq=>?_⟩
  ·have hi2:i<x.regs.length:=by rw[<-hr];exact hi
   have e2:x'.regs[i]=x.regs[i]:=by simp [hr]
   rw[e2];exact rw2.r i hi2
  ·rw[hc] at hq;rw[cc];exact rw2.s q hq
  ·rw[hc] at hq;rw[cc];exact rw2.p7 q hq
  ·rw[hc] at hq;rw[cc] at hk ⊢;exact rw2.p q hq k hk
  ·rw[hc] at hq ⊢;exact rw2.pl q hq hl
  ·rw[hr];exact rw2.nr
  ·rw[hc];exact rw2.nc
  ·rw[hc];exact rw2.d
  ·rw[hc] at hq hq';exact rw2.dp q q' hq hq' hne h1 h2
  ·rw[hc] at hq hq';exact rw2.dc q q' hq hq' hne
  ·rw[hc] at hq;rw[cc];exact rw2.kp q hq
 ·refine⟨h.sp.b,h.sp.n,by rw[hr];exact h.sp.r,by rw[hc];exact h.sp.c,h.sp.f,h.sp.k,λq hq hl=>?_⟩;rw[hc] at hq;exact h.sp.p q hq hl
def yN(x:Hp):Nat:=if x.phase=1\/x.phase=2 then 16000 else if x.phase=3 then 8000+(x.cells.length-x.hand.toNat) else if x.phase=4\/x.phase=5 then 8000 else if x.phase=6 then x.hand.toNat else 0
def KOk(x:Hp)(h:Nat)(K:List Nat):Prop:=K.Pairwise (· < ·)/\(∀i,i∈K->i<h/\(x.c i).st=1)/\∀i,i<h->(x.c i).st=1->i ∉ K->∀j,j<x.cells.length->(x.c j).st=0->i<j
structure zJ(C:Nat)(x:Hp)(F:List Int)(K:List Nat):Prop where
 ho:Ho F
 al:∀i,i<x.cells.length->(x.c i).st=0->(i:Int)∈F
 nn:∀v,v∈F->0<=v
 le:F.length+yN x<=C
 k3:x.phase=3->KOk x x.hand.toNat K
 k4:x.phase=4->K.Pairwise (· < ·)/\(∀i,i∈K->i<x.cells.length/\(x.c i).st=1)/\∀i,i<x.cells.length->(x.c i).st=1->i ∉ K->∀j,j<x.cells.length->(x.c j).st=0->i<j
 k0:x.phase≠3->x.phase≠4->K=[]
def eV(x z:Hp):Prop:=z.cells.length=x.cells.length/\∀q,(z.c q).st=(x.c q).st
theorem eV.refl(x:Hp):eV x x:=⟨rfl,λ_=>rfl⟩
theorem eV.trans{y:Hp}(h:eV x y)(k:eV y z):eV x z:=⟨k.1.trans h.1,λq=>(k.2 q).trans (h.2 q)⟩
theorem eV.set(x:Hp)(i:Nat)(c:Cl)(hc:c.st=(x.c i).st)(hz:z.cells=x.cells.set i c):eV x z:=by
 refine⟨by rw[hz];simp,λq=>?_⟩;have e:z.c q=({ x with cells:=x.cells.set i c }:Hp).c q:=by simp only [Hp.c,hz]
 rw[e];rcases Nat.lt_or_ge i x.cells.length with hi | hi
 ·rw[Hp.c_set x i c hi q];by_cases h:q=i
  ·rw[if_pos h,h];exact hc
  ·rw[if_neg h]
 ·rw[List.set_eq_of_length_le hi]
theorem eV.cells(hz:z.cells=x.cells):eV x z:=⟨by rw[hz],λq=>by simp only [Hp.c,hz]⟩
theorem b2y(x:Hp)(i:Nat):eV x (uV x i):=by
 unfold uV
 split
 ·exact eV.set x i (tN (x.c i)) rfl rfl
 ·exact eV.refl x
theorem a6m(x:Hp)(y:Wd):eV x (uY x y):=by
 unfold uY
 split
 ·exact b2y x _
 ·exact eV.refl x
theorem b4h:∀(ys:List Wd) (z:Hp),eV z (ys.foldl uY z)/\(ys.foldl uY z).phase=z.phase
 | [],z=>⟨eV.refl z,rfl⟩
 | y::ys,z=>by
  obtain⟨a,b⟩:=b4h ys (uY z y);exact⟨(a6m z y).trans a,b.trans (a0b z y).2.2.1⟩
theorem a7g(h:x.phase=1\/x.phase=2):yN x=16000:=by unfold yN;rw[if_pos h]
theorem b5s(h:x.phase=3):yN x=8000+(x.cells.length-x.hand.toNat):=by unfold yN;rw[if_neg (by omega),if_pos h]
theorem b5t(h:x.phase=4\/x.phase=5):yN x=8000:=by unfold yN;rw[if_neg (by omega),if_neg (by omega),if_pos h]
theorem c0b(h:x.phase=6):yN x=x.hand.toNat:=by unfold yN;rw[if_neg (by omega),if_neg (by omega),if_neg (by omega),if_pos h]
theorem remU_0(h:x.phase=0):yN x=0:=by unfold yN;rw[if_neg (by omega),if_neg (by omega),if_neg (by omega),if_neg (by omega)]
theorem zJ.same(h:zJ C x F K)(hs:eV x z)(hp:x.phase≠3/\x.phase≠4)(hr:yN z<=yN x)(h4:z.phase≠4)(h3:z.phase=3->z.hand=0):zJ C z F K where
 ho:=h.ho
 al:=λi hi h0=>h.al i (by rw[<-hs.1];exact hi) (by rw[<-hs.2];exact h0)
 nn:=h.nn
 le:=by have:=h.le;omega
 k3:=λe=>by rw[h.k0 hp.1 hp.2];exact⟨List.Pairwise.nil,λi hi=>by simp at hi,λi hi=>by rw[h3 e] at hi;simp at hi⟩
 k4:=λe=>absurd e h4
 k0:=λ_ _=>h.k0 hp.1 hp.2
theorem inv1(h:zJ C x F K)(hp:x.phase=1):zJ C (qC x) F K:=by
 have hr:=a7g (.inl hp);have key:∀z:Hp,eV x z->z.phase=1->zJ C z F K:=λz hs hz=>h.same hs ⟨by omega,by omega⟩ (by rw[hr,a7g (.inl hz)];omega) (by omega) (λe=>by omega)
 unfold qC
 split
 ·refine h.same (z:=dD x 2 0) (eV.cells rfl) ⟨by omega,by omega⟩ ?_ (by simp [dD]) (by simp [dD]);rw[hr,a7g (.inr rfl)];omega
 ·by_cases e:tJ (x.c x.hand.toNat)=true
  ·simp only [if_pos e];exact key _ ((b2y x x.hand.toNat).trans (eV.cells rfl)) ((dH x _).2.2.2.2.2.1.trans hp)
  ·simp only [if_neg e];exact key _ (eV.cells rfl) hp
theorem inv2(h:zJ C x F K)(hp:x.phase=2)(n8:x.cells.length<=8000):zJ C (eC x) F K:=by
 have hr:=a7g (.inr hp);have key:∀z:Hp,eV x z->z.phase=2->zJ C z F K:=λz hs hz=>h.same hs ⟨by omega,by omega⟩ (by rw[hr,a7g (.inr hz)];omega) (by omega) (λe=>by omega)
 unfold eC
 split
 ·rename_i g G hg
  split
  ·refine key _ (((a6m x _).trans (a6m _ _)).trans (eV.cells rfl)) ?_;exact(a0b _ _).2.2.1.trans ((a0b _ _).2.2.1.trans hp)
  ·exact key _ (eV.set x g.toNat (a1d (x.c g.toNat)) rfl rfl) hp
 ·obtain⟨a,b⟩:=b4h x.regs x;have len:(qK x).cells.length<=8000:=by have:=a.1;unfold qK;omega
  split
  ·refine h.same (a.trans (eV.cells rfl)) ⟨by omega,by omega⟩ ?_ (by simp [dD]) (by simp [dD]);rw[hr,b5s rfl];simp only [dD];omega
  ·exact key _ a (b.trans hp)
theorem inv5(h:zJ C x F K)(hp:x.phase=5)(n8:x.cells.length<=8000):zJ C (eK x) F K:=by
 have hr:=b5t (.inr hp);have key:∀z:Hp,eV x z->z.phase=5->zJ C z F K:=λz hs hz=>h.same hs ⟨by omega,by omega⟩ (by rw[hr,b5t (.inr hz)];omega) (by omega) (λe=>by omega)
 unfold eK
 split
 ·refine h.same (z:=dD x 6 x.cells.length) (eV.cells rfl) ⟨by omega,by omega⟩ ?_ (by simp [dD]) (by simp [dD]);rw[hr,c0b rfl];simp [dD];exact n8
 ·split
  ·exact key _ (eV.set x x.hand.toNat (zZ x (x.c x.hand.toNat) x.sub.toNat) rfl rfl) hp
  ·exact key _ (eV.cells rfl) hp
theorem c7c(h:zJ C x F K)(hp:x.phase=3)(he:x.hand=x.cells.length):zJ C (dD x 4 0) F K where
 ho:=h.ho
 al:=h.al
 nn:=h.nn
 le:=by have:=h.le;rw[b5s hp] at this;rw[b5t (.inl rfl)];omega
 k3:=λe=>by simp [dD] at e
 k4:=λ_=>by
  have k:=h.k3 hp;rw[show x.hand.toNat=x.cells.length by omega] at k;exact k
 k0:=λ_ e=>by simp [dD] at e
theorem b0f(h:zJ C x F K)(hp:x.phase=3)(hz:z.phase=3)(i:Nat)(hi:x.hand=(i:Int))(hin:i<x.cells.length)(hzi:z.hand=(i:Int)+1)(hl:z.cells.length=x.cells.length)(hs:∀q,q≠i->(z.c q).st=(x.c q).st)(ho:Ho F')(hf:(F'=F/\((z.c i).st=0->(x.c i).st=0))\/F'.Perm ((i:Int)::F)):zJ C z F' (K++if (z.c i).st=1 then [i] else []) where
 ho:=ho
 al:=λq hq h0=>by
  rw[hl] at hq;rcases hf with⟨e,e2⟩ | e
  ·rw[e];refine h.al q hq ?_;by_cases c:q=i
   ·rw[c] at h0 ⊢;exact e2 h0
   ·rw[<-hs q c];exact h0
  ·refine e.mem_iff.2 ?_;by_cases c:q=i
   ·rw[c];exact List.mem_cons_self
   ·exact List.mem_cons_of_mem _ (h.al q hq (by rw[<-hs q c];exact h0))
 nn:=λv hv=>by
  rcases hf with⟨e,_⟩ | e
  ·rw[e] at hv;exact h.nn v hv
  ·rcases List.mem_cons.1 (e.mem_iff.1 hv) with e2 | e2
   ·omega
   ·exact h.nn v e2
 le:=by
  have h1:=h.le;rw[b5s hp] at h1;rw[b5s hz]
  have:F'.length<=F.length+1:=by
   rcases hf with⟨e,_⟩ | e
   ·rw[e];omega
   ·have:=e.length_eq;simp at this;omega
  omega
 k3:=λ_=>by
  have e:z.hand.toNat=i+1:=by omega
  have e2:x.hand.toNat=i:=by omega
  obtain⟨p1,p2,p3⟩:=h.k3 hp;rw[e2] at p2 p3;rw[e]
  have mem:∀q,q∈(K++if (z.c i).st=1 then [i] else [])↔q∈K\/((z.c i).st=1/\q=i):=λq=>by
   by_cases c:(z.c i).st=1
   ·simp [c]
   ·simp [c]
  refine⟨?_,λq hq=>?_,λq hq h1 hn j hj h0=>?_⟩
  ·by_cases c:(z.c i).st=1
   ·rw[if_pos c];refine List.pairwise_append.2 ⟨p1,List.pairwise_singleton _ _,λa ha b hb=>?_⟩;simp at hb;have:=(p2 a ha).1;omega
   ·rw[if_neg c,List.append_nil];exact p1
  ·rcases (mem q).1 hq with c | ⟨c,d⟩
   ·have:=p2 q c;exact⟨by omega,by rw[hs q (by omega)];exact this.2⟩
   ·rw[d];exact⟨by omega,c⟩
  ·have hne:q≠i:=λc=>hn ((mem q).2 (.inr ⟨by rw[<-c];exact h1,c⟩))
   by_cases c:j=i
   ·omega
   ·exact p3 q (by omega) (by rw[<-hs q hne];exact h1) (λc2=>hn ((mem q).2 (.inl c2))) j (by omega) (by rw[<-hs j c];exact h0)
 k4:=λe=>by omega
 k0:=λe=>absurd hz e
theorem c7d(h:zJ C x F K)(hp:x.phase=6)(hz:z.phase=0)(hc:z.cells=x.cells):zJ C z F K:=
 h.same (eV.cells hc) ⟨by omega,by omega⟩ (by rw[remU_0 hz];omega) (by omega) (λe=>by omega)
theorem c3o(h:zJ C x F K)(hp:x.phase=6)(hz:z.phase=6)(i:Nat)(hi:x.hand=(i:Int)+1)(hzi:z.hand=(i:Int))(hl:z.cells.length<=x.cells.length)(hs:∀q,q<z.cells.length->q≠i->(z.c q).st=(x.c q).st)(ho:Ho F')(hf:(F'=F/\(i<z.cells.length->(z.c i).st=0->(x.c i).st=0))\/F'.Perm ((i:Int)::F)):zJ C z F' K where
 ho:=ho
 al:=λq hq h0=>by
  rcases hf with⟨e,e2⟩ | e
  ·rw[e];refine h.al q (by omega) ?_;by_cases c:q=i
   ·rw[c] at h0 ⊢;exact e2 (by omega) h0
   ·rw[<-hs q hq c];exact h0
  ·refine e.mem_iff.2 ?_;by_cases c:q=i
   ·rw[c];exact List.mem_cons_self
   ·exact List.mem_cons_of_mem _ (h.al q (by omega) (by rw[<-hs q hq c];exact h0))
 nn:=λv hv=>by
  rcases hf with⟨e,_⟩ | e
  ·rw[e] at hv;exact h.nn v hv
  ·rcases List.mem_cons.1 (e.mem_iff.1 hv) with e2 | e2
   ·omega
   ·exact h.nn v e2
 le:=by
  have h1:=h.le;rw[c0b hp] at h1;rw[c0b hz]
  have:F'.length<=F.length+1:=by
   rcases hf with⟨e,_⟩ | e
   ·rw[e];omega
   ·have:=e.length_eq;simp at this;omega
  omega
 k3:=λe=>by omega
 k4:=λe=>by omega
 k0:=λ_ _=>h.k0 (by omega) (by omega)
theorem inv0(h:zJ C x F K)(hp:x.phase=0):zJ (C+16000) (dD x 1 0) F K where
 ho:=h.ho
 al:=h.al
 nn:=h.nn
 le:=by have:=h.le;rw[a7g (.inl rfl)];omega
 k3:=λe=>by simp [dD] at e
 k4:=λe=>by simp [dD] at e
 k0:=λ_ _=>h.k0 (by omega) (by omega)
theorem zJ.wide{D:Nat}(h:zJ C x F K)(hd:C<=D):zJ D x F K:=⟨h.ho,h.al,h.nn,Nat.le_trans h.le hd,h.k3,h.k4,h.k0⟩
theorem SAt.turned[Inhabited uN](h:SAt B w b x ar kr v4 v8 br cB cO bn pb pa pk kn hd vf F vk K role)(cs:List Cl)(hl:cs.length=x.cells.length)(so:Nat->Nat)(pa':Nat->Option Addr)(pk':Nat->Nat)(role':Nat->Nat)
  (o:uX (λq=>∃j,j<x.cells.length/\q=cB j) w w') (nf:∀j,j<x.cells.length->Nf1 (cB j) w') (hkp:CapP { x with cells:=cs } pk')
  (hs:∀q,q<x.cells.length->S7 w' (cB q) (cO q) (({ x with cells:=cs }:Hp).c q))
  (h7:∀q,q<x.cells.length->w'.cell? ⟨cB q,cO q+7,none⟩=some (.slice (pa' q) (({ x with cells:=cs }:Hp).c q).prs.length (pk' q)))
  (hso:∀q,q<x.cells.length->0<pk' q->(so q<x.cells.length/\pk' q=pk (so q))/\(x.c (so q)).prs=(({ x with cells:=cs }:Hp).c q).prs/\pa' q=pa (so q)/\role' (pb (so q))=6+q)
  (hro:∀q,role q<6->role' q=role q) :
  SAt B w' b { x with cells:=cs } ar kr v4 v8 br cB cO bn (λq=>pb (so q)) pa' pk' kn hd vf F vk K role':=by
 have far:∀q,q<w.heap.size->role q≠3->w'.heap[q]?=w.heap[q]?:=λq hq hr=>o.block q hq (λ⟨j,hj,e⟩=>hr (by rw[e];exact h.sp.c j hj))
 have hl':({ x with cells:=cs }:Hp).cells.length=x.cells.length:=hl;have pf:∀q,q<x.cells.length->0<pk q->w'.heap[pb q]?=w.heap[pb q]?:=λq hq hl=>far (pb q) (h.rw.pl q hq hl).2.1.1 (by rw[h.sp.p q hq hl];omega)
 have sb2:=h.sb.same o.size (far b h.sb.nb.1 (by rw[h.sp.b];omega)) (far bn h.sb.lo.2.2.1 (by rw[h.sp.n];omega)) (λq hq=>far q (h.sb.fr.own.lt q hq).2 (by rw[h.sp.f q hq];omega)) (λq hq=>far q (h.sb.kp.lt q hq).2 (by rw[h.sp.k q hq];omega));refine⟨⟨sb2.bx,sb2.ha,by rw[hl'];exact sb2.n13,λk hk=>sb2.nd k (by rw[hl'] at hk;exact hk),sb2.fr,sb2.rg,sb2.k0,sb2.kp,sb2.nb,sb2.lo⟩,⟨λk hk=>?_,λq hq=>?_,λq hq=>?_,λq hq k hk=>?_,λq hq hlq=>?_,λhr=>⟨hY (h.rw.nr hr).1 (far br (h.rw.nr hr).1.1 (by rw[h.sp.r hr];omega)) o.size,(h.rw.nr hr).2⟩,λq hq=>⟨nf q (by rw[hl'] at hq;exact hq),(h.rw.nc q (by rw[hl'] at hq;exact hq)).2⟩,λq hq=>h.rw.d q (by rw[hl'] at hq;exact hq),λq q' hq hq' hne h1 h2=>?_,λq q' hq hq' hne=>h.rw.dc q q' (by rw[hl'] at hq;exact hq) (by rw[hl'] at hq';exact hq') hne,hkp⟩,⟨?_,?_,λhr=>?_,λq hq=>?_,λq hq=>?_,λq hq=>?_,λq hq hlq=>?_⟩,h.pr.of (λq hq h1=>far q hq (by rw[h1];omega)) (λq _ h1=>by rw[hro q (by rw[h1];omega)];exact h1)⟩
 ·exact(h.rw.r k hk).of λj _=>World.cell?_of_block (a:=⟨br,_,none⟩) (far br (h.rw.nr (by have:k<x.regs.length:=hk;omega)).1.1 (by rw[h.sp.r (by have:k<x.regs.length:=hk;omega)];omega))
 ·rw[hl'] at hq;exact hs q hq
 ·rw[hl'] at hq;exact h7 q hq
 ·rw[hl'] at hq;obtain⟨⟨a1,_⟩,a2,_⟩:=hso q hq (by have:=hkp q (by rw[hl'];exact hq);omega);have e2:(({ x with cells:=cs }:Hp).c q).p k=(x.c (so q)).p k:=by simp only [Cl.p,a2]
  rw[<-a2] at hk;rw[e2];exact(h.rw.p (so q) a1 k hk).of λj _=>World.cell?_of_block (a:=⟨pb (so q),_,none⟩) (pf (so q) a1 (h.rw.pw a1 (by omega)))
 ·rw[hl'] at hq;obtain⟨⟨a1,a0⟩,a2,a3,_⟩:=hso q hq hlq;rw[a0] at hlq;obtain⟨b1,b2,b3,b4⟩:=h.rw.pl (so q) a1 hlq;exact⟨a3.trans b1,by rw[a0];exact a0f b2 (pf (so q) a1 hlq) o.size,⟨b3.1,λj hj=>b3.2 j (by rw[hl'] at hj;exact hj)⟩,b4⟩
 ·rw[hl'] at hq hq';intro e;have r1:=(hso q hq h1).2.2.2;have r2:=(hso q' hq' h2).2.2.2;have e':pb (so q)=pb (so q'):=e;rw[e',r2] at r1;omega
 ·rw[hro b (by rw[h.sp.b];omega)];exact h.sp.b
 ·rw[hro bn (by rw[h.sp.n];omega)];exact h.sp.n
 ·have:=h.sp.r hr;rw[hro br (by omega)];exact this
 ·rw[hl'] at hq;have:=h.sp.c q hq;rw[hro (cB q) (by omega)];exact this
 ·have:=h.sp.f q hq;rw[hro q (by omega)];exact this
 ·have:=h.sp.k q hq;rw[hro q (by omega)];exact this
 ·rw[hl'] at hq;exact(hso q hq hlq).2.2.2
theorem SAt.wiped[Inhabited uN](h:SAt B w b x ar kr v4 v8 br cB cO bn pb pa pk kn hd vf F vk K role)(i:Nat)(hi:i<x.cells.length)(st tt:Int):
  SAt B (zY w (cB i) (cO i) st tt) b { x with cells:=x.cells.set i ⟨st,0,0,0,0,0,tt,[]⟩ } ar kr v4 v8 br cB cO bn pb (λq=>if q=i then none else pa q) (λq=>if q=i then 0 else pk q) kn hd vf F vk K role:=by
 have hc:=Hp.c_set x i ⟨st,0,0,0,0,0,tt,[]⟩ hi;obtain⟨k1,k2⟩:=a4m w (cB i) (cO i) st tt _ _ (h.rw.s i hi) (h.rw.p7 i hi);have ho:=a3r w (cB i) (cO i) st tt;refine h.turned (x.cells.set i ⟨st,0,0,0,0,0,tt,[]⟩) (by simp) (λq=>q) _ _ role ((a0g _ _ _ _ _).mono (λq e=>⟨i,hi,e⟩)) (λq hq=>a6j (h.rw.nc q hq).1 (a8p (h.rw.nc i hi).1 _ _ _) (a0g _ _ _ _ _)) (λq hq=>?_) (λq hq=>?_) (λq hq=>?_) (λq hq hl=>?_) (λ_ _=>rfl)
 ·have hq':q<x.cells.length:=by simpa using hq
  rw[hc q];by_cases e:q=i
  ·rw[if_pos e];exact Nat.zero_le _
  ·simp only [if_neg e];exact h.rw.kp q hq'
 ·rw[hc q];by_cases e:q=i
  ·subst e;rw[if_pos rfl];exact k1
  ·rw[if_neg e];exact(h.rw.s q hq).of λj hj=>h.rw.far8 hi hq e (Nat.le_refl _) (a0g _ _ _ _ _) ho j (by omega)
 ·rw[hc q];by_cases e:q=i
  ·subst e;simp only [if_true];exact k2
  ·simp only [if_neg e];rw[h.rw.far8 hi hq e (Nat.le_refl _) (a0g _ _ _ _ _) ho 7 (by omega)];exact h.rw.p7 q hq
 ·rw[hc q];by_cases e:q=i
  ·rw[if_pos e] at hl;omega
  ·rw[if_neg e] at hl;exact⟨⟨hq,if_neg e⟩,by rw[if_neg e],if_neg e,h.sp.p q hq hl⟩
theorem SAt.freed[Inhabited uN](h:SAt B w b x ar kr v4 v8 br cB cO bn pb pa pk kn hd vf F vk K role){vf':Value}(l:eX w' B b 14 vf' F')(q:QFr b 14 vf vf' w w')(nf:Nf1 b w'):
  ∃role',SAt B w' b x ar kr v4 v8 br cB cO bn pb pa pk kn hd vf' F' vk K role':=by
 have nfree:∀k,role k≠4->vf.ownBlock≠some k:=λk hk e=>hk (h.sp.f k e)
 have far:∀k,k<w.heap.size->role k≠4->role k≠0->w'.heap[k]?=w.heap[k]?:=λk hk h1 h2=>q.block k hk (λe=>h2 (by rw[e];exact h.sp.b)) (nfree k h1)
 have cb:∀o,o≠14->w'.cell? ⟨b,o,none⟩=w.cell? ⟨b,o,none⟩:=λo ho=>q.hdr o ho
 have own2:∀k,vf'.ownBlock=some k->vf.ownBlock=some k\/w.heap.size<=k:=λk hk=>by
  rcases q.own with e | ⟨g,e,hg⟩
  ·exact .inl (e ▸ hk)
  ·rw[e] at hk;injection hk with hk;exact .inr (by omega)
 have ne4:∀k,k<w.heap.size->role k≠4->vf'.ownBlock≠some k:=λk hk hr e=>by
  rcases own2 k e with e2 | e2
  ·exact hr (h.sp.f k e2)
  ·omega
 have fn:=far bn h.sb.lo.2.2.1 (by rw[h.sp.n];omega) (by rw[h.sp.n];omega);refine⟨λk=>(open Classical in if vf'.ownBlock=some k then 4 else role k),⟨h.sb.bx.of λo ho=>cb o (by omega),h.sb.ha,(cb 13 (by omega)).trans h.sb.n13,λk hk=>⟨(World.cell?_of_block (a:=⟨bn,_,none⟩) fn).trans (h.sb.nd k hk).1,(World.cell?_of_block (a:=⟨bn,_,none⟩) fn).trans (h.sb.nd k hk).2⟩,l,h.sb.rg.of λo h1 _=>cb o (by omega),(cb 4017 (by omega)).trans h.sb.k0,uQ h.sb.kp (λk hk=>far k (h.sb.kp.lt k hk).2 (by rw[h.sp.k k hk];omega) (by rw[h.sp.k k hk];omega)),nf,⟨h.sb.lo.1,h.sb.lo.2.1,h.sb.lo.2.2.of fn q.size⟩⟩,h.rw.same q.size (λhl=>far br (h.rw.nr hl).1.1 (by rw[h.sp.r hl];omega) (by rw[h.sp.r hl];omega)) (λk hk=>far (cB k) (h.rw.nc k hk).1.1 (by rw[h.sp.c k hk];omega) (by rw[h.sp.c k hk];omega)) (λk hk hl=>far (pb k) (h.rw.pl k hk hl).2.1.1 (by rw[h.sp.p k hk hl];omega) (by rw[h.sp.p k hk hl];omega)),?_,h.pr.of (λq hq h1=>far q hq (by rw[h1];omega) (by rw[h1];omega)) (λq hq h1=>by(try dsimp only);rw[if_neg (ne4 q hq (by rw[h1];omega))];exact h1)⟩;refine⟨?_,?_,λhl=>?_,λk hk=>?_,λk hk=>?_,λk hk=>?_,λk hk hl=>?_⟩
 ·rw[if_neg (ne4 b h.sb.nb.1 (by rw[h.sp.b];omega))];exact h.sp.b
 ·rw[if_neg (ne4 bn h.sb.lo.2.2.1 (by rw[h.sp.n];omega))];exact h.sp.n
 ·rw[if_neg (ne4 br (h.rw.nr hl).1.1 (by rw[h.sp.r hl];omega))];exact h.sp.r hl
 ·rw[if_neg (ne4 (cB k) (h.rw.nc k hk).1.1 (by rw[h.sp.c k hk];omega))];exact h.sp.c k hk
 ·rw[if_pos hk]
 ·rw[if_neg (ne4 k (h.sb.kp.lt k hk).2 (by rw[h.sp.k k hk];omega))];exact h.sp.k k hk
 ·rw[if_neg (ne4 (pb k) (h.rw.pl k hk hl).2.1.1 (by rw[h.sp.p k hk hl];omega))];exact h.sp.p k hk hl
theorem SAt.drop[Inhabited uN](h:SAt B w b x ar kr v4 v8 br cB cO bn pb pa pk kn hd vf F vk K role)(i:Nat)(hi:i+1=x.cells.length):
  SAt B (w.setCell ⟨b,13,none⟩ (.slice (some ⟨bn,0,none⟩) i kn)) b { x with cells:=x.cells.take i } ar kr v4 v8 br cB cO bn pb pa pk kn hd vf F vk K role:=by
 have far:∀q,q<w.heap.size->role q≠0->(w.setCell ⟨b,13,none⟩ (.slice (some ⟨bn,0,none⟩) i kn)).heap[q]?=w.heap[q]?:=λq hq hn=>Below.heap_setCell _ _ _ _ (λe=>hn (by rw[e];exact h.sp.b))
 have hsz:w.heap.size<=(w.setCell ⟨b,13,none⟩ (.slice (some ⟨bn,0,none⟩) i kn)).heap.size:=by simp [World.setCell]
 have rw2:=h.rw.same (w':=w.setCell ⟨b,13,none⟩ (.slice (some ⟨bn,0,none⟩) i kn)) hsz (λhl=>far br (h.rw.nr hl).1.1 (by rw[h.sp.r hl];omega)) (λq hq=>far (cB q) (h.rw.nc q hq).1.1 (by rw[h.sp.c q hq];omega)) (λq hq hl=>far (pb q) (h.rw.pl q hq hl).2.1.1 (by rw[h.sp.p q hq hl];omega));have hl:({ x with cells:=x.cells.take i }:Hp).cells.length=i:=by simp;omega
 have hc:∀q,q<i->({ x with cells:=x.cells.take i }:Hp).c q=x.c q:=λq hq=>by
  simp only [Hp.c,List.getD_eq_getElem?_getD,List.getElem?_take_of_lt hq]
 have cb:∀o,o≠13->(w.setCell ⟨b,13,none⟩ (.slice (some ⟨bn,0,none⟩) i kn)).cell? ⟨b,o,none⟩=w.cell? ⟨b,o,none⟩:=λo ho=>uC _ (.inr (λe=>ho e.symm))
 have fn:=far bn h.sb.lo.2.2.1 (by rw[h.sp.n];omega);refine⟨⟨h.sb.bx.of λo ho=>cb o (by omega),h.sb.ha,?_,λk hk=>?_,⟨(cb 14 (by omega)).trans h.sb.fr.hd,(h.sb.nb.set _ _).2 14,uQ h.sb.fr.own (λq hq=>far q (h.sb.fr.own.lt q hq).2 (by rw[h.sp.f q hq];omega)),h.sb.fr.apart⟩,h.sb.rg.of λo h1 _=>cb o (by omega),(cb 4017 (by omega)).trans h.sb.k0,uQ h.sb.kp (λq hq=>far q (h.sb.kp.lt q hq).2 (by rw[h.sp.k q hq];omega)),h.sb.nb.set _ _,⟨h.sb.lo.1,h.sb.lo.2.1,h.sb.lo.2.2.of fn hsz⟩⟩,⟨rw2.r,λq hq=>?_,λq hq=>?_,λq hq k hk=>?_,λq hq hlq=>?_,rw2.nr,λq hq=>rw2.nc q (by rw[hl] at hq;omega),λq hq=>rw2.d q (by rw[hl] at hq;omega),λq q' hq hq' hne h1 h2=>?_,λq q' hq hq' hne=>rw2.dc q q' (by rw[hl] at hq;omega) (by rw[hl] at hq';omega) hne,λq hq=>by rw[hl] at hq;rw[hc q hq];exact rw2.kp q (by omega)⟩,⟨h.sp.b,h.sp.n,h.sp.r,λq hq=>h.sp.c q (by rw[hl] at hq;omega),h.sp.f,h.sp.k,λq hq hlq=>?_⟩,h.pr.of (λq hq h1=>far q hq (by rw[h1];omega)) (λ_ _ h=>h)⟩
 ·rw[hl];exact World.cell?_setCell_same _ _ _ h.sb.n13
 ·rw[hl] at hk;exact⟨(World.cell?_of_block (a:=⟨bn,_,none⟩) fn).trans (h.sb.nd k (by omega)).1,(World.cell?_of_block (a:=⟨bn,_,none⟩) fn).trans (h.sb.nd k (by omega)).2⟩
 ·rw[hl] at hq;rw[hc q hq];exact rw2.s q (by omega)
 ·rw[hl] at hq;rw[hc q hq];exact rw2.p7 q (by omega)
 ·rw[hl] at hq;rw[hc q hq] at hk ⊢;exact rw2.p q (by omega) k hk
 ·rw[hl] at hq;have z:=rw2.pl q (by omega) hlq;exact⟨z.1,z.2.1,⟨z.2.2.1.1,λj hj=>z.2.2.1.2 j (by rw[hl] at hj;omega)⟩,z.2.2.2⟩
 ·rw[hl] at hq hq';exact rw2.dp q q' (by omega) (by omega) hne h1 h2
 ·rw[hl] at hq;exact h.sp.p q (by omega) hlq
theorem SAt.setr[Inhabited uN](h:SAt B w b x ar kr v4 v8 br cB cO bn pb pa pk kn hd vf F vk K role)(j:Nat)(hj:j<x.regs.length)(y:Wd)(o:uX (λq=>q=br) w w')(nf:Nf1 br w')(hy:tW w' br (j*3) y)(ho:∀m,(m<j*3\/j*3+3<=m)->w'.cell? ⟨br,m,none⟩=w.cell? ⟨br,m,none⟩):
  SAt B w' b { x with regs:=x.regs.set j y } ar kr v4 v8 br cB cO bn pb pa pk kn hd vf F vk K role:=by
 have hr:0<x.regs.length:=by omega
 have far:∀q,q<w.heap.size->role q≠2->w'.heap[q]?=w.heap[q]?:=λq hq hn=>o.block q hq (λe=>hn (by rw[e];exact h.sp.r hr))
 have hl:({ x with regs:=x.regs.set j y }:Hp).regs.length=x.regs.length:=by simp
 have pf:∀q,q<x.cells.length->0<pk q->w'.heap[pb q]?=w.heap[pb q]?:=λq hq hl=>far (pb q) (h.rw.pl q hq hl).2.1.1 (by rw[h.sp.p q hq hl];omega)
 have fc:∀q,q<x.cells.length->w'.heap[cB q]?=w.heap[cB q]?:=λq hq=>far (cB q) (h.rw.nc q hq).1.1 (by rw[h.sp.c q hq];omega)
 have sb2:=h.sb.same o.size (far b h.sb.nb.1 (by rw[h.sp.b];omega)) (far bn h.sb.lo.2.2.1 (by rw[h.sp.n];omega)) (λq hq=>far q (h.sb.fr.own.lt q hq).2 (by rw[h.sp.f q hq];omega)) (λq hq=>far q (h.sb.kp.lt q hq).2 (by rw[h.sp.k q hq];omega));refine⟨⟨by rw[hl];exact sb2.bx,λ_=>sb2.ha hr,sb2.n13,sb2.nd,sb2.fr,sb2.rg,sb2.k0,sb2.kp,sb2.nb,sb2.lo⟩,⟨λm hm=>?_,λq hq=>?_,λq hq=>?_,λq hq k hk=>?_,λq hq hlq=>?_,λ_=>⟨nf,(h.rw.nr hr).2⟩,λq hq=>⟨hY (h.rw.nc q hq).1 (fc q hq) o.size,(h.rw.nc q hq).2⟩,h.rw.d,h.rw.dp,h.rw.dc,h.rw.kp⟩,⟨h.sp.b,h.sp.n,λ_=>h.sp.r hr,h.sp.c,h.sp.f,h.sp.k,h.sp.p⟩,h.pr.of (λq hq h1=>far q hq (by rw[h1];omega)) (λ_ _ h=>h)⟩
 ·have hm2:m<x.regs.length:=by rw[hl] at hm;exact hm
  by_cases e:m=j
  ·subst e;have:({ x with regs:=x.regs.set m y }:Hp).regs[m]=y:=by simp
   rw[this];exact hy
  ·have hjm:j≠m:=λe'=>e e'.symm
   have:({ x with regs:=x.regs.set j y }:Hp).regs[m]=x.regs[m]:=by simp [List.getElem_set_ne hjm]
   rw[this];exact(h.rw.r m hm2).of λk hk=>ho _ (by omega)
 ·exact(h.rw.s q hq).of λm _=>World.cell?_of_block (a:=⟨cB q,_,none⟩) (fc q hq)
 ·exact(World.cell?_of_block (a:=⟨cB q,_,none⟩) (fc q hq)).trans (h.rw.p7 q hq)
 ·have hk2:k<(x.c q).prs.length:=hk;exact(h.rw.p q hq k hk).of λm _=>World.cell?_of_block (a:=⟨pb q,_,none⟩) (pf q hq (h.rw.pw hq (by omega)))
 ·obtain⟨a1,a2,a3⟩:=h.rw.pl q hq hlq;exact⟨a1,a0f a2 (pf q hq hlq) o.size,a3⟩
def gapV(t:Option Nat)(bn:Nat):Value:=match t with
 | none=>.pointer none
 | some j=>ndp bn j
def b2z(x:Hp)(F F':List Int):Prop:=Ho F'/\F'.length<=F.length/\(∀v,v∈F'->v∈F)/\∀i,i<x.cells.length->(x.c i).st=0->(i:Int)∈F->(i:Int)∈F'
def GapT(x:Hp)(F':List Int)(t:Option Nat):Prop:=match t with
 | none=>F'=[]
 | some j=>j<x.cells.length/\(x.c j).st=0/\∀v,v∈F'->(j:Int)<=v
theorem b2z.next{L:List Int}{j:Nat}(h:b2z x F F')(ho:Ho L)(hp:((j:Int)::L).Perm F')(hj:j<x.cells.length->(x.c j).st≠0):b2z x F L/\L.length<F'.length:=by
 have hlen:=hp.length_eq;simp at hlen;refine⟨⟨ho,by have:=h.2.1;omega,λv hv=>h.2.2.1 v (hp.mem_iff.1 (List.mem_cons_of_mem _ hv)),λi hi hs hm=>?_⟩,by omega⟩;rcases List.mem_cons.1 (hp.mem_iff.2 (h.2.2.2 i hi hs hm)) with e | e
 ·have:i=j:=by omega
  subst this;exact absurd hs (hj hi)
 ·exact e
theorem gap_any[Inhabited uN](h:SAt B w b x ar kr v4 v8 br cB cO bn pb pa pk kn hd vf F vk K role)(ho:Ho F)(hl:F.length<=1000000000)(nn:∀v,v∈F->0<=v):
  Calls Tryz.prog 326 #[.pointer (some ⟨b,0,none⟩)] w λe w'=>∃t vf' F',e=.returned (gapV t bn)/\Hid (eX w' B b 14 vf' F'/\QFr b 14 vf vf' w w')/\Hid (b2z x F F'/\GapT x F' t):=by
 have H:=uU h;have LS:=uU h.sb.fr;have NN:=uU nn;have N13:=uU h.sb.n13;have G0:=uU (show b2z x F F from⟨ho,Nat.le_refl _,λ_ h=>h,λ_ _ _ h=>h⟩);have FARB:=uU (show ∀wr vf',QFr b 14 vf vf' w wr->∀k,k<w.heap.size->role k≠4->role k≠0->wr.heap[k]?=w.heap[k]? from λwr vf' q k hk h1 h2=>q.block k hk (λe=>h2 (by rw[e];exact h.sp.b)) (λe=>h1 (h.sp.f k e)));clear h ho nn;go_enter Tryz.func326,Tryz.ntmps326;go_wp2_with fail
 go_loopg [] (F.length+1) (λgk wr=>∃(vf':Value) (F':List Int),F'.length<gk/\Hid (eX wr B b 14 vf' F'/\QFr b 14 vf vf' w wr)/\Hid (b2z x F F'))
 case atStart=>exact⟨vf,F,by omega,⟨LS,QFr.refl _ _ _ _⟩,G0⟩
 case round=>
  clear LS G0;obtain⟨vf',F',hlt,hls,hgl⟩:=hrel;have LS:=uU hls.1;have QQ:=uU hls.2;have n13:wr.cell? ⟨b,13,none⟩=some (.slice (some ⟨bn,0,none⟩) x.cells.length kn):=(QQ.hdr 13 (by omega)).trans N13;clear hls;by_cases hz:F'.length=0
  ·obtain⟨ad,cap,rfl⟩:=LS.empty hz;have hd14:=LS.hd;have FE:=uU (show F'=[] from List.length_eq_zero_iff.1 hz);go_wp2_with fail;refine(a3p _ b 14 ad cap hd14).mono ?_;rintro e w1 ⟨rfl,rfl⟩;go_wp2_with fail;go_ret;exact⟨none,_,F',rfl,⟨LS,QQ⟩,hgl,FE⟩
  ·have hpos:0<F'.length:=by omega
   obtain⟨g,cap,rfl,hgb⟩:=LS.form hpos;have hd14:=LS.hd;have c0:=LS.cell 0 hpos;obtain⟨j,hj⟩:∃j:Nat,it F' 0=(j:Int):=⟨(it F' 0).toNat,by have:=uH NN _ (hgl.2.2.1 _ (a2m F' 0 hpos));omega⟩;rw[hj] at c0;have j0:(0:Int)<=(j:Int):=by omega
   have HJ:=uU hj;clear hj hgb hz;by_cases hjn:j<x.cells.length
   ·obtain⟨m0,m1⟩:=H.sb.nd j hjn;have p0:=(H.rw.s j hjn).1;have n1:wr.cell? ⟨bn,j*2+1,none⟩=some (.pointer (some ⟨cB j,cO j,none⟩)):=(World.cell?_of_block (a:=⟨bn,_,none⟩) (FARB wr _ QQ bn H.sb.lo.2.2.1 (by rw[H.sp.n];omega) (by rw[H.sp.n];omega))).trans m1;have hn:0<x.cells.length:=by omega
    have o0:wr.cell? ⟨cB j,cO j,none⟩=some (iv (x.c j).st):=(World.cell?_of_block (a:=⟨cB j,_,none⟩) (FARB wr _ QQ (cB j) (H.rw.nc j hjn).1.1 (by rw[H.sp.c j hjn];omega) (by rw[H.sp.c j hjn];omega))).trans p0;have j1:(j:Int)<(x.cells.length:Int):=by omega
    clear m0 m1 p0 hn;go_wp2_with fail;refine(a1h _ b 14 g 0 F'.length cap j hpos hd14 c0).mono ?_;rintro e w1 ⟨rfl,rfl⟩;cases q0:((x.c j).st == 0)
    ·have q0':¬(x.c j).st=0:=by simpa using q0
     have NJ:=uU (show j<x.cells.length->(x.c j).st≠0 from λ_=>q0');go_wp2_with fail;refine(a9x _ B b 14 _ F' LS hpos hgl.1 (by have:=hgl.2.1;omega)).mono ?_;rintro e w2 ⟨rfl,v2,L2,l2,o2,p2,q2⟩;rw[uH HJ] at p2;have R:=uU (And.intro (And.intro l2 (QQ.trans q2)) (hgl.next o2 p2 NJ));clear l2 o2 p2 q2 n13 hd14 c0;go_wp2_with fail
     go_roundg F'.length
     case measure=>exact hlt
     case rel=>exact⟨v2,L2,R.2.2,R.1,R.2.1⟩
    ·have GT:=uU (show GapT x F' (some j) from⟨hjn,by simpa using q0,λv hv=>by have:=hgl.1.least hv;rw[uH HJ] at this;exact this⟩);go_wp2_with fail;go_ret;exact⟨some j,_,F',rfl,⟨LS,QQ⟩,hgl,GT⟩
   ·have j1:¬(j:Int)<(x.cells.length:Int):=by omega
    go_wp2_with fail;refine(a1h _ b 14 g 0 F'.length cap j hpos hd14 c0).mono ?_;rintro e w1 ⟨rfl,rfl⟩;have NJ:=uU (show j<x.cells.length->(x.c j).st≠0 from λh=>absurd h hjn);go_wp2_with fail;refine(a9x _ B b 14 _ F' LS hpos hgl.1 (by have:=hgl.2.1;omega)).mono ?_;rintro e w2 ⟨rfl,v2,L2,l2,o2,p2,q2⟩;rw[uH HJ] at p2;have R:=uU (And.intro (And.intro l2 (QQ.trans q2)) (hgl.next o2 p2 NJ));clear l2 o2 p2 q2 n13 hd14 c0;go_wp2_with fail
    go_roundg F'.length
    case measure=>exact hlt
    case rel=>exact⟨v2,L2,R.2.2,R.1,R.2.1⟩
theorem SAt.phased[Inhabited uN](h:SAt B w b x ar kr v4 v8 br cB cO bn pb pa pk kn hd vf F vk K role)(p hn:Int):
  SAt B (((w.setCell ⟨b,6,none⟩ (iv hn)).setCell ⟨b,7,none⟩ (iv 0)).setCell ⟨b,5,none⟩ (iv p)) b (dD x p hn) ar kr v4 v8 br cB cO bn pb pa pk kn hd vf F vk K role:=by
 refine h.boxed (x':=dD x p hn) (uX.setCell (S:=λq=>q=b) (uX.setCell (S:=λq=>q=b) (uX.setCell (S:=λq=>q=b) (uX.refl _ w) (p:=⟨b,6,none⟩) rfl _) (p:=⟨b,7,none⟩) rfl _) (p:=⟨b,5,none⟩) rfl _) (((h.sb.nb.set _ _).set _ _).set _ _) rfl rfl rfl (((h.sb.bx.set6 hn).set7 0).set5 p) (λk hk=>?_);rw[uC _ (.inr (by omega)),uC _ (.inr (by omega)),uC _ (.inr (by omega))]
theorem a6n[Inhabited uN](h:SAt B w b x ar kr v4 v8 br cB cO bn pb pa pk kn hd vf F vk K role)(p:Int)(hp:x.phase=p)(h5:(p == 5)=false)(h6:(p == 6)=false)(hr:0<=p/\p<=6)(a:World)(ha:a.heap.size<=B)(hx:Ext a w):
  Calls Tryz.prog 143 #[.pointer (some ⟨b,0,none⟩)] w λe w'=>e=.returned (zV (p+1) b)/\Hid (SAt B w' b (dD x (p+1) 0) ar kr v4 v8 br cB cO bn pb pa pk kn hd vf F vk K role)/\Ext a w':=by
 have H:=uU h;have c5:=h.sb.bx.2.2.2.2.2.1;have c6:=h.sb.bx.2.2.2.2.2.2.1;have c7:=h.sb.bx.2.2.2.2.2.2.2.1;rw[hp] at c5;have f5:=h.sb.nb.2 5;have f6:=h.sb.nb.2 6;have f7:=h.sb.nb.2 7;have lo:=h.sb.lo.1;have wp:wrap64 (p+1)=p+1:=by unfold wrap64;omega
 have FN:=uU (h.phased (p+1) 0);have XN:=uU (((hx.setCell (p:=⟨b,6,none⟩) (show a.heap.size<=b by omega) (iv 0)).setCell (p:=⟨b,7,none⟩) (show a.heap.size<=b by omega) (iv 0)).setCell (p:=⟨b,5,none⟩) (show a.heap.size<=b by omega) (iv (p+1)));have hr2:0<=p+1/\p+1<=6:=⟨by omega,by simp at h6;omega⟩;clear h hp;go_enter Tryz.func143,Tryz.ntmps143;go_wp2_with fail;refine(b1b (p+1) b _ (FN.sb.bx.2.2.2.2.2.1) hr2).mono ?_;rintro e w2 ⟨rfl,hw2⟩;subst hw2;go_wp2_with fail;go_ret;exact⟨rfl,FN,XN⟩
theorem turn_5[Inhabited uN](h:SAt B w b x ar kr v4 v8 br cB cO bn pb pa pk kn hd vf F vk K role)(hp:x.phase=5)(a:World)(ha:a.heap.size<=B)(hx:Ext a w):
  Calls Tryz.prog 143 #[.pointer (some ⟨b,0,none⟩)] w λe w'=>e=.returned (zV 6 b)/\Hid (SAt B w' b (dD x 6 x.cells.length) ar kr v4 v8 br cB cO bn pb pa pk kn hd vf F vk K role)/\Ext a w':=by
 have H:=uU h;have c5:=h.sb.bx.2.2.2.2.2.1;have c6:=h.sb.bx.2.2.2.2.2.2.1;have c7:=h.sb.bx.2.2.2.2.2.2.2.1;have c13:=h.sb.n13;rw[hp] at c5;have f5:=h.sb.nb.2 5;have f6:=h.sb.nb.2 6;have f7:=h.sb.nb.2 7;have lo:=h.sb.lo.1
 have FN:=uU (show SAt B ((((w.setCell ⟨b,6,none⟩ (iv 0)).setCell ⟨b,7,none⟩ (iv 0)).setCell ⟨b,6,none⟩ (iv x.cells.length)).setCell ⟨b,5,none⟩ (iv 6)) b (dD x 6 x.cells.length) ar kr v4 v8 br cB cO bn pb pa pk kn hd vf F vk K role by
  refine h.boxed (x':=dD x 6 x.cells.length) (uX.setCell (S:=λq=>q=b) (uX.setCell (S:=λq=>q=b) (uX.setCell (S:=λq=>q=b) (uX.setCell (S:=λq=>q=b) (uX.refl _ w) (p:=⟨b,6,none⟩) rfl _) (p:=⟨b,7,none⟩) rfl _) (p:=⟨b,6,none⟩) rfl _) (p:=⟨b,5,none⟩) rfl _) ((((h.sb.nb.set _ _).set _ _).set _ _).set _ _) rfl rfl rfl ((((h.sb.bx.set6 0).set7 0).set6 x.cells.length).set5 6) (λk hk=>?_);rw[uC _ (.inr (by omega)),uC _ (.inr (by omega)),uC _ (.inr (by omega)),uC _ (.inr (by omega))])
 have XN:=uU ((((hx.setCell (p:=⟨b,6,none⟩) (show a.heap.size<=b by omega) (iv 0)).setCell (p:=⟨b,7,none⟩) (show a.heap.size<=b by omega) (iv 0)).setCell (p:=⟨b,6,none⟩) (show a.heap.size<=b by omega) (iv x.cells.length)).setCell (p:=⟨b,5,none⟩) (show a.heap.size<=b by omega) (iv 6));clear h hp;go_enter Tryz.func143,Tryz.ntmps143;go_wp2_with fail;refine(b1b 6 b _ (FN.sb.bx.2.2.2.2.2.1) (by omega)).mono ?_;rintro e w2 ⟨rfl,hw2⟩;subst hw2;go_wp2_with fail;go_ret;exact⟨rfl,FN,XN⟩
theorem turn_6[Inhabited uN]{B:Nat}{w:World}{b:Nat}{x:Hp}{ar:Option Addr}{kr:Nat}{v4 v8:Value}{br bn:Nat}{cB cO:Nat->Nat}{pb:Nat->Nat}{pa:Nat->Option Addr}{pk:Nat->Nat}{kn hd:Nat}{vf:Value}{F:List Int}{vk:Value}{K:List Nat}{role:Nat->Nat}(h:SAt B w b x ar kr v4 v8 br cB cO bn pb pa pk kn hd vf F vk K role)(hp:x.phase=6)(hr:0<=x.rounds/\x.rounds<=1000000000)(a:World)(ha:a.heap.size<=B)(hx:Ext a w):
  Calls Tryz.prog 143 #[.pointer (some ⟨b,0,none⟩)] w λe w'=>e=.returned (zV 0 b)/\Hid (SAt B w' b { dD x 0 0 with rounds:=if x.rounds<1000000000 then x.rounds+1 else x.rounds } ar kr v4 v8 br cB cO bn pb pa pk kn hd vf F vk K role)/\Ext a w':=by
 have H:=uU h;have c5:=h.sb.bx.2.2.2.2.2.1;have c6:=h.sb.bx.2.2.2.2.2.2.1;have c7:=h.sb.bx.2.2.2.2.2.2.2.1;have c11:=h.sb.bx.2.2.2.2.2.2.2.2.2.2.2.1;rw[hp] at c5;have f5:=h.sb.nb.2 5;have f6:=h.sb.nb.2 6;have f7:=h.sb.nb.2 7;have f11:=h.sb.nb.2 11;have lo:=h.sb.lo.1;obtain⟨r,er⟩:∃r,r=if x.rounds<1000000000 then x.rounds+1 else x.rounds:=⟨_,rfl⟩
 have wr:wrap64 (x.rounds+1)=x.rounds+1:=by unfold wrap64;omega
 have ER:=uU (show ∀v,(v=x.rounds+1/\x.rounds+1<=1000000000)\/(v=1000000000/\1000000000<=x.rounds+1)->v=r from λv hv=>by rw[er];split <;> omega);rw[<-er]
 have FN:=uU (show SAt B ((((w.setCell ⟨b,6,none⟩ (iv 0)).setCell ⟨b,7,none⟩ (iv 0)).setCell ⟨b,5,none⟩ (iv 0)).setCell ⟨b,11,none⟩ (iv r)) b { dD x 0 0 with rounds:=r } ar kr v4 v8 br cB cO bn pb pa pk kn hd vf F vk K role by
  refine h.boxed (x':={ dD x 0 0 with rounds:=r }) (uX.setCell (S:=λq=>q=b) (uX.setCell (S:=λq=>q=b) (uX.setCell (S:=λq=>q=b) (uX.setCell (S:=λq=>q=b) (uX.refl _ w) (p:=⟨b,6,none⟩) rfl _) (p:=⟨b,7,none⟩) rfl _) (p:=⟨b,5,none⟩) rfl _) (p:=⟨b,11,none⟩) rfl _) ((((h.sb.nb.set _ _).set _ _).set _ _).set _ _) rfl rfl rfl ((((h.sb.bx.set6 0).set7 0).set5 0).set11 r) (λk hk=>?_);rw[uC _ (.inr (by omega)),uC _ (.inr (by omega)),uC _ (.inr (by omega)),uC _ (.inr (by omega))])
 have XN:=uU ((((hx.setCell (p:=⟨b,6,none⟩) (show a.heap.size<=b by omega) (iv 0)).setCell (p:=⟨b,7,none⟩) (show a.heap.size<=b by omega) (iv 0)).setCell (p:=⟨b,5,none⟩) (show a.heap.size<=b by omega) (iv 0)).setCell (p:=⟨b,11,none⟩) (show a.heap.size<=b by omega) (iv r));clear h hp er;go_enter Tryz.func143,Tryz.ntmps143;go_wp2_with fail
 all_goals
  first
  | (have e1:(1000000000:Int)=r:=uH ER _ (.inr ⟨rfl,by omega⟩);rw[e1])
  | (have e1:x.rounds+1=r:=uH ER _ (.inl ⟨rfl,by omega⟩);rw[e1])
  | (have e1:min (x.rounds+1) 1000000000=r:=uH ER _ (by omega);rw[e1])
  refine(b1b 0 b _ (FN.sb.bx.2.2.2.2.2.1) (by omega)).mono ?_;rintro e w2 ⟨rfl,hw2⟩;subst hw2;go_wp2_with fail;go_ret;exact⟨rfl,FN,XN⟩
theorem b7v(c:Cl)(bn i cb co:Nat)(w:World)(m1:w.cell? ⟨bn,i*2+1,none⟩=some (.pointer (some ⟨cb,co,none⟩)))(s:S7 w cb co c):
  Calls Tryz.prog 166 #[ndp bn i] w λe w'=>e=.returned (.bool (tJ c))/\w'=w:=by
 have s3:=s.2.2.2.1;cases q1:(c.last == 1)
 ·have E:=uU (show tJ c=(c.last == 2) by simp [tJ,q1]);go_enter Tryz.func166,Tryz.ntmps166;go_wp2_with fail;go_ret;exact⟨by rw[uH E];rfl,rfl⟩
 ·have E:=uU (show tJ c=true by simp [tJ,q1]);go_enter Tryz.func166,Tryz.ntmps166;go_wp2_with fail;go_ret;exact⟨by rw[uH E];rfl,rfl⟩
theorem SAt.hand[Inhabited uN](h:SAt B w b x ar kr v4 v8 br cB cO bn pb pa pk kn hd vf F vk K role)(hn:Int):
  SAt B (w.setCell ⟨b,6,none⟩ (iv hn)) b { x with hand:=hn } ar kr v4 v8 br cB cO bn pb pa pk kn hd vf F vk K role:=by
 refine h.boxed (x':={ x with hand:=hn }) (uX.setCell (S:=λq=>q=b) (uX.refl _ w) (p:=⟨b,6,none⟩) rfl _) (h.sb.nb.set _ _) rfl rfl rfl (h.sb.bx.set6 hn) (λk hk=>uC _ (.inr (by omega)))
theorem c3q[Inhabited uN](h:SAt B w b x ar kr v4 v8 br cB cO bn pb pa pk kn hd vf F vk K role)(hp:x.phase=1)(he:x.hand=x.cells.length)(a:World)(ha:a.heap.size<=B)(hx:Ext a w):
  Calls Tryz.prog 328 #[.agg #[.pointer (some ⟨b,0,none⟩)]] w λe w'=>e=.returned (zV (qC x).phase b)/\Hid (SAt B w' b (qC x) ar kr v4 v8 br cB cO bn pb pa pk kn hd vf F vk K role)/\Ext a w':=by
 have E:=uU (show qC x=dD x (1+1) 0 by unfold qC;rw[if_pos he];rfl);have H:=uU h;have HP:=uU hp;have XA:=(Ext.refl w).alloc (.cells #[.pointer (some ⟨b,0,none⟩)] 233);have QA:=uU (a6k x.hand b x.cells.length kn (some ⟨bn,0,none⟩) _ (XA.keep h.sb.bx.2.2.2.2.2.2.1) (XA.keep h.sb.n13) (by simpa using he));have XA2:=uU XA;have hbw:b<w.heap.size:=h.sb.nb.1;clear h hp he XA;go_enter Tryz.func328,Tryz.ntmps328;go_wp2_with fail;refine QA.mono ?_;rintro e w1 ⟨rfl,x1⟩;have r0:w1.cell? ⟨w.heap.size,0,none⟩=some (.pointer (some ⟨b,0,none⟩)):=x1.keep (by simp [go_sem]);have X1:=uU (XA2.trans x1);go_wp2_with fail;refine(a6n (H.ext X1) 1 HP rfl rfl (by omega) a ha (hx.trans X1)).mono ?_;rintro e w2 ⟨rfl,h2,x2⟩;go_wp2_with fail;go_ret;exact⟨by rw[uH E];rfl,by rw[uH E];exact uH h2,x2⟩
theorem c0c[Inhabited uN](h:SAt B w b x ar kr v4 v8 br cB cO bn pb pa pk kn hd vf F vk K role)(s:Snd x)(hp:x.phase=1)(i:Nat)(hi:x.hand=(i:Int))(hin:i<x.cells.length)(a:World)(ha:a.heap.size<=B)(hx:Ext a w):
  Calls Tryz.prog 328 #[.agg #[.pointer (some ⟨b,0,none⟩)]] w λe w'=>e=.returned (zV (qC x).phase b)/\Hid (SAt B w' b (qC x) ar kr v4 v8 br cB cO bn pb pa pk kn hd vf F vk K role)/\Ext a w':=by
 have ei:x.hand.toNat=i:=by omega
 have EU:=uU (show qC x={ (if tJ (x.c i)=true then uV x i else x) with hand:=(i:Int)+1 } by unfold qC;rw[if_neg (by omega),ei,hi]);have H:=uU h;have EP:=uU (show(qC x).phase=1 by rw[uH EU];split;exact((dH x i).2.2.2.2.2.1).trans hp;exact hp);have n8:=s.ok.n8;have XA:=(Ext.refl w).alloc (.cells #[.pointer (some ⟨b,0,none⟩)] 233);have c6:=h.sb.bx.2.2.2.2.2.2.1;rw[hi] at c6;have QA:=uU (a1k b x.cells.length kn bn i _ (XA.keep c6) (XA.keep h.sb.n13) hin);have GF:=uU ((a2v s.ok).2 i hin);have XA2:=uU XA;have hbw:b<w.heap.size:=h.sb.nb.1;have lo:=h.sb.lo.1;have HI:=uU hi;clear h hp XA s ei hi c6;go_enter Tryz.func328,Tryz.ntmps328;go_wp2_with fail;refine QA.mono ?_;rintro e w1 ⟨rfl,x1⟩;have r0:w1.cell? ⟨w.heap.size,0,none⟩=some (.pointer (some ⟨b,0,none⟩)):=x1.keep (by simp [go_sem]);have X1:=uU (XA2.trans x1);have H1:=uU (H.ext X1);have QS:=uU (b7v (x.c i) bn i (cB i) (cO i) w1 (H1.sb.nd i hin).2 (H1.rw.s i hin));clear x1 XA2 QA;go_wp2_with fail;refine QS.mono ?_;rintro e w2 ⟨rfl,hw2⟩;subst hw2;cases q:tJ (x.c i)
 ·have E:=uU (show qC x={ x with hand:=(i:Int)+1 } by rw[uH EU,q];rfl);have c6:w2.cell? ⟨b,6,none⟩=some (iv i):=by have:=H1.sb.bx.2.2.2.2.2.2.1;rw[uH HI] at this;exact this
  have f6:=H1.sb.nb.2 6;have hb1:b<w2.heap.size:=uL c6;have hb2:w.heap.size<w2.heap.size:=uL r0;have FN:=uU (H1.hand ((i:Int)+1));have XN:=uU ((hx.trans X1).setCell (p:=⟨b,6,none⟩) (show a.heap.size<=b by omega) (iv ((i:Int)+1)));go_wp2_with fail;go_ret;exact⟨by rw[uH EP];rfl,by rw[uH E];exact uH FN,XN⟩
 ·have E:=uU (show qC x={ uV x i with hand:=(i:Int)+1 } by rw[uH EU,q];rfl);go_wp2_with fail;refine(b4g i _ H1 hin GF a ha (hx.trans X1)).mono ?_;rintro e w3 ⟨rfl,h3,x3,fr⟩;have hb2:w.heap.size<w2.heap.size:=uL r0;have hbc:cB i<w.heap.size:=(H.rw.nc i hin).1.1;have r3:w3.cell? ⟨w.heap.size,0,none⟩=some (.pointer (some ⟨b,0,none⟩)):=(World.cell?_of_block (a:=⟨w.heap.size,0,none⟩) (fr w.heap.size hb2 (by omega) (by omega))).trans r0;have c6:w3.cell? ⟨b,6,none⟩=some (iv i):=by have:=h3.sb.bx.2.2.2.2.2.2.1;rw[(dH x i).2.2.2.2.2.2.1,uH HI] at this;exact this
  have f6:=h3.sb.nb.2 6;have hb1:b<w3.heap.size:=uL c6;have hb3:w.heap.size<w3.heap.size:=uL r3;have FN:=uU (h3.hand ((i:Int)+1));have XN:=uU (x3.setCell (p:=⟨b,6,none⟩) (show a.heap.size<=b by omega) (iv ((i:Int)+1)));clear r0 fr;go_wp2_with fail;go_ret;exact⟨by rw[uH EP];rfl,by rw[uH E];exact uH FN,XN⟩
structure Two(w wr:World)(x:Hp)(k:Nat)(v1 v2:Value)(L1 L2:List Int):Prop where
 e:Ext w wr
 s1:eX wr w.heap.size w.heap.size 0 v1 L1
 s2:eX wr w.heap.size (w.heap.size+1) 0 v2 L2
 d1:v1.ownBlock≠some (w.heap.size+1)
 d2:v2.ownBlock≠some w.heap.size
 d3:∀k,v2.ownBlock=some k->v1.ownBlock≠some k
 h1:Ho L1
 h2:Ho L2
 p1:L1.Perm (a7w x k)
 p2:L2.Perm (a5f x k)
theorem Two.len(h:Two w wr x k v1 v2 L1 L2):L1.length<=k/\L2.length<=k:=
 ⟨by rw[h.p1.length_eq];exact a2q _ _ _,by rw[h.p2.length_eq];exact a2q _ _ _⟩
theorem Two.ext(h:Two w wr x k v1 v2 L1 L2)(e:Ext wr w'):Two w w' x k v1 v2 L1 L2:=
 ⟨h.e.trans e,h.s1.ext e,h.s2.ext e,h.d1,h.d2,h.d3,h.h1,h.h2,h.p1,h.p2⟩
theorem Two.skip(h:Two w wr x k v1 v2 L1 L2)(s1:yY x 1 k=false)(s2:yY x 2 k=false):Two w wr x (k+1) v1 v2 L1 L2:=
 ⟨h.e,h.s1,h.s2,h.d1,h.d2,h.d3,h.h1,h.h2,by unfold a7w;rw[a2p _ _ _ s1];exact h.p1,by unfold a5f;rw[a2p _ _ _ s2];exact h.p2⟩
theorem Two.put1{v1':Value}{L1':List Int}(h:Two w wr x k v1 v2 L1 L2)(s1:yY x 1 k=true)(s2:yY x 2 k=false)
  (l:eX w' w.heap.size w.heap.size 0 v1' L1') (o:Ho L1') (p:L1'.Perm (b9n x k::L1)) (q:QFr w.heap.size 0 v1 v1' wr w'):Two w w' x (k+1) v1' v2 L1' L2:=by
 have hs:=h.s2.hlt;refine⟨q.ext h.e (Nat.le_refl _) (λk hk=>(h.s1.rlt k hk).1),l,h.s2.other q (by omega) h.d1 h.d2 h.d3,?_,h.d2,?_,o,h.h2,?_,by unfold a5f;rw[a2p _ _ _ s2];exact h.p2⟩
 ·rcases q.own with e | ⟨g,e,hg⟩
  ·rw[e];exact h.d1
  ·rw[e];intro f;cases f;omega
 ·intro k hk;rcases q.own with e | ⟨g,e,hg⟩
  ·rw[e];exact h.d3 k hk
  ·rw[e];intro f;cases f;have:=(h.s2.rlt k hk).2;omega
 ·unfold a7w;rw[a2o _ _ _ s1];exact(p.trans (h.p1.cons _)).trans (List.perm_append_singleton _ _).symm
theorem Two.put2{v2':Value}{L2':List Int}(h:Two w wr x k v1 v2 L1 L2)(s1:yY x 1 k=false)(s2:yY x 2 k=true)
  (l:eX w' w.heap.size (w.heap.size+1) 0 v2' L2') (o:Ho L2') (p:L2'.Perm (toOf x k::L2)) (q:QFr (w.heap.size+1) 0 v2 v2' wr w'):Two w w' x (k+1) v1 v2' L1 L2':=by
 have hs:=h.s1.hlt;refine⟨q.ext h.e (by omega) (λk hk=>(h.s2.rlt k hk).1),h.s1.other q (by omega) h.d2 h.d1 (λk h1 h2=>h.d3 k h2 h1),l,h.d1,?_,?_,h.h1,o,by unfold a7w;rw[a2p _ _ _ s1];exact h.p1,?_⟩
 ·rcases q.own with e | ⟨g,e,hg⟩
  ·rw[e];exact h.d2
  ·rw[e];intro f;cases f;omega
 ·intro k hk f;rcases q.own with e | ⟨g,e,hg⟩
  ·rw[e] at hk;exact h.d3 k hk f
  ·rw[e] at hk;cases hk;have:=(h.s1.rlt _ f).2;omega
 ·unfold a5f;rw[a2o _ _ _ s2];exact(p.trans (h.p2.cons _)).trans (List.perm_append_singleton _ _).symm
theorem Two.start(w:World)(x:Hp)(a b:TypeId):Two w ((w.alloc (.cells #[.slice none 0 0] a)).alloc (.cells #[.slice none 0 0] b)) x 0 (.slice none 0 0) (.slice none 0 0) [] []:=by
 refine⟨((Ext.refl w).alloc _).alloc _,eX.nil (by simp [go_sem]) (by simp [go_sem]),eX.nil (by simp [go_sem]) (by simp [go_sem]),by simp [Value.ownBlock],by simp [Value.ownBlock],by simp [Value.ownBlock],Ho.nil,Ho.nil,List.Perm.refl _,List.Perm.refl _⟩
theorem b1c{s:Int}(t:Int)(h:((x.c k).st == s)=true)(hne:s≠t):yY x t k=false:=by
 simp [yY] at *;omega
theorem b3p(x:Hp)(b:Nat)(w:World){ac:Option Addr}{kc:Nat}{ag:Option Addr}{kg:Nat}{an:Option Addr}{base:Nat}(h:VAt w b x ar kr ac kc ag kg an kn)(hF:FAt w b x base vf F)(hn:x.cells.length<=8000):
  Calls Tryz.prog 108 #[.pointer (some ⟨b,0,none⟩)] w λe w'=>∃r:Bool,Hid (e=.returned (.bool r))/\(r=true↔R2 x)/\Ext w w':=by
 have n13:=h.n13;have hb:b<w.heap.size:=uL n13;have HV:=uU h;have HFF:=uU hF;clear h hF;go_enter Tryz.func108,Tryz.ntmps108;go_wp2_with fail;go_loopw [12] (λi wr=>∃(k:Nat) (v1 v2:Value) (L1 L2:List Int),k<=x.cells.length/\i=.int .i64 k/\Hid (∀j,j<k->cE x j)/\Two w wr x k v1 v2 L1 L2) (λi _=>x.cells.length-(intOf i).toNat)
 case atStart=>exact⟨0,_,_,[],[],Nat.zero_le _,rfl,λj hj=>by omega,Two.start w x _ _⟩
 case round=>
  clear n13;obtain⟨k,v1,v2,L1,L2,hk,rfl,HA,htwo⟩:=hrel;have TW:=uU htwo;by_cases hlt:k<x.cells.length
  ·have hv:=HV.ext htwo.e;have hff:=HFF.ext htwo.e;obtain⟨bn,on,bc,oc,rfl,rfl,m0,m1⟩:=hv.N k hlt;obtain⟨bc2,oc2,ap,kp,e2,C⟩:=hv.H.cell k hlt;cases e2;have p0:=C.p0;have p4:=C.p4;have p6:=C.p6;have d13:=hv.n13;have HC:=uU C;have HV1:=uU hv;have HF1:=uU hff;have hk0:(0:Int)<=(k:Int):=by omega
   have hk1:(k:Int)<(x.cells.length:Int):=by omega
   have hbs:w.heap.size<=wr.heap.size:=htwo.e.size;have hl1:L1.length<=1000000000:=by have:=htwo.len.1;omega
   have hl2:L2.length<=1000000000:=by have:=htwo.len.2;omega
   clear htwo C hv hff
   have step:cE x k->Hid (∀j,j<k+1->cE x j):=λhc j hj=>by
    by_cases e:j=k
    ·rw[e];exact hc
    ·exact HA j (by omega)
   have ST:=uU step;clear step;cases s0:((x.c k).st == 0)
   ·cases s1:((x.c k).st == 1)
    ·cases s2:((x.c k).st == 2)
     ·have N:=uU (show ¬R2 x from λr=>by
       have:=r.1 k hlt;unfold cE at this;simp at s0 s1 s2;omega)
      go_wp2_with fail;go_ret;exact⟨false,rfl,⟨λf=>by simp at f,λr=>(N r).elim⟩,TW.e⟩
     ·go_wp2_with fail;refine(b3j x b k _ HV1 HF1 hlt bn on rfl).mono ?_;rintro e w2 ⟨r,rfl,hr,hq⟩;have T2:=uU (TW.ext hq);cases r
      ·have N:=uU (show ¬R2 x from λr=>by
        have h2:=r.1 k hlt;unfold cE at h2;have h3:(x.c k).st=2:=by simpa using s2
        have:=hr.2 (by rcases h2 with h2 | h2 | h2 <;> first | exact h2.2 | omega);simp at this)
       clear hr;go_wp2_with fail;go_ret;exact⟨false,rfl,⟨λf=>by simp at f,λr=>(N r).elim⟩,T2.e⟩
      ·have OK:=uU (ST (.inr (.inl ⟨by simpa using s2,hr.1 rfl⟩)));have u6:=hq.keep p6;have um:=hq.keep m1;clear hr;go_wp2_with fail;refine(b2j _ w.heap.size (w.heap.size+1) 0 v2 L2 (x.c k).to T2.s2 (Nat.le_trans hbs hq.size) T2.h2 (by omega)).mono ?_;rintro e w3 ⟨rfl,v3,L3,l3,o3,p3,q3⟩;have T3:=uU (T2.put2 (b1c 1 s2 (by omega)) s2 l3 o3 p3 q3);clear l3 o3 p3 q3;go_wp2_with fail;go_roundw
       case rel=>exact⟨k+1,v1,v3,L1,L3,by omega,by go_num,OK,T3⟩
       case measure=>simp [intOf];omega
    ·go_wp2_with fail;refine(b5h x (x.c k) b bn (on+k*2) _ _ ap kp _ HV1.H.c2 m1 HC).mono ?_;rintro e w2 ⟨r,rfl,hr,hq⟩;have T2:=uU (TW.ext hq);cases r
     ·have N:=uU (show ¬R2 x from λr=>by
       have h2:=r.1 k hlt;unfold cE at h2;have h3:(x.c k).st=1:=by simpa using s1
       have:=hr.2 (by rcases h2 with h2 | h2 | h2 <;> first | exact h2.2 | omega);simp at this)
      clear hr;go_wp2_with fail;go_ret;exact⟨false,rfl,⟨λf=>by simp at f,λr=>(N r).elim⟩,T2.e⟩
     ·have OK:=uU (ST (.inr (.inr ⟨by simpa using s1,hr.1 rfl⟩)));have u4:=hq.keep p4;have um:=hq.keep m1;clear hr;go_wp2_with fail;refine(b2j _ w.heap.size w.heap.size 0 v1 L1 (x.c k).born T2.s1 (Nat.le_trans hbs hq.size) T2.h1 (by omega)).mono ?_;rintro e w3 ⟨rfl,v3,L3,l3,o3,p3,q3⟩;have T3:=uU (T2.put1 s1 (b1c 2 s1 (by omega)) l3 o3 p3 q3);clear l3 o3 p3 q3;go_wp2_with fail;go_roundw
      case rel=>exact⟨k+1,v3,v2,L3,L2,by omega,by go_num,OK,T3⟩
      case measure=>simp [intOf];omega
   ·have S0:=uU (show(x.c k).st=0 by simpa using s0);go_wp2_with fail;refine(b7f (x.c k) bn (on+k*2) _ _ ap kp _ m1 HC).mono ?_;rintro e w2 ⟨rfl,rfl⟩;cases tb:tQ (x.c k)
    ·have N:=uU (show ¬R2 x from λr=>by
      have h2:=r.1 k hlt;unfold cE at h2;have h3:=uH S0;have:yX (x.c k):=by rcases h2 with h2 | h2 | h2 <;> first | exact h2.2.1 | omega
      rw[<-a7a,tb] at this;simp at this)
     go_wp2_with fail;go_ret;exact⟨false,rfl,⟨λf=>by simp at f,λr=>(N r).elim⟩,TW.e⟩
    ·cases tt:((x.c k).to == 0)
     ·have tt2:((x.c k).to != 0)=true:=by simpa using tt
      have N:=uU (show ¬R2 x from λr=>by
       have h2:=r.1 k hlt;unfold cE at h2;have h3:=uH S0;simp at tt;omega)
      go_wp2_with fail;go_ret;exact⟨false,rfl,⟨λf=>by simp at f,λr=>(N r).elim⟩,TW.e⟩
     ·have tt2:((x.c k).to != 0)=false:=by simpa using tt
      have OK:=uU (ST (.inl ⟨S0,a7a.1 tb,by simpa using tt⟩));have T3:=uU (TW.skip (b1c 1 s0 (by omega)) (b1c 2 s0 (by omega)));go_wp2_with fail;go_roundw
      case rel=>exact⟨k+1,v1,v2,L1,L2,by omega,by go_num,OK,T3⟩
      case measure=>simp [intOf];omega
  ·have hk2:k=x.cells.length:=by omega
   have A1:=uU (show ∀j,j<x.cells.length->cE x j from λj hj=>uH HA j (by omega));have AP:=uU (c2m x A1);have P1:=uU (show L1.Nodup↔(a7w x x.cells.length).Nodup by have:=htwo.p1;rw[hk2] at this;exact this.nodup_iff);have P2:=uU (show L2.Nodup↔(a5f x x.cells.length).Nodup by have:=htwo.p2;rw[hk2] at this;exact this.nodup_iff);have hl1:L1.length<=1000000000:=by have:=htwo.len.1;omega
   have hl2:L2.length<=1000000000:=by have:=htwo.len.2;omega
   clear htwo hk2;go_wp2_with fail;refine(b2k _ w.heap.size w.heap.size 0 v1 L1 TW.s1 TW.h1 hl1).mono ?_;rintro e w2 ⟨r,rfl,hr,v3,q3⟩;have E2:=uU (q3.ext TW.e (Nat.le_refl _) (λk hk=>(TW.s1.rlt k hk).1));have S2:=uU (TW.s2.other q3 (by omega) TW.d1 TW.d2 TW.d3);clear q3;cases r
   ·have N:=uU (show ¬R2 x from λr=>by
     have:=hr.2 (P1.2 (AP.1 r.2).1);simp at this)
    clear hr;go_wp2_with fail;go_ret;exact⟨false,rfl,⟨λf=>by simp at f,λr=>(N r).elim⟩,E2⟩
   ·have B1:=uU (P1.1 (hr.1 rfl));clear hr;go_wp2_with fail;refine(b2k _ w.heap.size (w.heap.size+1) 0 v2 L2 S2 TW.h2 hl2).mono ?_;rintro e w3 ⟨r,rfl,hr,v4,q4⟩;have E3:=uU (q4.ext E2 (by omega) (λk hk=>(S2.rlt k hk).1));have RR:=uU (show r=true↔R2 x from⟨λe=>⟨A1,AP.2 ⟨B1,P2.1 (hr.1 e)⟩⟩,λq=>hr.2 (P2.2 (AP.1 q.2).2)⟩);clear q4 hr;go_wp2_with fail;go_ret;exact⟨r,rfl,RR,E3⟩
end Go.Proofs.YtddkhnclmeikfaaGreat
