import Derived.Test.YtddkhnclmeikfaaGreatAy
import Derived.Test.YtddkhnclmeikfaaGreatBb
namespace Go.Proofs.YtddkhnclmeikfaaGreat
open Go.RowKit
def Wp:Hp→List Ak→(Hp→List Int→Prop)→Prop
 | x,[],Q=>Q x []
 | x,A::L,Q=>∀y cd nm,DoIs x A.op A.a A.b A.c A.n y cd nm→Snd y→cd=0∧Wp y L (fun z M=>Q z (nm::M))
theorem Wp.mono:∀{L:List Ak} {x:Hp} {Q P:Hp→List Int→Prop},Wp x L Q→(∀z M,Q z M→P z M)→Wp x L P
 | [],_,_,_,h,i=>i _ _ h
 | _::_,_,_,_,h,i=>fun y cd nm d s=>⟨(h y cd nm d s).1,Wp.mono (h y cd nm d s).2 (fun z M=>i z (nm::M))⟩
theorem Wp.app:∀{L M:List Ak} {x:Hp} {Q:Hp→List Int→Prop},Wp x L (fun z A=>Wp z M (fun z' B=>Q z' (A++B)))→Wp x (L++M) Q
 | [],_,_,_,h=>h
 | _::_,_,_,_,h=>fun y cd nm d s=>⟨(h y cd nm d s).1,Wp.app (h y cd nm d s).2⟩
def ak(op a b c:Nat):Ak:=⟨op,a,b,c,0⟩
theorem Wp.act{op a b c:Nat}{x:Hp}{L:List Ak}{Q:Hp→List Int→Prop}(ok:actOkB op a b c 0=true)(h:∀y cd nm,DoR x a b c 0 y cd nm op→Snd y→cd=0∧Wp y L (fun z M=>Q z (nm::M))):Wp x (ak op a b c::L) Q:=fun y cd nm d s=>by
 rcases d with⟨no,_⟩ | ⟨_,d⟩
 ·have no:actOkB op a b c 0=false:=no;rw[ok] at no;cases no
 ·exact h y cd nm (by simpa [ak] using d) s
theorem ok_of{op a b c:Nat}(h1:1≤op)(h2:op≤24)(ha:(a:Int)≤actA op)(hb:(b:Int)≤actB op)(hc:(c:Int)≤actC op):actOkB op a b c 0=true:=by
 unfold actOkB;simp only [Bool.and_eq_true,decide_eq_true_eq];exact⟨⟨⟨by omega,by omega⟩,.inl trivial⟩,⟨by omega,ha⟩,⟨by omega,hb⟩,by omega,hc⟩
theorem make_of{x:Hp}{a c:Nat}{y:Hp}{cd nm:Int}(h:MakeIs x a 0 c y cd nm)(pr:x.per=0)(rm:x.room=1000)(us:x.used+(1+c)≤1000)(bn:x.born≤1000):cd=0∧nm=0∧y=regTo (makeH x 0 c) a ⟨2,0,fstFree x⟩:=by
 obtain⟨h0,⟨e,_⟩ | ⟨_,z,hz,h⟩⟩:=h
 ·omega
 ·have ft:fitsB x (1+c)=true:=by unfold fitsB;rw[rm];simp only [decide_eq_true_eq];omega
  rcases hz with⟨_,rfl⟩ | ⟨f,_⟩
  ·rcases h with⟨f,_⟩ | ⟨_,e,p⟩
   ·rw[ft] at f;cases f
   ·refine⟨e,h0,?_⟩;rcases p with⟨_,p⟩ | ⟨f,_⟩
    ·exact p
    ·unfold paceB at f;have:(regTo (makeH z ((0:Nat):Int) c) a ⟨2,0,fstFree z⟩).per=0:=pr;rw[this] at f;simp at f
  ·rw[ft] at f;cases f
section
variable {x : Hp} {F : Nat → Nat} {m n : Nat} {wk : Int} {R K V : Nat → Option Nat} {U : Int} {L : List Ak} {Q : Hp → List Int → Prop}
theorem Sm.wNil(h:Sm x F m n wk R K V U)(a:Nat)(ha:a<16)(k:∀y,Sm y F m n wk (upd R a none) K V U→Wp y L (fun z M=>Q z (0::M))):Wp x (ak 3 a 0 0::L) Q:=
 Wp.act (ok_of (by omega) (by omega) (by show(a:Int)≤15;omega) (by decide) (by decide)) fun y cd nm d s=>by
  obtain⟨rfl,rfl,rfl⟩:=d;exact⟨rfl,k _ (h.reg a ha _ none (by show(0:Int)≠2;omega) s)⟩
theorem Sm.wCopy(h:Sm x F m n wk R K V U)(a b:Nat)(ha:a<16)(hb:b<16)(k:∀y,Sm y F m n wk (upd R a (R b)) K V U→Wp y L (fun z M=>Q z (0::M))):Wp x (ak 4 a b 0::L) Q:=
 Wp.act (ok_of (by omega) (by omega) (by show(a:Int)≤15;omega) (by show(b:Int)≤15;omega) (by decide)) fun y cd nm d s=>by
  obtain⟨rfl,rfl,rfl⟩:=d;exact⟨rfl,k _ (h.reg a ha _ _ (h.rg b hb) s)⟩
theorem Sm.wNew(h:Sm x F m n wk R K V U)(hU:U+1≤1000)(a:Nat)(ha:a<16)(k:∀y F,Sm y F (m+1) n wk (upd R a (some m)) K V (U+1)→Wp y L (fun z M=>Q z (0::M))):Wp x (ak 1 a 0 0::L) Q:=
 Wp.act (ok_of (by omega) (by omega) (by show(a:Int)≤15;omega) (by decide) (by decide)) fun y cd nm d s=>by
  have:=h.us;have:=h.bn;obtain⟨rfl,rfl,rfl⟩:=make_of d h.per h.rm (by omega) (by omega);exact⟨rfl,k _ _ (h.make a ha s)⟩
theorem Sm.wWeak(h:Sm x F m n wk R K V U)(a c:Nat)(ha:a<16)(hc:c≤3)(r:R a=some 0)(k:∀y,Sm y F m n c R K V U→Wp y L (fun z M=>Q z (0::M))):Wp x (ak 11 a 0 c::L) Q:=
 Wp.act (ok_of (by omega) (by omega) (by show(a:Int)≤15;omega) (by decide) (by show(c:Int)≤3;omega)) fun y cd nm d s=>by
  have q:=h.at a ha 0 r;rcases d with⟨e,_⟩ | ⟨_,e,rfl,rfl⟩
  ·exact(e q.1).elim
  ·rw[q.2] at e;subst e;exact⟨rfl,k _ (h.weak c s)⟩
theorem Sm.wKey(h:Sm x F m n wk R K V U)(b c:Nat)(hb:b<16)(hn:n≤200)(hc:c<n)(r:R 0=some 0)(k:∀y,Sm y F m n wk R (upd K c (R b)) V U→Wp y L (fun z M=>Q z (0::M))):Wp x (ak 7 0 b c::L) Q:=
 Wp.act (ok_of (by omega) (by omega) (by decide) (by show(b:Int)≤15;omega) (by show(c:Int)≤199;omega)) fun y cd nm d s=>by
  have q:=h.at 0 (by omega) 0 r;rcases d with⟨e,_⟩ | ⟨_,e,_⟩ | ⟨_,_,e,rfl,rfl⟩
  ·exact(e q.1).elim
  ·rw[q.2,h.l0] at e;omega
  ·rw[q.2] at e;subst e;exact⟨rfl,k _ (h.put c b hc hb (R b) rfl _ _ rfl (.inl ⟨rfl,rfl,rfl⟩) s)⟩
theorem Sm.wVal(h:Sm x F m n wk R K V U)(b c:Nat)(hb:b<16)(hn:n≤200)(hc:c<n)(r:R 0=some 0)(k:∀y,Sm y F m n wk R K (upd V c (R b)) U→Wp y L (fun z M=>Q z (0::M))):Wp x (ak 8 0 b c::L) Q:=
 Wp.act (ok_of (by omega) (by omega) (by decide) (by show(b:Int)≤15;omega) (by show(c:Int)≤199;omega)) fun y cd nm d s=>by
  have q:=h.at 0 (by omega) 0 r;rcases d with⟨e,_⟩ | ⟨_,e,_⟩ | ⟨_,_,e,rfl,rfl⟩
  ·exact(e q.1).elim
  ·rw[q.2,h.l0] at e;omega
  ·rw[q.2] at e;subst e;exact⟨rfl,k _ (h.put c b hc hb (R b) rfl _ _ rfl (.inr ⟨rfl,rfl,rfl⟩) s)⟩
theorem Sm.wStep(h:Sm x F m n wk R K V U)(u:Nat)(hu:u≤100000)(c:Rch m n R K V)(k:∀y F,Sm y F m n wk R K V U→Wp y L (fun z M=>Q z (0::M))):Wp x (ak 22 0 0 u::L) Q:=
 Wp.act (ok_of (by omega) (by omega) (by decide) (by decide) (by show(u:Int)≤100000;omega)) fun y cd nm d s=>by
  obtain⟨rfl,rfl,j,_,rfl⟩:=d;obtain⟨G,g⟩:=h.step c u j;exact⟨rfl,k _ G g⟩
theorem Sm.wSize(h:Sm x F m n wk R K V U)(r:R 0=some 0)(k:Wp x L (fun z M=>Q z ((n:Int)::M))):Wp x (ak 17 0 0 0::L) Q:=
 Wp.act (ok_of (by omega) (by omega) (by decide) (by decide) (by decide)) fun y cd nm d s=>by
  have q:=h.at 0 (by omega) 0 r;rcases d with⟨e,_⟩ | ⟨_,rfl,rfl,e⟩
  ·exact(e q.1).elim
  ·rw[q.2,h.l0] at e;subst e;exact⟨rfl,k⟩
theorem Sm.wCount(h:Sm x F m n wk R K V U)(q:Nat)(hq:q+1≤m)(hP:∀i,Held x i↔∃j,j<q+1∧i=F j)(k:Wp x L (fun z M=>Q z (((q+1+n:Nat):Int)::M))):Wp x (ak 20 0 0 0::L) Q:=
 Wp.act (ok_of (by omega) (by omega) (by decide) (by decide) (by decide)) fun y cd nm d s=>by
  obtain⟨rfl,rfl,e⟩:=d;have e:=h.sum q hq hP e;subst e;exact⟨rfl,by simpa using k⟩
theorem Sm.wLive(h:Sm x F m n wk R K V U)(q:Nat)(hq:q+1≤m)(hP:∀i,Reached x i↔∃j,j<q+1∧i=F j)(k:Wp x L (fun z M=>Q z (((q+1+n:Nat):Int)::M))):Wp x (ak 21 0 0 0::L) Q:=
 Wp.act (ok_of (by omega) (by omega) (by decide) (by decide) (by decide)) fun y cd nm d s=>by
  obtain⟨rfl,rfl,e⟩:=d;have e:=h.sum q hq hP e;subst e;exact⟨rfl,by simpa using k⟩
theorem Sm.wSettle(h:Sm x F m n 1 R K V U)(b:Bool)(hK:∀p,p<n→K p=some (p+1))(h0:Held x (F 0))(hb:∀p,p<n→(Held x (F (p+1))↔b=true))(k:∀y,Sm y F m (if b then n else 0) 1 R K V U→Wp y L (fun z M=>Q z (0::M))):Wp x (ak 18 0 0 0::L) Q:=
 Wp.act (ok_of (by omega) (by omega) (by decide) (by decide) (by decide)) fun y cd nm d s=>by
  obtain⟨rfl,H,hH,rfl,rfl⟩:=d;rw[due_none h.ns];refine⟨rfl,k _ ?_⟩;have st:=h.goes H hK b (fun p hp=>by have:=(hH (F (p+1))).trans (hb p hp);cases e:H (F (p+1)) <;> cases b <;> simp_all);cases b
  ·exact h.settle H ((hH _).2 h0) s (by rw[st];rfl) (fun p hp=>absurd hp (by simp)) (fun p hp=>absurd hp (by simp))
  ·have e:letC x H (x.c (F 0))=x.c (F 0):=by unfold letC;rw[st];rfl
   exact h.settle H ((hH _).2 h0) s (by rw[st];exact h.l0) (fun p hp=>by rw[e];exact h.ky p hp) (fun p hp=>by rw[e];exact h.vl p hp)
end
def loopA(u i:Nat):List Ak:=[ak 7 0 1 i,ak 1 2 0 0,ak 8 0 2 i,ak 22 0 0 u,ak 4 1 2 0]
def loopN(u:Nat):Nat→List Ak
 | 0=>[]
 | i+1=>loopN u i++loopA u i
def headA(n:Nat):List Ak:=[ak 1 0 0 n,ak 11 0 0 1,ak 1 1 0 0,ak 4 3 1 0]
def tailA(u:Nat):List Ak:=[ak 3 1 0 0,ak 3 2 0 0,ak 18 0 0 0,ak 22 0 0 u,ak 17 0 0 0,ak 20 0 0 0,ak 3 3 0 0,ak 20 0 0 0,ak 18 0 0 0,ak 22 0 0 u,ak 17 0 0 0,ak 21 0 0 0]
def chainA(n u:Nat):List Ak:=headA n++loopN u n++tailA u
def tailM(n:Nat):List Int:=[0,0,0,0,(n:Int),(2*n+2:Nat),0,(n+1:Nat),0,0,0,1]
def chainM(n:Nat):List Int:=[0,0,0,0]++List.replicate (5*n) 0++tailM n
def Rl(i:Nat):Nat→Option Nat:=fun k=>if k=0 then some 0 else if k=1 then some (i+1) else if k=2 then (if i=0 then none else some (i+1)) else if k=3 then some 1 else none
def KK(i:Nat):Nat→Option Nat:=fun p=>if p<i then some (p+1) else none
def VV(i:Nat):Nat→Option Nat:=fun p=>if p<i then some (p+2) else none
theorem upd_KK(i:Nat):upd (KK i) i (some (i+1))=KK (i+1):=funext fun p=>by
 unfold upd KK;by_cases e:p=i
 ·subst e;simp
 ·rw[if_neg e];by_cases l:p<i
  ·rw[if_pos l,if_pos (by omega)]
  ·rw[if_neg l,if_neg (by omega)]
theorem upd_VV(i:Nat):upd (VV i) i (some (i+2))=VV (i+1):=funext fun p=>by
 unfold upd VV;by_cases e:p=i
 ·subst e;simp
 ·rw[if_neg e];by_cases l:p<i
  ·rw[if_pos l,if_pos (by omega)]
  ·rw[if_neg l,if_neg (by omega)]
theorem upd_Rl(i:Nat):upd (upd (Rl i) 2 (some (i+2))) 1 (some (i+2))=Rl (i+1):=funext fun k=>by
 unfold upd Rl;by_cases a:k=1
 ·subst a;simp
 ·by_cases b:k=2
  ·subst b;simp
  ·simp [a,b]
theorem chain_head(n:Nat)(h1:1≤n)(h2:n≤60):Wp (frH 1000) (headA n) (fun z M=>(∃F,Sm z F 2 n 1 (Rl 0) (KK 0) (VV 0) (n+2))∧M=[0,0,0,0]):=
 Wp.act (ok_of (by omega) (by omega) (by decide) (by decide) (by show(n:Int)≤200;omega)) fun y cd nm d s=>by
  obtain⟨rfl,rfl,rfl⟩:=make_of d rfl rfl (by show(0:Int)+(1+n)≤1000;omega) (by show(0:Int)≤1000;omega);refine⟨rfl,(Sm.first n s).wWeak 0 1 (by omega) (by omega) rfl fun y h=>h.wNew (by omega) 1 (by omega) fun y F h=>h.wCopy 3 1 (by omega) (by omega) fun y h=>⟨⟨F,?_⟩,rfl⟩⟩
  have e1:upd (upd (upd (fun _=>none) 0 (some 0)) 1 (some 1)) 3 (upd (upd (fun _=>none) 0 (some 0)) 1 (some 1) 1)=Rl 0:=funext fun k=>by
   unfold upd Rl;by_cases a:k=3
   ·subst a;rfl
   ·by_cases b:k=1
    ·subst b;rfl
    ·by_cases c:k=0
     ·subst c;rfl
     ·simp [a,b,c]
  have e2:KK 0=fun _=>none:=funext fun p=>by simp [KK]
  have e3:VV 0=fun _=>none:=funext fun p=>by simp [VV]
  rw[e1] at h;rw[e2,e3];exact { h with us:=by have:=h.us;omega,bn:=by have:=h.bn;omega }
theorem chain_loop(n u:Nat)(h2:n≤60)(hu:u≤20){x:Hp}(h:∃F,Sm x F 2 n 1 (Rl 0) (KK 0) (VV 0) (n+2)):∀i,i≤n→Wp x (loopN u i) (fun z M=>(∃F,Sm z F (i+2) n 1 (Rl i) (KK i) (VV i) (n+2+i))∧M=List.replicate (5*i) 0)
 | 0,_=>by obtain⟨F,h⟩:=h;exact⟨⟨F,{ h with us:=by have:=h.us;omega,bn:=by have:=h.bn;omega }⟩,rfl⟩
 | i+1,hi=>by
  refine Wp.app ((chain_loop n u h2 hu h i (by omega)).mono ?_);rintro z M ⟨⟨F,h⟩,rfl⟩;refine h.wKey 1 i (by omega) (by omega) (by omega) rfl fun y h=>?_
  have e1:upd (KK i) i (Rl i 1)=KK (i+1):=upd_KK i;rw[e1] at h;refine h.wNew (by omega) 2 (by omega) fun y F h=>h.wVal 2 i (by omega) (by omega) (by omega) rfl fun y h=>?_
  have e2:upd (VV i) i (upd (Rl i) 2 (some (i+2)) 2)=VV (i+1):=upd_VV i;rw[e2] at h;refine h.wStep u (by omega) ⟨rfl,fun j a b=>?_⟩ fun y F h=>h.wCopy 1 2 (by omega) (by omega) fun y h=>?_
  ·by_cases q:j=1
   ·exact .inl ⟨3,by omega,by rw[q];rfl⟩
   ·refine .inr ⟨j-2,by omega,.inr ?_⟩;unfold VV;rw[if_pos (by omega)];congr 1;omega
  ·have e3:upd (upd (Rl i) 2 (some (i+2))) 1 (upd (Rl i) 2 (some (i+2)) 2)=Rl (i+1):=upd_Rl i;rw[e3] at h;refine⟨⟨F,{ h with us:=by have:=h.us;push_cast;omega,bn:=by have:=h.bn;push_cast;omega }⟩,?_⟩;show List.replicate (5*i) (0:Int)++List.replicate 5 0=_;rw[List.replicate_append_replicate];rfl
theorem chain_tail(n u:Nat)(h1:1≤n)(hu:u≤20){x:Hp}{F:Nat→Nat}{U:Int}(h:Sm x F (n+2) n 1 (Rl n) (KK n) (VV n) U):Wp x (tailA u) (fun z M=>Snd z∧M=tailM n):=by
 have hK:∀p,p<n→KK n p=some (p+1):=fun p hp=>if_pos hp
 have hV:∀p,p<n→VV n p=some (p+2):=fun p hp=>if_pos hp
 refine h.wNil 1 (by omega) fun y h=>h.wNil 2 (by omega) fun y h=>?_
 have ha:=h.held rfl rfl hK hV;refine h.wSettle true hK (ha 0 (by omega)) (fun p hp=>⟨fun _=>rfl,fun _=>ha (p+1) (by omega)⟩) fun y h=>?_
 have h:Sm y F (n+2) n 1 _ _ _ _:=h;refine h.wStep u (by omega) ⟨rfl,fun j a b=>?_⟩ fun y F h=>h.wSize rfl ?_
 ·by_cases q:j=1
  ·exact .inl ⟨3,by omega,by rw[q];rfl⟩
  ·refine .inr ⟨j-2,by omega,.inr ?_⟩;unfold VV;rw[if_pos (by omega)];congr 1;omega
 have ha:=h.held rfl rfl hK hV;refine h.wCount (n+1) (by omega) (fun i=>⟨fun q=>h.node (Held.reached h.s.r2 q),fun⟨j,hj,e⟩=>by rw[e];exact ha j hj⟩) ?_;refine h.wNil 3 (by omega) fun y h=>?_
 have e1:upd (upd (upd (Rl n) 1 none) 2 none) 3 none=upd (fun _=>none) 0 (some 0):=funext fun k=>by
  unfold upd Rl;by_cases a:k=3
  ·subst a;rfl
  ·by_cases b:k=2
   ·subst b;rfl
   ·by_cases c:k=1
    ·subst c;rfl
    ·by_cases d:k=0
     ·subst d;rfl
     ·simp [a,b,c,d]
 rw[e1] at h;have on:=h.heldOne rfl (fun k hk=>if_neg hk) hK;refine h.wCount 0 (by omega) (fun i=>(on i).trans ⟨fun e=>⟨0,by omega,e⟩,fun⟨j,hj,e⟩=>by rw[e,show j=0 by omega]⟩) ?_;refine h.wSettle false hK ((on _).2 rfl) (fun p hp=>⟨fun q=>?_,fun q=>by cases q⟩) fun y h=>?_
 ·have:=h.ij (p+1) 0 (by omega) (by omega) ((on _).1 q);omega
 have h:Sm y F (n+2) 0 1 _ _ _ _:=h;have h:=h.one (fun k j e=>by unfold upd at e;split at e <;> simp at e;omega);refine h.wStep u (by omega) ⟨rfl,fun j a b=>by omega⟩ fun y F h=>h.wSize rfl ?_
 refine h.wLive 0 (by omega) (fun i=>⟨fun q=>h.node q,fun⟨j,hj,e⟩=>by rw[e];exact h.reached ⟨rfl,fun j a b=>by omega⟩ j hj⟩) ?_;refine⟨h.s,?_⟩;unfold tailM;rw[show n+1+1+n=2*n+2 by omega,show 0+1+n=n+1 by omega];rfl
theorem chain_all(n u:Nat)(h1:1≤n)(h2:n≤60)(hu:u≤20):Wp (frH 1000) (chainA n u) (fun z M=>Snd z∧M=chainM n):=by
 refine Wp.app (Wp.app ((chain_head n h1 h2).mono ?_));rintro z M ⟨h,rfl⟩;refine(chain_loop n u h2 hu h n (Nat.le_refl _)).mono ?_;rintro z M ⟨⟨F,h⟩,rfl⟩;refine(chain_tail n u h1 hu h).mono ?_;rintro z M ⟨s,rfl⟩;exact⟨s,rfl⟩
end Go.Proofs.YtddkhnclmeikfaaGreat
