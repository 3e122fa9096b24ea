import Derived.Test.YtddkhnclmeikfaaGreatHx
set_option maxRecDepth 100000
set_option maxHeartbeats 1000000
namespace Go.Proofs.YtddkhnclmeikfaaGreat
open Go.RowKit
attribute [local go_sem ↓] Go.wp_at_zero Go.wp_at_succ
variable{w:World}{v:Value}{B n c:Nat}{xs:List Value}{t:TypeId}
theorem c0z(xs:List Wd)(v:Value)(w:World)(h:SlW w v xs)(hn:xs.length<=1048576):
  Calls Tryz.prog 210 #[v] w λe w'=>∃v',e=.returned v'/\w'.ownsRow w.heap.size 152 3 v' xs.length (xs.flatMap fW)/\Ext w w':=by
 obtain⟨i0,hi0,hz0,hz1,hz2⟩:=info_parts b4w;obtain⟨ad,cap,rfl,_,hx⟩:=h;have HX:=uU hx;clear hx;cases ad with
 | none=>
  have hl:xs.length=0:=by
   rcases Nat.eq_zero_or_pos xs.length with h | h
   ·exact h
   ·obtain⟨b,o,e,_⟩:=HX 0 h;cases e
  have hx0:xs=[]:=List.eq_nil_of_length_eq_zero hl;subst hx0;clear HX hl;have hq:∀W,(binOp .eql 30 (.slice none 0 cap) (.slice none 0 0)).run Tryz.prog W=.ok (.bool true) W:=λ_=>by kernel_rfl
  simp only [List.length_nil];go_enter Tryz.func210,Tryz.ntmps210;go_wp2_with fail;go_ret;exact⟨_,rfl,World.ownsRow_nil _ _ _ _,Ext.refl _⟩
 | some ad=>
  have NW:=uU (show ∀W,Ext w W->∀j u,(xs.flatMap fW)[j]?=some u->W.cell? (ad.add j)=some u from λW e j u hu=>by
   rcases Nat.eq_zero_or_pos xs.length with h | h
   ·rw[List.eq_nil_of_length_eq_zero h] at hu;simp at hu
   ·obtain⟨b,o,e0,_⟩:=HX 0 h;cases e0;refine a7h fW 3 (by omega) (λ_=>rfl) xs b o (λi hi j hj=>?_) j u hu;obtain⟨b2,o2,e2,q⟩:=uH HX i hi;cases e2;have q:=q.ext e;obtain⟨q0,q1,q2⟩:=q
    match j,hj with
    | 0,_=>exact q0
    | 1,_=>exact q1
    | 2,_=>exact q2
   )
  have V1:=uU (show ∀u,u∈xs.flatMap fW->u.oneCell'=true from b8e fW (λa u hu=>by simp [fW] at hu;rcases hu with e | e | e <;> subst e <;> rfl) xs);have hq:∀W n k,(binOp .eql 30 (.slice (some ad) n k) (.slice none 0 0)).run Tryz.prog W=.ok (.bool false) W:=λ_ _ _=>by kernel_rfl
  go_enter Tryz.func210,Tryz.ntmps210;go_wp2_with (at_builtin;refine wpList_append_own_at _ rfl _ _ 30 rfl w.heap.size 152 i0 (.agg #[iv 0,iv 0,iv 0]) 3 24 Tryz.underlying30 hi0 hz0 hz1 hz2 rfl (by decide) _ 0 [] rfl (World.ownsRow_made w #[] 0 (Nat.le_refl _) (by unfold maxLen;omega) rfl) ad xs.length cap (xs.flatMap fW) rfl (a4o fW 3 (λ_=>rfl) xs) (NW _ ((Ext.refl w).alloc _)) V1 (by unfold maxLen;omega) (by omega) (by simp) ?_);intro v' w' hown hgrow _ _;have FIN:=uU (And.intro hown (a2s ((Ext.refl w).alloc _) (World.ownsRow_made (e:=152) (size:=3) w #[] 0 (Nat.le_refl _) (by unfold maxLen;omega) rfl) (Nat.le_refl _) hgrow));clear hown hgrow;go_wp2_with fail;go_ret;exact⟨_,rfl,FIN.1,FIN.2⟩
theorem c1a(xs:List Pr)(v:Value)(w:World)(h:SlP w v xs)(hn:xs.length<=1048576):
  Calls Tryz.prog 212 #[v] w λe w'=>∃v',e=.returned v'/\w'.ownsRow w.heap.size 154 6 v' xs.length (xs.flatMap fP)/\Ext w w':=by
 obtain⟨i0,hi0,hz0,hz1,hz2⟩:=info_parts a4m;obtain⟨ad,cap,rfl,_,hx⟩:=h;have HX:=uU hx;clear hx;cases ad with
 | none=>
  have hl:xs.length=0:=by
   rcases Nat.eq_zero_or_pos xs.length with h | h
   ·exact h
   ·obtain⟨b,o,e,_⟩:=HX 0 h;cases e
  have hx0:xs=[]:=List.eq_nil_of_length_eq_zero hl;subst hx0;clear HX hl;have hq:∀W,(binOp .eql 60 (.slice none 0 cap) (.slice none 0 0)).run Tryz.prog W=.ok (.bool true) W:=λ_=>by kernel_rfl
  simp only [List.length_nil];go_enter Tryz.func212,Tryz.ntmps212;go_wp2_with fail;go_ret;exact⟨_,rfl,World.ownsRow_nil _ _ _ _,Ext.refl _⟩
 | some ad=>
  have NW:=uU (show ∀W,Ext w W->∀j u,(xs.flatMap fP)[j]?=some u->W.cell? (ad.add j)=some u from λW e j u hu=>by
   rcases Nat.eq_zero_or_pos xs.length with h | h
   ·rw[List.eq_nil_of_length_eq_zero h] at hu;simp at hu
   ·obtain⟨b,o,e0,_⟩:=HX 0 h;cases e0;refine a7h fP 6 (by omega) (λ_=>rfl) xs b o (λi hi j hj=>?_) j u hu;obtain⟨b2,o2,e2,q⟩:=uH HX i hi;cases e2;have q:=q.ext e;obtain⟨q0,q1,q2,q3,q4,q5⟩:=q
    match j,hj with
    | 0,_=>exact q0
    | 1,_=>exact q1
    | 2,_=>exact q2
    | 3,_=>exact q3
    | 4,_=>exact q4
    | 5,_=>exact q5
   )
  have V1:=uU (show ∀u,u∈xs.flatMap fP->u.oneCell'=true from b8e fP (λa u hu=>by simp [fP] at hu;rcases hu with e | e | e | e | e | e <;> subst e <;> rfl) xs);have hq:∀W n k,(binOp .eql 60 (.slice (some ad) n k) (.slice none 0 0)).run Tryz.prog W=.ok (.bool false) W:=λ_ _ _=>by kernel_rfl
  go_enter Tryz.func212,Tryz.ntmps212;go_wp2_with (at_builtin;refine wpList_append_own_at _ rfl _ _ 60 rfl w.heap.size 154 i0 (.agg #[iv 0,iv 0,iv 0,iv 0,iv 0,iv 0]) 6 48 Tryz.underlying60 hi0 hz0 hz1 hz2 rfl (by decide) _ 0 [] rfl (World.ownsRow_made w #[] 0 (Nat.le_refl _) (by unfold maxLen;omega) rfl) ad xs.length cap (xs.flatMap fP) rfl (a4o fP 6 (λ_=>rfl) xs) (NW _ ((Ext.refl w).alloc _)) V1 (by unfold maxLen;omega) (by omega) (by simp) ?_);intro v' w' hown hgrow _ _;have FIN:=uU (And.intro hown (a2s ((Ext.refl w).alloc _) (World.ownsRow_made (e:=154) (size:=6) w #[] 0 (Nat.le_refl _) (by unfold maxLen;omega) rfl) (Nat.le_refl _) hgrow));clear hown hgrow;go_wp2_with fail;go_ret;exact⟨_,rfl,FIN.1,FIN.2⟩
def CvAt(w:World)(b o:Nat)(z:Cl×Value):Prop:=∀j,j<8->w.cell? ⟨b,o+j,none⟩=(fC z)[j]?
theorem c7j{w:World}{v:Value}{xs:List Cl}(h:SlC w v xs):∃L:List (Cl×Value),L.map (·.1)=xs/\yU (CvAt w) 8 v L/\∀z,z∈L->SlP w z.2 z.1.F:=by
 obtain⟨ad,cap,rfl,hl,hx⟩:=h
 have hv:∀i,∃vp,∀(hi:i<xs.length),∃b o,ad=some ⟨b,o,none⟩/\CvAt w b (o+i*8) (xs[i],vp)/\SlP w vp xs[i].F:=λi=>by
  by_cases hi:i<xs.length
  ·obtain⟨b,o,e,vp,p0,p1,p2,p3,p4,p5,p6,p7,hP⟩:=hx i hi;refine⟨vp,λ_=>⟨b,o,e,λj hj=>?_,hP⟩⟩
   match j,hj with
   | 0,_=>exact p0
   | 1,_=>exact p1
   | 2,_=>exact p2
   | 3,_=>exact p3
   | 4,_=>exact p4
   | 5,_=>exact p5
   | 6,_=>exact p6
   | 7,_=>exact p7
  ·exact⟨.slice none 0 0,λh=>absurd h hi⟩
 have hm:=λi=>Classical.choose_spec (hv i)
 refine⟨(List.range xs.length).map (λi=>(xs.getD i Cl0,Classical.choose (hv i))),?_,⟨ad,cap,by simp,by simpa using hl,λi hi=>?_⟩,λz hz=>?_⟩
 ·refine List.ext_getElem (by simp) (λi h1 h2=>?_);simp [h2]
 ·have hi':i<xs.length:=by simpa using hi
  obtain⟨b,o,e,c,_⟩:=hm i hi';refine⟨b,o,e,?_⟩;simp only [List.getElem_map,List.getElem_range];have e2:xs.getD i Cl0=xs[i]:=by simp [hi']
  rw[e2];exact c
 ·obtain⟨i,hi,rfl⟩:=List.mem_map.1 hz;have hi':i<xs.length:=by simpa using hi
  obtain⟨b,o,e,_,c⟩:=hm i hi';have e2:xs.getD i Cl0=xs[i]:=by simp [hi']
  simp only [e2];exact c
theorem slP_one{xs:List Pr}(h:SlP w v xs):v.oneCell'=true:=by obtain⟨ad,cap,rfl,_⟩:=h;rfl
theorem c1c(L:List (Cl×Value))(v:Value)(w:World)(h:yU (CvAt w) 8 v L)(h1:∀z,z∈L->z.2.oneCell'=true)(hn:L.length<=1048576):
  Calls Tryz.prog 211 #[v] w λe w'=>∃v',e=.returned v'/\w'.ownsRow w.heap.size 62 8 v' L.length (L.flatMap fC)/\Ext w w':=by
 obtain⟨i0,hi0,hz0,hz1,hz2⟩:=info_parts a7e;obtain⟨ad,cap,rfl,_,hx⟩:=h;have HX:=uU hx
 have V1:=uU (show ∀u,u∈L.flatMap fC->u.oneCell'=true from λu hu=>by
  obtain⟨a,h2,hu⟩:=List.mem_flatMap.1 hu;simp [fC] at hu;rcases hu with e | e | e | e | e | e | e | e <;> subst e <;> first | rfl | exact h1 a h2)
 clear hx h1;cases ad with
 | none=>
  have hl:L.length=0:=by
   rcases Nat.eq_zero_or_pos L.length with h | h
   ·exact h
   ·obtain⟨b,o,e,_⟩:=HX 0 h;cases e
  have hx0:L=[]:=List.eq_nil_of_length_eq_zero hl;subst hx0;clear HX hl V1;have hq:∀W,(binOp .eql 31 (.slice none 0 cap) (.slice none 0 0)).run Tryz.prog W=.ok (.bool true) W:=λ_=>by kernel_rfl
  simp only [List.length_nil];go_enter Tryz.func211,Tryz.ntmps211;go_wp2_with fail;go_ret;exact⟨_,rfl,World.ownsRow_nil _ _ _ _,Ext.refl _⟩
 | some ad=>
  have NW:=uU (show ∀W,Ext w W->∀j u,(L.flatMap fC)[j]?=some u->W.cell? (ad.add j)=some u from λW e j u hu=>by
   rcases Nat.eq_zero_or_pos L.length with h | h
   ·rw[List.eq_nil_of_length_eq_zero h] at hu;simp at hu
   ·obtain⟨b,o,e0,_⟩:=HX 0 h;cases e0;refine a7h fC 8 (by omega) (λ_=>rfl) L b o (λi hi j hj=>?_) j u hu;obtain⟨b2,o2,e2,q⟩:=uH HX i hi;cases e2;have:=q j hj;rw[<-this];cases hc:w.cell? ⟨b,o+i*8+j,none⟩ with
    | none=>rw[this] at hc;match j,hj with | 0,_ | 1,_ | 2,_ | 3,_ | 4,_ | 5,_ | 6,_ | 7,_=>simp [fC] at hc
    | some y=>exact e.keep hc)
  have hq:∀W n k,(binOp .eql 31 (.slice (some ad) n k) (.slice none 0 0)).run Tryz.prog W=.ok (.bool false) W:=λ_ _ _=>by kernel_rfl
  go_enter Tryz.func211,Tryz.ntmps211;go_wp2_with (at_builtin;refine wpList_append_own_at _ rfl _ _ 31 rfl w.heap.size 62 i0 (.agg #[iv 0,iv 0,iv 0,iv 0,iv 0,iv 0,iv 0,.slice none 0 0]) 8 80 Tryz.underlying31 hi0 hz0 hz1 hz2 rfl (by decide) _ 0 [] rfl (World.ownsRow_made w #[] 0 (Nat.le_refl _) (by unfold maxLen;omega) rfl) ad L.length cap (L.flatMap fC) rfl (a4o fC 8 (λ_=>rfl) L) (NW _ ((Ext.refl w).alloc _)) V1 (by unfold maxLen;omega) (by omega) (by simp) ?_);intro v' w' hown hgrow _ _;have FIN:=uU (And.intro hown (a2s ((Ext.refl w).alloc _) (World.ownsRow_made (e:=62) (size:=8) w #[] 0 (Nat.le_refl _) (by unfold maxLen;omega) rfl) (Nat.le_refl _) hgrow));clear hown hgrow;go_wp2_with fail;go_ret;exact⟨_,rfl,FIN.1,FIN.2⟩
def b8h:Value->Option Addr
 | .slice a _ _=>a
 | _=>none
def yX:Value->Nat
 | .slice _ _ k=>k
 | _=>0
def qN(v:Value):Nat:=v.ownBlock.getD 0
theorem a0k(h:w.ownsRow B t c v n xs):v=.slice (b8h v) n (yX v)/\(0<n->b8h v=some ⟨qN v,0,none⟩/\v.ownBlock=some (qN v)):=by
 rcases h.2 with⟨rfl,rfl⟩ | ⟨g,cap,cur,rfl,_⟩
 ·exact⟨rfl,λh=>by omega⟩
 ·exact⟨rfl,λ_=>⟨rfl,rfl⟩⟩
theorem b0e(h:w.ownsRow B t c v n xs)(hn:0<n):Nf1 (qN v) w/\B<=qN v:=by
 obtain⟨e,h2⟩:=a0k h;obtain⟨h3,h4⟩:=h2 hn;refine⟨⟨(h.lt _ h4).2,λj=>?_⟩,(h.lt _ h4).1⟩;rw[e,h3] at h;exact World.ownsRow.frozenAt h j
theorem a8g{α:Type}{f:α->List Value}(hc:∀a,(f a).length=c){L:List α}(h:w.ownsRow B t c v L.length (L.flatMap f))(i:Nat)(hi:i<L.length)(j:Nat)(hj:j<c):w.cell? ⟨qN v,i*c+j,none⟩=(f L[i])[j]?:=by
 obtain⟨e,h2⟩:=a0k h;obtain⟨h3,h4⟩:=h2 (by omega);obtain⟨ad,cap,e2,_,hx⟩:=b4y hc h;obtain⟨g,e3,_,_,q⟩:=hx i hi;have:qN v=g:=by rw[e2,e3];rfl
 rw[this];have:=q j hj
 rwa [Nat.zero_add] at this
theorem b6e{t sz:Nat}(h:w.ownsRow B t sz v n xs):n<=yX v:=by
 rcases h.2 with⟨rfl,h1⟩ | ⟨g,cap,cur,rfl,_,_,hn,_⟩
 ·omega
 ·exact hn
theorem c7k{t:Nat}(h:w.ownsRow B t c v n xs)(hk:0<yX v):b8h v=some ⟨qN v,0,none⟩/\v.ownBlock=some (qN v)/\Nf1 (qN v) w/\(∀j,j<yX v*c->∃u,w.cell? ⟨qN v,j,none⟩=some u)/\B<=qN v:=by
 rcases h.2 with⟨rfl,h1⟩ | ⟨g,cap,cur,rfl,hb,hg,hn,_,hs,_⟩
 ·simp [yX] at hk
 ·refine⟨rfl,rfl,⟨(Array.getElem?_eq_some_iff.1 hg).1,λj=>World.ownsRow.frozenAt h j⟩,λj hj=>?_,hb⟩;have hj':j<cur.size:=by rw[hs];exact hj
  exact⟨cur[j],by rw[show qN (.slice (some ⟨g,0,none⟩) n cap)=g from rfl,cell_of_row w g j cur _ _ hg];exact Array.getElem?_eq_getElem hj'⟩
theorem b6f(h:w.ownsRow B 154 6 v n xs)(hk:0<yX v):b8h v=some ⟨qN v,0,none⟩/\v.ownBlock=some (qN v)/\Nfp (qN v) (yX v) w/\B<=qN v:=by
 rcases h.2 with⟨rfl,h1⟩ | ⟨g,cap,cur,rfl,hb,hg,hn,_,hs,_⟩
 ·simp [yX] at hk
 ·refine⟨rfl,rfl,⟨(Array.getElem?_eq_some_iff.1 hg).1,λj=>?_,λj hj=>?_⟩,hb⟩
  ·exact World.ownsRow.frozenAt h j
  ·have hj':j<cur.size:=by rw[hs];exact hj
   exact⟨cur[j],by rw[show qN (.slice (some ⟨g,0,none⟩) n cap)=g from rfl,cell_of_row w g j cur _ _ hg];exact Array.getElem?_eq_getElem hj'⟩
theorem Rws.of{x:Hp}{bc:Nat}{vr:Value}{pv:Nat->Value}(hr:w.ownsRow B 152 3 vr x.B.length (x.B.flatMap fW))(hs:∀q,q<x.A.length->S7 w bc (q*8) (x.c q))(h7:∀q,q<x.A.length->w.cell? ⟨bc,q*8+7,none⟩=some (pv q))(hc:0<x.A.length->Nf1 bc w/\B<=bc)(hd:0<x.A.length->qN vr≠bc)
  (hp:∀q,q<x.A.length->w.ownsRow B 154 6 (pv q) (x.c q).F.length ((x.c q).F.flatMap fP)/\∀b,(pv q).ownBlock=some b->b≠qN vr/\b≠bc) (hdp:∀q q',q<x.A.length->q'<x.A.length->q≠q'->∀b,(pv q).ownBlock=some b->(pv q').ownBlock≠some b) :
  Rws B w x (qN vr) bc (λq=>qN (pv q)) (λq=>b8h (pv q)) (λq=>yX (pv q)) where
 r:=λi hi=>⟨a8g (f:=fW) (λ_=>rfl) hr i hi 0 (by omega),a8g (f:=fW) (λ_=>rfl) hr i hi 1 (by omega),a8g (f:=fW) (λ_=>rfl) hr i hi 2 (by omega)⟩
 s:=hs
 p7:=λq hq=>by rw[h7 q hq,<-(a0k (hp q hq).1).1]
 p:=λq hq k hk=>by
  have:=a8g (f:=fP) (λ_=>rfl) (hp q hq).1 k hk;rw[Cl.p_eq _ _ hk] at this;exact⟨this 0 (by omega),this 1 (by omega),this 2 (by omega),this 3 (by omega),this 4 (by omega),this 5 (by omega)⟩
 pl:=λq hq hl=>by
  obtain⟨h1,h2,h3,h4⟩:=b6f (hp q hq).1 hl;exact⟨h1,h3,(hp q hq).2 _ h2,h4⟩
 nr:=λhl=>b0e hr hl
 nc:=hc
 d:=hd
 dp:=λq q' hq hq' hne hl hl' e=>by
  have h1:=(b6f (hp q hq).1 hl).2.1;have h2:=(b6f (hp q' hq').1 hl').2.1;exact hdp q q' hq hq' hne _ h1 (by rw[h2,e])
 kp:=λq hq=>b6e (hp q hq).1
structure uQ where
 z:Nat->Option Obj
def Prt[Inhabited uQ](w:World)(role:Nat->Nat):Prop:=∀q o,(default:uQ).z q=some o->role q=1/\w.heap[q]?=some o
theorem Prt.of[Inhabited uQ]{w':World}{role role':Nat->Nat}(h:Prt w role)(e:∀q,q<w.heap.size->role q=1->w'.heap[q]?=w.heap[q]?)(r:∀q,q<w.heap.size->role q=1->role' q=1):Prt w' role':=λq o hq=>by
 obtain⟨h1,h2⟩:=h q o hq
 have hl:q<w.heap.size:=by
  rcases Nat.lt_or_ge q w.heap.size with l | l
  ·exact l
  ·rw[Array.getElem?_eq_none l] at h2;cases h2
 exact⟨r q hl h1,(e q hl h1).trans h2⟩
end Go.Proofs.YtddkhnclmeikfaaGreat
