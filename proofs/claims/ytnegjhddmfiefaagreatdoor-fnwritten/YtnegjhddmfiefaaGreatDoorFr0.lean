import Derived.Test.YtnegjhddmfiefaaGreatDoorRdw0
import Derived.Laws.Bits64b
set_option maxRecDepth 100000
set_option maxHeartbeats 4000000
namespace Go.Proofs.YtnegjhddmfiefaaGreatDoor
open Go.RowKit
attribute [local go_sem ↓] Go.wp_at_zero Go.wp_at_succ
def Cu(v w:World)(c m:Nat):Prop:=Ext v w∧v.heap.size≤c∧Nf1 c w∧∃(ad:Option Addr) (n k:Nat) (a s:Int),w.cell? ⟨c,0,none⟩=some (.slice ad n k)∧w.cell? ⟨c,1,none⟩=some (iv a)∧w.cell? ⟨c,2,none⟩=some (.int .u64 s)∧0≤a∧a≤m∧n≤1048576∧∀i,i<n→∃b o z,ad=some ⟨b,o,none⟩∧v.cell? ⟨b,o+i,none⟩=some (.int .u8 z)∧0≤z∧z<256
theorem Cu.drew{v w:World}{c m:Nat}(h:Cu v w c m):Cu v w.drew c m:=by
 obtain⟨e,l,nf,ad,n,k,a,s,c0,c1,c2,r⟩:=h;exact⟨e.drew,l,nf,ad,n,k,a,s,c0,c1,c2,r⟩
theorem Cu.put1{v w:World}{c m k:Nat}(h:Cu v w c m){i:Int}(h0:0≤i)(hk:i≤k):Cu v (w.setCell ⟨c,1,none⟩ (iv i)) c k:=by
 obtain⟨e,l,nf,ad,n,k,a,s,c0,c1,c2,_,_,r⟩:=h;exact⟨e.setCell l _,l,nf.set _ _,ad,n,k,i,s,by rw[cell_other _ (.inr (by omega))];exact c0,Open.same ⟨⟨_,c1⟩,nf.2 1⟩ _,by rw[cell_other _ (.inr (by omega))];exact c2,h0,hk,r⟩
theorem Cu.put2{v w:World}{c m:Nat}(h:Cu v w c m)(u:Int):Cu v (w.setCell ⟨c,2,none⟩ (.int .u64 u)) c m:=by
 obtain⟨e,l,nf,ad,n,k,a,s,c0,c1,c2,r⟩:=h;exact⟨e.setCell l _,l,nf.set _ _,ad,n,k,a,u,by rw[cell_other _ (.inr (by omega))];exact c0,by rw[cell_other _ (.inr (by omega))];exact c1,Open.same ⟨⟨_,c2⟩,nf.2 2⟩ _,r⟩
def CuPost(v w:World)(c m:Nat)(n:Int)(e:Ending)(w':World):Prop:=∃r:Int,Hid (e=.returned (iv r))∧0≤r∧r<n∧Hid (Cu v w' c m)∧Hid (Only (fun q=>q=c) w w')
theorem and255(x:Int)(n:Nat):0≤wrap64 (bits .and .u64 (IntKind.u64.wrap x / n) 255)∧wrap64 (bits .and .u64 (IntKind.u64.wrap x / n) 255)<256:=by
 have h0:0≤IntKind.u64.wrap x∧IntKind.u64.wrap x<18446744073709551616:=by rw[IntKind.wrap_u64];omega
 obtain⟨k,hk⟩:∃k:Nat,IntKind.u64.wrap x=k:=⟨(IntKind.u64.wrap x).toNat,by omega⟩;rw[hk] at h0 ⊢;have e:((k:Int) / (n:Int))=((k / n:Nat):Int):=by simp
 have hd:k / n≤k:=Nat.div_le_self _ _;have h2:=bits_and_u64_nat (k / n) 255 (by omega) (by omega);rw[e,show(255:Int)=((255:Nat):Int) from rfl,h2];have h3:k / n &&& 255≤255:=Nat.and_le_right;unfold wrap64;omega
theorem gnext_any(v w:World)(c m:Nat)(h:Cu v w c m)(hm:m≤1000000000):
  Calls Tryz.prog 47 #[.pointer (some ⟨c,0,none⟩)] w fun e w'=>CuPost v w c (m+1) 256 e w':=by
 have H:=hide h;obtain⟨e,l,nf,ad,n,k,a,s,c0,c1,c2,a0,am,hn,hx⟩:=h;have hc:c<w.heap.size:=nf.1;have f1:=nf.2 1;have f2:=nf.2 2;by_cases hl:a<n
 ·obtain⟨b,o,z,rfl,hz,z0,z1⟩:=hx a.toNat (by omega);have hb:=e.keep hz;have hbv:b<v.heap.size:=cell_lt hz;have hbc:¬b=c:=by omega
  obtain⟨i,rfl⟩:∃i:Nat,a=i:=⟨a.toNat,by omega⟩;simp only [Int.toNat_natCast] at hb;have hb2:b<w.heap.size:=cell_lt hb;clear hx hz e;go_enter Tryz.func47,Tryz.ntmps47;go_wp2_with fail
  go_region
  go_wp2_with fail
  go_region
  go_wp2_with fail;go_ret;exact⟨z,rfl,z0,z1,(((unhide H).put1 (by omega) (by omega)).put2 _).drew.drew,(((Only.refl _ w).setCell (by rfl) _).setCell (by rfl) _).drew.drew⟩
 ·have hl2:(a<(n:Int))=False:=by simp;omega
  clear hx e;go_enter Tryz.func47,Tryz.ntmps47;go_wp2_with fail
  go_region
  go_wp2_with fail;have B:=and255 (IntKind.u64.wrap (s*6364136223846793005)+1442695040888963407) 1099511627776;go_ret;exact⟨_,rfl,B.1,B.2,(((unhide H).put2 _).put1 (by omega) (by omega)).drew,(((Only.refl _ w).setCell (by rfl) _).setCell (by rfl) _).drew⟩
theorem Cu.more{v w:World}{c m k:Nat}(h:Cu v w c m)(hk:m≤k):Cu v w c k:=by
 obtain⟨e,l,nf,ad,n,q,a,s,c0,c1,c2,a0,am,r⟩:=h;exact⟨e,l,nf,ad,n,q,a,s,c0,c1,c2,a0,by omega,r⟩
theorem pick_any(v w:World)(c m:Nat)(n:Int)(h:Cu v w c m)(hm:m≤999999999)(hn:n≤1000000)(h1:-1000000≤n):
  Calls Tryz.prog 27 #[.pointer (some ⟨c,0,none⟩),iv n] w fun e w'=>CuPost v w c (m+2) (if n≤1 then 1 else n) e w':=by
 have H:=hide h;have Q:=hide (gnext_any v w c m h (by omega));clear h;by_cases hl:n≤1
 ·rw[if_pos hl];have e1:(n≤1)=True:=by simp [hl]
  go_enter Tryz.func27,Tryz.ntmps27;go_wp2_with fail;go_ret;exact⟨0,rfl,by omega,by omega,(unhide H).more (by omega),Only.refl _ _⟩
 ·rw[if_neg hl];by_cases h2:n > 200
  ·go_enter Tryz.func27,Tryz.ntmps27;go_wp2_with fail;refine(unhide Q).mono ?_;rintro e w1 ⟨r,he,r0,r1,q1,o1⟩;have e2:=unhide he;subst e2;have Q2:=hide (gnext_any v w1 c (m+1) (unhide q1) (by omega));go_wp2_with fail;refine(unhide Q2).mono ?_;rintro e w2 ⟨t,he,t0,t1,q2,o2⟩;have e2:=unhide he;subst e2;go_wp2_with fail;go_ret;exact⟨_,rfl,Int.emod_nonneg _ (by omega),Int.emod_lt_of_pos _ (by omega),unhide q2,(unhide o1).trans (unhide o2)⟩
  ·go_enter Tryz.func27,Tryz.ntmps27;go_wp2_with fail;refine(unhide Q).mono ?_;rintro e w1 ⟨r,he,r0,r1,q1,o1⟩;have e2:=unhide he;subst e2;go_wp2_with fail;go_ret;exact⟨_,rfl,Int.emod_nonneg _ (by omega),Int.emod_lt_of_pos _ (by omega),(unhide q1).more (by omega),unhide o1⟩
theorem pick_n(v w:World)(c m:Nat)(n:Int)(h:Cu v w c m)(hm:m≤999999999)(hn:n≤1000000)(h1:1≤n):
  Calls Tryz.prog 27 #[.pointer (some ⟨c,0,none⟩),iv n] w fun e w'=>CuPost v w c (m+2) n e w':=by
 have:=pick_any v w c m n h hm hn (by omega);have e:(if n≤1 then 1 else n)=n:=by split <;> omega
 rw[e] at this;exact this
def WholePost(v w:World)(c m:Nat)(e:Ending)(w':World):Prop:=∃r:Int,Hid (e=.returned (iv r))∧Hid (-9223372036854775808≤r∧r≤9223372036854775807)∧Hid (Cu v w' c m)∧Hid (Only (fun q=>q=c) w w')
theorem whole_any(v w:World)(c m:Nat)(h:Cu v w c m)(hm:m≤99999999):
  Calls Tryz.prog 116 #[.pointer (some ⟨c,0,none⟩)] w fun e w'=>WholePost v w c (m+4) e w':=by
 have Q:=hide (pick_n v w c m 6 h (by omega) (by omega) (by omega));go_enter Tryz.func116,Tryz.ntmps116;go_wp2_with fail;refine(unhide Q).mono ?_;rintro e w1 ⟨r,he,r0,r1,q1,o1⟩;have e2:=unhide he;subst e2;have K:=hide (fun(n:Int) (h1:1≤n) (h2:n≤1000000)=>pick_n v w1 c (m+2) n (unhide q1) (by omega) h2 h1);go_wp2_with fail
 all_goals
  refine(unhide K _ (by omega) (by omega)).mono ?_;rintro e w2 ⟨t,he,t0,t1,q2,o2⟩;have e2:=unhide he;subst e2;go_wp2_with fail;go_ret;exact⟨_,rfl,⟨by omega,by omega⟩,unhide q2,(unhide o1).trans (unhide o2)⟩
def GG(S:Nat→Prop)(B:Nat)(w:World)(g:Nat)(x:Hp):Prop:=∃z:Nat→Option Obj,(∀q,S q→∃o,z q=some o)∧@GOk ⟨⟨z⟩⟩ B w g x
theorem GOk.prt{p:Inhabited ProtD}{B:Nat}{w:World}{g:Nat}{x:Hp}(h:@GOk p B w g x){q:Nat}{o:Obj}(hq:(@default ProtD p).z q=some o):w.heap[q]?=some o:=by
 obtain⟨ar,kr,ac,kc,vg,br,bc,pb,pa,pk,role,h⟩:=h;exact(h.pr q o hq).2
theorem GG.lt{S:Nat→Prop}{B:Nat}{w:World}{g:Nat}{x:Hp}(h:GG S B w g x){q:Nat}(hq:S q):q<w.heap.size:=by
 obtain⟨z,hz,h⟩:=h;obtain⟨o,ho⟩:=hz q hq;exact obj_lt (h.prt ho)
theorem GG.call{S:Nat→Prop}{B:Nat}{w:World}{g:Nat}{x:Hp}(h:GG S B w g x):∃p:Inhabited ProtD,@GOk p B w g x∧∀w' y,@GOk p B w' g y→GG S B w' g y∧∀q,S q→w'.heap[q]?=w.heap[q]?:=by
 obtain⟨z,hz,h⟩:=h;refine⟨⟨⟨z⟩⟩,h,fun w' y h'=>⟨⟨z,hz,h'⟩,fun q hq=>?_⟩⟩;obtain⟨o,ho⟩:=hz q hq;rw[h'.prt ho,h.prt ho]
theorem GG.turn{S T:Nat→Prop}{B:Nat}{w w':World}{g:Nat}{x:Hp}(h:GG S B w g x)(on:Only S w w')(hs:∀q,T q→S q∨(w.heap.size≤q∧q<w'.heap.size)):GG T B w' g x:=by
 obtain⟨z,hz,ar,kr,ac,kc,vg,br,bc,pb,pa,pk,role,h⟩:=h;have h0:=h;obtain⟨_,_,_,_,_,_,_,_,_,pr,_⟩:=h0;refine⟨fun q=>if w.heap.size≤q∨(z q).isSome then w'.heap[q]? else none,fun q hq=>?_,ar,kr,ac,kc,vg,br,bc,pb,pa,pk,fun q=>if w.heap.size≤q then 1 else role q,GAt.far h on.size (fun q hq hn=>on.block q hq (fun e=>?_)) (fun q hq _=>if_neg (by omega)) (fun q o hq=>?_)⟩
 ·rcases hs q hq with a | ⟨a,b⟩
  ·obtain⟨o,ho⟩:=hz q a;simp only [ho,Option.isSome_some,or_true,if_true];exact obj_some (Nat.lt_of_lt_of_le (obj_lt (pr q o ho).2) on.size)
  ·simp only [a,true_or,if_true];exact obj_some b
 ·obtain⟨o,ho⟩:=hz q e;exact hn (pr q o ho).1
 ·split at hq
  ·rename_i c;refine⟨?_,hq⟩;by_cases hw:w.heap.size≤q
   ·exact if_pos hw
   ·obtain⟨o2,ho⟩:=Option.isSome_iff_exists.1 (c.resolve_left hw);show(if w.heap.size≤q then 1 else role q)=1;rw[if_neg hw];exact(pr q o2 ho).1
  ·cases hq
theorem GG.more{S T:Nat→Prop}{B:Nat}{w w':World}{g:Nat}{x:Hp}(h:GG S B w g x)(e:Ext w w')(hs:∀q,T q→S q∨(w.heap.size≤q∧q<w'.heap.size)):GG T B w' g x:=h.turn (Only.of_ext e) hs
theorem GG.poke{S P:Nat→Prop}{B:Nat}{w w':World}{g:Nat}{x:Hp}(h:GG S B w g x)(on:Only P w w')(hp:∀q,P q→S q):GG S B w' g x:=h.turn (on.mono hp) (fun _ hq=>.inl hq)
theorem cell_blk{w w':World}{b o:Nat}(h:w'.heap[b]?=w.heap[b]?):w'.cell? ⟨b,o,none⟩=w.cell? ⟨b,o,none⟩:=World.cell?_of_block h
theorem nf1_blk{w w':World}{b:Nat}(h:Nf1 b w)(hb:w'.heap[b]?=w.heap[b]?):Nf1 b w':=by
 obtain⟨o,ho⟩:=obj_some h.1;exact⟨obj_lt (hb.trans ho),fun j=>by rw[World.frozen?_of_block (a:=⟨b,j,none⟩) hb];exact h.2 j⟩
theorem Cu.blk{v w w':World}{c m:Nat}(h:Cu v w c m)(e:Ext v w')(hb:w'.heap[c]?=w.heap[c]?):Cu v w' c m:=by
 obtain⟨_,l,nf,ad,n,k,a,s,c0,c1,c2,r⟩:=h;exact⟨e,l,nf1_blk nf hb,ad,n,k,a,s,(cell_blk hb).trans c0,(cell_blk hb).trans c1,(cell_blk hb).trans c2,r⟩
def AkFit(x:Ak):Prop:=(-9223372036854775808≤x.op∧x.op≤9223372036854775807)∧(-9223372036854775808≤x.a∧x.a≤9223372036854775807)∧(-9223372036854775808≤x.b∧x.b≤9223372036854775807)∧(-9223372036854775808≤x.c∧x.c≤9223372036854775807)∧(-9223372036854775808≤x.n∧x.n≤9223372036854775807)
structure Bp(B:Nat)(v w:World)(b c g m:Nat)(x:Hp)(L:List Ak)(va:Value)(lf:Nat):Prop where
 s:Snd x
 hL:∀a,a∈L→AkFit a
 hl:L.length+lf≤400
 cu:Cu v w c m
 vB:v.heap.size≤B
 vb:v.heap.size≤b
 bc:b≠c
 nf:Nf1 b w
 b0:w.cell? ⟨b,0,none⟩=some (.pointer (some ⟨c,0,none⟩))
 b1:w.cell? ⟨b,1,none⟩=some (.pointer (some ⟨g,0,none⟩))
 b2:w.cell? ⟨b,2,none⟩=some va
 b3:w.cell? ⟨b,3,none⟩=some (iv lf)
 ow:w.ownsRow v.heap.size 43 5 va L.length (L.flatMap fA)
 n1:va.ownBlock≠some b
 n2:va.ownBlock≠some c
 gg:GG (fun q=>q=b∨q=c∨va.ownBlock=some q) B w g x
def Bd(B:Nat)(v w:World)(b c g m:Nat):Prop:=∃x L va lf,Bp B v w b c g m x L va lf
theorem Bd.c0{B:Nat}{v w:World}{b c g m:Nat}(h:Bd B v w b c g m):w.cell? ⟨b,0,none⟩=some (.pointer (some ⟨c,0,none⟩)):=by
 obtain⟨_,_,_,_,h⟩:=h;exact h.b0
theorem Bd.c1{B:Nat}{v w:World}{b c g m:Nat}(h:Bd B v w b c g m):w.cell? ⟨b,1,none⟩=some (.pointer (some ⟨g,0,none⟩)):=by
 obtain⟨_,_,_,_,h⟩:=h;exact h.b1
theorem Bd.cu{B:Nat}{v w:World}{b c g m:Nat}(h:Bd B v w b c g m):Cu v w c m:=by
 obtain⟨_,_,_,_,h⟩:=h;exact h.cu
theorem Bp.blk{B:Nat}{v w w':World}{b c g m:Nat}{x y:Hp}{L:List Ak}{va:Value}{lf:Nat}(h:Bp B v w b c g m x L va lf)(e:Ext v w')(s:Snd y)(gg:GG (fun q=>q=b∨q=c∨va.ownBlock=some q) B w' g y)(k:∀q,q=b∨q=c∨va.ownBlock=some q→w'.heap[q]?=w.heap[q]?):Bp B v w' b c g m y L va lf:=by
 have hb:=k b (.inl rfl);exact⟨s,h.hL,h.hl,h.cu.blk e (k c (.inr (.inl rfl))),h.vB,h.vb,h.bc,nf1_blk h.nf hb,(cell_blk hb).trans h.b0,(cell_blk hb).trans h.b1,(cell_blk hb).trans h.b2,(cell_blk hb).trans h.b3,ownsRow_of_block h.ow (fun q hq=>k q (.inr (.inr hq))),h.n1,h.n2,gg⟩
theorem Bp.ext{B:Nat}{v w w':World}{b c g m:Nat}{x:Hp}{L:List Ak}{va:Value}{lf:Nat}(h:Bp B v w b c g m x L va lf)(e:Ext w w'):Bp B v w' b c g m x L va lf:=
 h.blk (h.cu.1.trans e) h.s (h.gg.more e (fun _ hq=>.inl hq)) (fun q hq=>e.block q (h.gg.lt hq))
theorem Bd.ext{B:Nat}{v w w':World}{b c g m:Nat}(h:Bd B v w b c g m)(e:Ext w w'):Bd B v w' b c g m:=by
 obtain⟨x,L,va,lf,h⟩:=h;exact⟨x,L,va,lf,h.ext e⟩
theorem Bp.read{B:Nat}{v w w':World}{b c g m k:Nat}{x:Hp}{L:List Ak}{va:Value}{lf:Nat}(h:Bp B v w b c g m x L va lf)(o:Only (fun q=>q=c) w w')(cu:Cu v w' c k):Bp B v w' b c g k x L va lf:=by
 have hb:w'.heap[b]?=w.heap[b]?:=o.block b h.nf.1 h.bc;exact⟨h.s,h.hL,h.hl,cu,h.vB,h.vb,h.bc,nf1_blk h.nf hb,(cell_blk hb).trans h.b0,(cell_blk hb).trans h.b1,(cell_blk hb).trans h.b2,(cell_blk hb).trans h.b3,ownsRow_of_block h.ow (fun q hq=>o.block q (h.ow.lt q hq).2 (fun e=>h.n2 (by rw[←e];exact hq))),h.n1,h.n2,h.gg.poke o (fun _ e=>.inr (.inl e))⟩
def BdPost(B:Nat)(v:World)(b c g m:Nat)(n:Int)(e:Ending)(w':World):Prop:=∃r:Int,Hid (e=.returned (iv r))∧0≤r∧r<n∧Hid (Bd B v w' b c g m)
theorem Bd.read{B:Nat}{v w w':World}{b c g m k:Nat}(h:Bd B v w b c g m)(o:Only (fun q=>q=c) w w')(cu:Cu v w' c k):Bd B v w' b c g k:=by
 obtain⟨x,L,va,lf,h⟩:=h;exact⟨x,L,va,lf,h.read o cu⟩
theorem bpick(B:Nat)(v w:World)(b c g m:Nat)(n:Int)(h:Bd B v w b c g m)(hm:m≤999999999)(hn:n≤1000000)(h1:1≤n):
  Calls Tryz.prog 27 #[.pointer (some ⟨c,0,none⟩),iv n] w fun e w'=>BdPost B v b c g (m+2) n e w':=
 (pick_n v w c m n h.cu hm hn h1).mono fun _ _ ⟨r,he,r0,r1,q,o⟩=>⟨r,he,r0,r1,h.read (unhide o) (unhide q)⟩
theorem bwhole(B:Nat)(v w:World)(b c g m:Nat)(h:Bd B v w b c g m)(hm:m≤99999999):
  Calls Tryz.prog 116 #[.pointer (some ⟨c,0,none⟩)] w fun e w'=>∃r:Int,Hid (e=.returned (iv r))∧(-9223372036854775808≤r∧r≤9223372036854775807)∧Hid (Bd B v w' b c g (m+4)):=
 (whole_any v w c m h.cu hm).mono fun _ _ ⟨r,he,hr,q,o⟩=>⟨r,he,unhide hr,h.read (unhide o) (unhide q)⟩
theorem Bp.left{B:Nat}{v w:World}{b c g m:Nat}{x:Hp}{L:List Ak}{va:Value}{lf k:Nat}(h:Bp B v w b c g m x L va lf)(hk:k≤lf):Bp B v (w.setCell ⟨b,3,none⟩ (iv k)) b c g m x L va k:=by
 have o:Only (fun q=>q=b) w (w.setCell ⟨b,3,none⟩ (iv k)):=(Only.refl (fun q=>q=b) w).setCell (p:=⟨b,3,none⟩) rfl _;have hc:=o.block c h.cu.2.2.1.1 (fun e=>h.bc e.symm);exact⟨h.s,h.hL,by have:=h.hl;omega,h.cu.blk (o.ext h.cu.1 (fun q hq e=>by have:=h.vb;omega)) hc,h.vB,h.vb,h.bc,h.nf.set _ _,by rw[cell_other _ (.inr (by omega))];exact h.b0,by rw[cell_other _ (.inr (by omega))];exact h.b1,by rw[cell_other _ (.inr (by omega))];exact h.b2,Open.same ⟨⟨_,h.b3⟩,h.nf.2 3⟩ _,ownsRow_of_block h.ow (fun q hq=>o.block q (h.ow.lt q hq).2 (fun e=>h.n1 (by rw[←e];exact hq))),h.n1,h.n2,h.gg.poke o (fun _ e=>.inl e)⟩
structure AppA(base:Nat)(w0:World)(va:Value)(L:List Ak)(A:Ak)(q cap:Nat)(w':World):Prop where
 ow:w'.ownsRow base 43 5 (.slice (some ⟨q,0,none⟩) (L.length+1) cap) (L.length+1) ((L++[A]).flatMap fA)
 on:Only (fun r=>va.ownBlock=some r) w0 w'
 at_:va.ownBlock=some q∨w0.heap.size≤q
theorem Bp.push{B:Nat}{v w w':World}{b c g m:Nat}{x:Hp}{L:List Ak}{va:Value}{lf:Nat}{A:Ak}{q cap:Nat}(h:Bp B v w b c g m x L va lf)(hl:L.length+lf+1≤400)(hA:AkFit A)(a:AppA v.heap.size w va L A q cap w'):Bp B v (w'.setCell ⟨b,2,none⟩ (.slice (some ⟨q,0,none⟩) (L.length+1) cap)) b c g m x (L++[A]) (.slice (some ⟨q,0,none⟩) (L.length+1) cap) lf:=by
 have hb:=a.on.block b h.nf.1 h.n1;have hc:=a.on.block c h.cu.2.2.1.1 h.n2
 have nb:q≠b:=fun e=>by
  rcases a.at_ with f | f
  ·exact h.n1 (by rw[f,e])
  ·have:=h.nf.1;omega
 have nc:q≠c:=fun e=>by
  rcases a.at_ with f | f
  ·exact h.n2 (by rw[f,e])
  ·have:=h.cu.2.2.1.1;omega
 have nf:=nf1_blk h.nf hb;have ev:Ext v w':=a.on.ext h.cu.1 (fun r hr e=>by have:=(h.ow.lt r e).1;omega);have o:Only (fun r=>r=b) w' (w'.setCell ⟨b,2,none⟩ (.slice (some ⟨q,0,none⟩) (L.length+1) cap)):=(Only.refl (fun q=>q=b) w').setCell (p:=⟨b,2,none⟩) rfl _;have hc2:=(o.block c (by have:=a.on.size;have:=h.cu.2.2.1.1;omega) (fun e=>h.bc e.symm)).trans hc;have e1:(Value.slice (some ⟨q,0,none⟩) (L.length+1) cap).ownBlock=some q:=rfl;have hqs:=(a.ow.lt q e1).2;refine⟨h.s,fun y hy=>?_,by simp;omega,h.cu.blk (o.ext ev (fun r hr e=>by have:=h.vb;omega)) hc2,h.vB,h.vb,h.bc,nf.set _ _,?_,?_,?_,?_,?_,by rw[e1];intro e;exact nb (Option.some.inj e),by rw[e1];intro e;exact nc (Option.some.inj e),?_⟩
 ·rcases List.mem_append.1 hy with e | e
  ·exact h.hL y e
  ·simp at e;subst e;exact hA
 ·rw[cell_other _ (.inr (by omega))];exact(cell_blk hb).trans h.b0
 ·rw[cell_other _ (.inr (by omega))];exact(cell_blk hb).trans h.b1
 ·exact Open.same ⟨⟨_,(cell_blk hb).trans h.b2⟩,nf.2 2⟩ _
 ·rw[cell_other _ (.inr (by omega))];exact(cell_blk hb).trans h.b3
 ·have:(L++[A]).length=L.length+1:=by simp
  rw[this];exact ownsRow_of_block a.ow (fun r hr=>o.block r (a.ow.lt r hr).2 (fun e=>by rw[e1] at hr;have:=Option.some.inj hr;omega))
 ·refine((h.gg.turn (T:=fun r=>r=b∨r=c∨some q=some r) (a.on.mono fun _ e=>.inr (.inr e)) (fun r hr=>?_)).poke o (fun _ e=>.inl e));rcases hr with e | e | e
  ·exact .inl (.inl e)
  ·exact .inl (.inr (.inl e))
  ·have e:=Option.some.inj e;subst e;rcases a.at_ with f | f
   ·exact .inl (.inr (.inr f))
   ·exact .inr ⟨f,hqs⟩
theorem DoIs.snd{x:Hp}{op a b c n:Int}{y:Hp}{cd nm:Int}(s:Snd x)(h:DoIs x op a b c n y cd nm):Snd y:=by
 rcases h with⟨_,h2,_⟩ | ⟨ok,h2⟩
 ·rw[h2];exact s
 ·obtain⟨h1,ha,hb,hc⟩:=act_bounds ok;have hA:actA op≤15:=by unfold actA;split <;> omega
  have hB:op≠1→op≠23→actB op≤15:=fun e1 e2=>by unfold actB;rw[if_neg e1,if_neg e2];split <;> omega
  refine DoR.snd s (by omega) (fun e1 e2=>by have:=hB (by omega) (by omega);omega) (fun e=>?_) (fun e=>?_) (fun e=>?_) (fun e=>?_) h2
  ·have e:op=1:=by omega
   subst e;simp [actB,actC] at hb hc;omega
  ·have e:op=23:=by omega
   subst e;simp [actB,actRb,actC] at hb hc;omega
  ·have e:op=11:=by omega
   subst e;simp [actC] at hc;omega
  ·have e:op=12:=by omega
   subst e;simp [actC] at hc;omega
theorem l5do_gg(S:Nat→Prop)(B:Nat)(v w:World)(g:Nat)(x:Hp)(A:Ak)(h:GG S B w g x)(s:Snd x)(hv:v.heap.size≤B)(e:Ext v w):
  Calls Tryz.prog 147 #[.pointer (some ⟨g,0,none⟩),A.v] w fun e w'=>∃(y:Hp) (u:Value),Hid (e=.returned u)∧Hid (Snd y)∧Hid (GG S B w' g y)∧Hid (∀q,S q→w'.heap[q]?=w.heap[q]?)∧Hid (Ext v w'):=by
 obtain⟨p,h1,h2⟩:=h.call;exact(l5do_any B g x A.op A.a A.b A.c A.n w h1 s v hv e).mono fun _ _ ⟨y,cd,nm,he,hd,hg,hx⟩=>⟨y,_,he,DoIs.snd s (unhide hd),(h2 _ _ (unhide hg)).1,(h2 _ _ (unhide hg)).2,hx⟩
theorem infoA:(Tryz.prog.info? 43).map (fun i=>(i.zero,i.size,i.bytes))=some (some (.agg #[iv 0,iv 0,iv 0,iv 0,iv 0]),5,40):=by kernel_rfl
theorem step_appA{ops:Array Oper}{o:Oper}{a:Act}{K:Act→World→Prop}{Q:Exit→Act→World→Prop}{E:Prop}(W:World)(hgd:o.guard=none)(s y:Operand)
  (ho:o.op=.call { callee:=.builtin .append,args:=#[s,y],argTypes:=#[23,23] })
  {B:Nat} {v w:World} {b c g m:Nat} {x:Hp} {L:List Ak} {va:Value} {lf:Nat} (h:Bp B v w b c g m x L va lf) (e:Ext w W) (A:Ak) (ad:Addr) (hs:a.eval s=va) (hy:a.eval y=.slice (some ad) 1 1) (hn:∀j u,(fA A)[j]?=some u→W.cell? (ad.add j)=some u)
  (hK:∀q cap w',AppA v.heap.size w va L A q cap w'→K (a.put o.dst (.slice (some ⟨q,0,none⟩) (L.length+1) cap)) w') :
  if Region.wanted o (yielded ops a.tmps)=true then Oper.wp Tryz.prog o a W K Q else E:=by
 obtain⟨i0,hi0,hz0,hz1,hz2⟩:=info_parts infoA;have hl:=h.hl;have he:=e.size;have hv:=h.cu.1.size;refine step_append_lies (w:=W) hgd s y 23 ho v.heap.size 43 i0 (.agg #[iv 0,iv 0,iv 0,iv 0,iv 0]) 5 40 Tryz.underlying23 hi0 hz0 hz1 hz2 rfl (by decide) va L.length (L.flatMap fA) hs (ownsRow_of_block h.ow (fun q hq=>e.block q (h.ow.lt q hq).2)) ad 1 1 (fA A) hy rfl hn (fun u hu=>?_) (by decide) (by unfold maxLen;omega) (by omega) (by omega) _ rfl (fun q cap w' how hgr hat hlt=>hK q cap w' ⟨?_,?_,?_⟩)
 ·simp [fA] at hu;rcases hu with e | e | e | e | e <;> subst e <;> rfl
 ·rw[List.flatMap_append];simpa using how
 ·exact(Only.of_ext e).trans ⟨hgr.os,hgr.tape,hgr.output,hgr.size,fun q hq hne=>hgr.block q hq (fun e=>hne e.symm)⟩
 ·rcases hat with f | f
  ·exact .inl f
  ·exact .inr (by omega)
theorem emit_any(B:Nat)(v w:World)(b c g m:Nat)(A:Ak)(hA:AkFit A)(h:Bd B v w b c g m):
  Calls Tryz.prog 115 #[.pointer (some ⟨b,0,none⟩),A.v] w fun e w'=>e=.returned (.tuple #[])∧Hid (Bd B v w' b c g m):=by
 obtain⟨x,L,va,lf,h⟩:=h;have H:=hide h;have b3:=h.b3;have hb:b<w.heap.size:=h.nf.1;have f3:=h.nf.2 3;cases lf with
 | zero=>
  have HE:=hide (fun W (e:Ext w W)=>(⟨x,L,va,0,(unhide H).ext e⟩:Bd B v W b c g m));clear h;go_enter Tryz.func115,Tryz.ntmps115;go_wp2_with fail;refine bodyPost_ret (results_none rfl _ _ _) rfl ?_;exact⟨rfl,unhide HE _ ((Ext.refl _).alloc _)⟩
 | succ lf=>
  obtain⟨W,hW⟩:∃W,W=(w.setCell ⟨b,3,none⟩ (iv lf)).alloc (.cells #[iv A.op,iv A.a,iv A.b,iv A.c,iv A.n] 43):=⟨_,rfl⟩;have HW:=hide hW;have HP:=hide ((h.left (k:=lf) (by omega)).ext ((Ext.refl _).alloc (.cells #[iv A.op,iv A.a,iv A.b,iv A.c,iv A.n] 43)));rw[←hW] at HP;have HL:=hide (show L.length+lf+1≤400 by have:=h.hl;omega);have ks:(w.setCell ⟨b,3,none⟩ (iv lf)).heap.size=w.heap.size:=by simp [World.setCell]
  obtain⟨k,hk⟩:∃k,k=w.heap.size:=⟨_,rfl⟩;have KV:=hide (show va.ownBlock≠some k from fun e=>by have:=(h.ow.lt k e).2;omega);have kb:¬k=b:=by omega
  have AC:=hide (show W.cell? ⟨k,0,none⟩=some (iv A.op)∧W.cell? ⟨k,1,none⟩=some (iv A.a)∧W.cell? ⟨k,2,none⟩=some (iv A.b)∧W.cell? ⟨k,3,none⟩=some (iv A.c)∧W.cell? ⟨k,4,none⟩=some (iv A.n) by
   rw[hW,hk,←ks];simp [go_sem])
  clear h;have e1:((lf+1:Nat):Int)-1=lf:=by omega
  have lb:lf≤400:=by have:=unhide HL;omega
  go_enter Tryz.func115,Tryz.ntmps115;go_wp2_with fail;rw[←hW,←hk];have c2:=(unhide HP).b2;have g2:=(unhide HP).nf.2 2;have hbW:b<W.heap.size:=cell_lt c2;obtain⟨a0,a1,a2,a3,a4⟩:=unhide AC;have hkW:k<W.heap.size:=cell_lt a0;clear b3 f3 hb hW hk e1 ks;go_region_law (refine step_appA _ rfl _ _ rfl (unhide HP) (by first | exact(Ext.refl _).alloc _ | exact((Ext.refl _).alloc _).drew | exact(Ext.refl _).drew.alloc _) A _ (by first | rfl | simp [Act.eval,Act.put]) (by first | rfl | simp [Act.eval,Act.put];rfl) (World.news_of_block (cs:=#[iv A.op,iv A.a,iv A.b,iv A.c,iv A.n]) (by first | exact heap_alloc_new _ _ | simp)) ?_;intro q cap w3 hap;have c2':=hap.on.keep (unhide HP).n1 c2;have g2':=(nf1_blk (unhide HP).nf (hap.on.block b (unhide HP).nf.1 (unhide HP).n1)).2 2;have hb3:b<w3.heap.size:=cell_lt c2';have AP:=hide hap;clear hap)
  all_goals
   obtain⟨W4,hW4⟩:∃W4,W4=w3.setCell ⟨b,2,none⟩ (.slice (some ⟨q,0,none⟩) (L.length+1) cap):=⟨_,rfl⟩;have PB:=hide ((unhide HP).push (unhide HL) hA (unhide AP));have K4:=hide (fun(j:Nat) (u:Value) (e:W.cell? ⟨k,j,none⟩=some u)=>show W4.cell? ⟨k,j,none⟩=some u by rw[hW4,cell_other _ (.inl (fun e=>kb e.symm))];exact(unhide AP).on.keep (unhide KV) e);rw[←hW4] at PB ⊢;have b0:=unhide K4 _ _ a0;have b1:=unhide K4 _ _ a1;have b2:=unhide K4 _ _ a2;have b3:=unhide K4 _ _ a3;have b4:=unhide K4 _ _ a4;have c1:=(unhide PB).b1;have hk4:k<W4.heap.size:=cell_lt b0;have hb4:b<W4.heap.size:=cell_lt c1;have QD:=hide (fun W (e:Ext W4 W)=>l5do_gg _ B v W g x A ((unhide PB).ext e).gg ((unhide PB).ext e).s ((unhide PB).ext e).vB ((unhide PB).ext e).cu.1);have FI:=hide (fun(W w5:World) (e:Ext W4 W) (y:Hp) (s5:Snd y) (g5:GG (fun r=>r=b∨r=c∨some q=some r) B w5 g y) (k5:∀r,r=b∨r=c∨some q=some r→w5.heap[r]?=W.heap[r]?) (x5:Ext v w5)=>(⟨y,_,_,_,((unhide PB).ext e).blk x5 s5 g5 k5⟩:Bd B v w5 b c g m));clear a0 a1 a2 a3 a4 c2 g2 hbW hkW c2' g2' hb3 hW4 K4 AP AC KV;go_wp2_with fail;go_region_with (go_at_call 147;refine(unhide QD _ (by first | exact Ext.refl _ | exact(Ext.refl _).drew)).mono ?_;rintro e w5 ⟨y,u,he,s5,g5,k5,x5⟩;have e2:=unhide he;subst e2;have BD:=hide (unhide FI _ w5 (by first | exact Ext.refl _ | exact(Ext.refl _).drew) y (unhide s5) (unhide g5) (unhide k5) (unhide x5));clear he s5 g5 k5 x5)
   all_goals
    go_wp2_with fail
    go_end0
    first | exact⟨rfl,unhide BD⟩ | exact⟨rfl,(unhide BD).ext (Ext.refl _).drew⟩
theorem put_any(B:Nat)(v w:World)(b c g m:Nat)(op x y z:Int)(ho:0≤op∧op≤100)(hx:-1000000000≤x∧x≤1000000000)(hy:-1000000000≤y∧y≤1000000000)(hz:-1000000000≤z∧z≤1000000000)(h:Bd B v w b c g m):
  Calls Tryz.prog 112 #[.pointer (some ⟨b,0,none⟩),iv op,iv x,iv y,iv z] w fun e w'=>e=.returned (.tuple #[])∧Hid (Bd B v w' b c g m):=by
 have Q:=hide (emit_any B v w b c g m ⟨op,x,y,z,0⟩ (by refine⟨?_,?_,?_,?_,?_⟩ <;> simp only <;> omega) h);go_enter Tryz.func112,Tryz.ntmps112;go_wp2_with fail;refine(unhide Q).mono ?_;rintro e w' ⟨rfl,h'⟩;go_wp2_with fail
 go_end0
 exact⟨rfl,h'⟩
theorem Bd.more{B:Nat}{v w:World}{b c g m k:Nat}(h:Bd B v w b c g m)(hk:m≤k):Bd B v w b c g k:=h.read (Only.refl _ _) (h.cu.more hk)
theorem bpairs(B:Nat)(v w:World)(b c g m:Nat)(f:Nat)(hf:f<16)(h:Bd B v w b c g m):
  Calls Tryz.prog 117 #[.pointer (some ⟨b,0,none⟩),iv f] w fun e w'=>BdPost B v b c g m 201 e w':=by
 have HE:=hide (fun W (e:Ext w W)=>h.ext e);have c1:=h.c1;obtain⟨x,L,va,lf,h⟩:=h;obtain⟨p,hg,_⟩:=h.gg.call;obtain⟨br,kr,hr⟩:=hg.regs h.s.r1.regs;have hb:b<w.heap.size:=h.nf.1;have c3:=hr.c3;obtain⟨r0,r1,r2⟩:=hr.r f hf;have hgw:g<w.heap.size:=cell_lt c3;have hbr:br<w.heap.size:=cell_lt r0;have hf0:(0:Int)≤(f:Int):=by omega
 have hf1:(f:Int)<16:=by omega
 by_cases k2:(x.r f).k=2
 ·obtain⟨_,ea,hi,_,_⟩:=h.s.at f hf k2;obtain⟨bc,kc,ap,kp,hc⟩:=hg.cel (x.at f) hi;have c4:=hc.c4;have p7:=hc.p7;have P200:=hide (h.s.ok.p200 (x.at f) hi);have hbc:bc<w.heap.size:=cell_lt p7;obtain⟨n,hn⟩:∃n,n=(x.c (x.at f)).prs.length:=⟨_,rfl⟩;rw[←hn] at p7 P200;rw[k2] at r0;rw[ea] at r2;obtain⟨i,hI⟩:∃i,i=x.at f:=⟨_,rfl⟩;rw[←hI] at r2 hi p7;have hi0:(0:Int)≤(i:Int):=by omega
  have hi1:(i:Int)<(x.cells.length:Int):=by omega
  have n200:n≤200:=unhide P200;clear hr hc hg h k2 ea hn hI P200;go_enter Tryz.func117,Tryz.ntmps117;go_wp2_with fail
  go_region
  go_wp2_with fail;go_ret;exact⟨_,rfl,by omega,by omega,unhide HE _ ((Ext.refl _).alloc _).drew⟩
 ·have k3:((x.r f).k != 2)=true:=by simpa using k2
  clear hr hg h k2;go_enter Tryz.func117,Tryz.ntmps117;go_wp2_with fail;go_ret;exact⟨_,rfl,by omega,by omega,unhide HE _ ((Ext.refl _).alloc _)⟩
theorem bpairof(B:Nat)(v w:World)(b c g m:Nat)(f:Nat)(hf:f<16)(h:Bd B v w b c g m)(hm:m≤99999999):
  Calls Tryz.prog 113 #[.pointer (some ⟨b,0,none⟩),iv f] w fun e w'=>BdPost B v b c g (m+4) 201 e w':=by
 have Q:=hide (bpairs B v w b c g m f hf h);clear h;go_enter Tryz.func113,Tryz.ntmps113;go_wp2_with fail;refine(unhide Q).mono ?_;rintro e w1 ⟨n,he,n0,n1,BD⟩;have e2:=unhide he;subst e2;have b0:=(unhide BD).c0;have hb:b<w1.heap.size:=cell_lt b0;cases t:(n == 0)
 ·have hn1:1≤n:=by simp at t;omega
  go_wp2_with (go_at_call 27;refine(bpick B v _ b c g _ _ (unhide BD) (by omega) (by omega) (by omega)).mono ?_;rintro e w1 ⟨r,he,r0,r1,bd⟩;have e2:=unhide he;subst e2;clear b0 BD;have BD:=bd;have b0:=(unhide BD).c0;clear bd he)
  all_goals
   go_ret;exact⟨_,rfl,by omega,by omega,(unhide BD).more (by omega)⟩
 ·go_wp2_with fail;go_ret;exact⟨_,rfl,by omega,by omega,(unhide BD).more (by omega)⟩
theorem bsize(B:Nat)(v w:World)(b c g m:Nat)(h:Bd B v w b c g m)(hm:m≤99999999):
  Calls Tryz.prog 114 #[.pointer (some ⟨b,0,none⟩)] w fun e w'=>BdPost B v b c g (m+4) 201 e w':=by
 have BD:=hide h;have b0:=h.c0;clear h;go_enter Tryz.func114,Tryz.ntmps114;go_wp2_with (go_at_call 27;refine(bpick B v _ b c g _ _ (unhide BD) (by omega) (by omega) (by omega)).mono ?_;rintro e w1 ⟨r,he,r0,r1,bd⟩;have e2:=unhide he;subst e2;clear b0 BD;have BD:=bd;have b0:=(unhide BD).c0;clear bd he)
 all_goals
  go_ret;exact⟨_,rfl,by omega,by omega,(unhide BD).more (by omega)⟩
theorem bwork(B:Nat)(v w:World)(b c g m:Nat)(h:Bd B v w b c g m)(hm:m≤99999999):
  Calls Tryz.prog 86 #[.pointer (some ⟨b,0,none⟩)] w fun e w'=>e=.returned (.tuple #[])∧Hid (Bd B v w' b c g (m+6)):=by
 have BD:=hide h;have b0:=h.c0;clear h;go_enter Tryz.func86,Tryz.ntmps86;go_wp2_with (first | (go_at_call 27;refine(bpick B v _ b c g _ _ (unhide BD) (by omega) (by omega) (by omega)).mono ?_;rintro e w1 ⟨r,he,r0,r1,bd⟩;have e2:=unhide he;subst e2;clear b0 BD;have BD:=bd;have b0:=(unhide BD).c0;clear bd he) | (go_at_call 112;refine(put_any B v _ b c g _ _ _ _ _ (by omega) (by omega) (by omega) (by omega) (unhide BD)).mono ?_;rintro e w1 ⟨rfl,bd⟩;clear b0 BD;have BD:=bd;have b0:=(unhide BD).c0;clear bd))
 all_goals
  go_end0
  exact⟨rfl,(unhide BD).more (by omega)⟩
theorem bpairsI(B:Nat)(v w:World)(b c g m:Nat)(f:Int)(h0:0≤f)(h1:f<16)(h:Bd B v w b c g m):
  Calls Tryz.prog 117 #[.pointer (some ⟨b,0,none⟩),iv f] w fun e w'=>BdPost B v b c g m 201 e w':=by
 obtain⟨k,rfl⟩:∃k:Nat,f=k:=⟨f.toNat,by omega⟩;exact bpairs B v w b c g m k (by omega) h
theorem bpairofI(B:Nat)(v w:World)(b c g m:Nat)(f:Int)(h0:0≤f)(h1:f<16)(h:Bd B v w b c g m)(hm:m≤99999999):
  Calls Tryz.prog 113 #[.pointer (some ⟨b,0,none⟩),iv f] w fun e w'=>BdPost B v b c g (m+4) 201 e w':=by
 obtain⟨k,rfl⟩:∃k:Nat,f=k:=⟨f.toNat,by omega⟩;exact bpairof B v w b c g m k (by omega) h hm
theorem emitI(B:Nat)(v w:World)(b c g m:Nat)(op x y z n:Int)(h1:0≤op∧op≤100)(h2:0≤x∧x≤100)(h3:0≤y∧y≤100)(h4:0≤z∧z≤100)(h5:-9223372036854775808≤n∧n≤9223372036854775807)(h:Bd B v w b c g m):
  Calls Tryz.prog 115 #[.pointer (some ⟨b,0,none⟩),.agg #[iv op,iv x,iv y,iv z,iv n]] w fun e w'=>e=.returned (.tuple #[])∧Hid (Bd B v w' b c g m):=
 emit_any B v w b c g m ⟨op,x,y,z,n⟩ (by refine⟨?_,?_,?_,?_,?_⟩ <;> simp only <;> omega) h
theorem bact(B:Nat)(v w:World)(b c g m:Nat)(h:Bd B v w b c g m)(hm:m≤9999999):
  Calls Tryz.prog 85 #[.pointer (some ⟨b,0,none⟩)] w fun e w'=>e=.returned (.tuple #[])∧Hid (Bd B v w' b c g (m+14)):=by
 have BD:=hide h;have b0:=h.c0;clear h;go_enter Tryz.func85,Tryz.ntmps85;go_wp2_with (first | (go_at_call 27;refine(bpick B v _ b c g _ _ (unhide BD) (by omega) (by omega) (by omega)).mono ?_;rintro e w1 ⟨r,he,r0,r1,bd⟩;have e2:=unhide he;subst e2;clear he;clear b0 BD;have BD:=bd;have b0:=(unhide BD).c0;clear bd) | (go_at_call 112;refine(put_any B v _ b c g _ _ _ _ _ (by omega) (by omega) (by omega) (by omega) (unhide BD)).mono ?_;rintro e w1 ⟨rfl,bd⟩;clear b0 BD;have BD:=bd;have b0:=(unhide BD).c0;clear bd) | (go_at_call 114;refine(bsize B v _ b c g _ (unhide BD) (by omega)).mono ?_;rintro e w1 ⟨r,he,r0,r1,bd⟩;have e2:=unhide he;subst e2;clear he;clear b0 BD;have BD:=bd;have b0:=(unhide BD).c0;clear bd) | (go_at_call 113;refine(bpairofI B v _ b c g _ _ (by omega) (by omega) (unhide BD) (by omega)).mono ?_;rintro e w1 ⟨r,he,r0,r1,bd⟩;have e2:=unhide he;subst e2;clear he;clear b0 BD;have BD:=bd;have b0:=(unhide BD).c0;clear bd) | (go_at_call 117;refine(bpairsI B v _ b c g _ _ (by omega) (by omega) (unhide BD)).mono ?_;rintro e w1 ⟨r,he,r0,r1,bd⟩;have e2:=unhide he;subst e2;clear he;clear b0 BD;have BD:=bd;have b0:=(unhide BD).c0;clear bd) | (go_at_call 116;refine(bwhole B v _ b c g _ (unhide BD) (by omega)).mono ?_;rintro e w1 ⟨r,he,r0,bd⟩;have e2:=unhide he;subst e2;clear he;clear b0 BD;have BD:=bd;have b0:=(unhide BD).c0;clear bd) | (go_at_call 115;refine(emitI B v _ b c g _ _ _ _ _ _ (by omega) (by omega) (by omega) (by omega) (by omega) (unhide BD)).mono ?_;rintro e w1 ⟨rfl,bd⟩;clear b0 BD;have BD:=bd;have b0:=(unhide BD).c0;clear bd))
 all_goals
  go_end0
  exact⟨rfl,(unhide BD).more (by omega)⟩
theorem bchain(B:Nat)(v w:World)(b c g m:Nat)(n:Int)(h:Bd B v w b c g m)(hm:m≤9999999)(n0:0≤n)(n1:n≤5):
  Calls Tryz.prog 81 #[.pointer (some ⟨b,0,none⟩),iv n] w fun e w'=>e=.returned (.tuple #[])∧Hid (Bd B v w' b c g (m+100)):=by
 have BD:=hide h;have b0:=h.c0;clear h;go_enter Tryz.func81,Tryz.ntmps81;go_wp2_with (first | (go_at_call 27;refine(bpick B v _ b c g _ _ (unhide BD) (by omega) (by omega) (by omega)).mono ?_;rintro e w1 ⟨r,he,r0,r1,bd⟩;have e2:=unhide he;subst e2;clear he;clear b0 BD;have BD:=bd;have b0:=(unhide BD).c0;clear bd) | (go_at_call 112;refine(put_any B v _ b c g _ _ _ _ _ (by omega) (by omega) (by omega) (by omega) (unhide BD)).mono ?_;rintro e w1 ⟨rfl,bd⟩;clear b0 BD;have BD:=bd;have b0:=(unhide BD).c0;clear bd));go_loopw [4] (fun i wr=>∃k:Nat,(k:Int)≤n∧i=.int .i64 k∧Hid (Bd B v wr b c g (m+4+k*12))) (fun i _=>(n-intOf i).toNat)
 case atStart=>exact⟨0,by omega,rfl,(unhide BD).more (by omega)⟩
 case round=>
  clear b0 BD;obtain⟨k,hk,rfl,BD⟩:=hrel;have b0:=(unhide BD).c0;by_cases hlt:(k:Int)<n
  ·go_wp2_with (first | (go_at_call 27;refine(bpick B v _ b c g _ _ (unhide BD) (by omega) (by omega) (by omega)).mono ?_;rintro e w1 ⟨r,he,r0,r1,bd⟩;have e2:=unhide he;subst e2;clear he;clear b0 BD;have BD:=bd;have b0:=(unhide BD).c0;clear bd) | (go_at_call 112;refine(put_any B v _ b c g _ _ _ _ _ (by omega) (by omega) (by omega) (by omega) (unhide BD)).mono ?_;rintro e w1 ⟨rfl,bd⟩;clear b0 BD;have BD:=bd;have b0:=(unhide BD).c0;clear bd) | (go_at_call 86;refine(bwork B v _ b c g _ (unhide BD) (by omega)).mono ?_;rintro e w1 ⟨rfl,bd⟩;clear b0 BD;have BD:=bd;have b0:=(unhide BD).c0;clear bd))
   all_goals
    go_roundw
    ·exact⟨k+1,by omega,by go_num,(unhide BD).more (by omega)⟩
    ·simp [intOf];omega
  ·go_wp2_with (first | (go_at_call 27;refine(bpick B v _ b c g _ _ (unhide BD) (by omega) (by omega) (by omega)).mono ?_;rintro e w1 ⟨r,he,r0,r1,bd⟩;have e2:=unhide he;subst e2;clear he;clear b0 BD;have BD:=bd;have b0:=(unhide BD).c0;clear bd) | (go_at_call 112;refine(put_any B v _ b c g _ _ _ _ _ (by omega) (by omega) (by omega) (by omega) (unhide BD)).mono ?_;rintro e w1 ⟨rfl,bd⟩;clear b0 BD;have BD:=bd;have b0:=(unhide BD).c0;clear bd))
   all_goals
    go_end0
    exact⟨rfl,(unhide BD).more (by omega)⟩
theorem bweakly(B:Nat)(v w:World)(b c g m:Nat)(h:Bd B v w b c g m)(hm:m≤9999999):
  Calls Tryz.prog 82 #[.pointer (some ⟨b,0,none⟩)] w fun e w'=>e=.returned (.tuple #[])∧Hid (Bd B v w' b c g (m+100)):=by
 have BD:=hide h;have b0:=h.c0;clear h;go_enter Tryz.func82,Tryz.ntmps82;go_wp2_with fail;refine(bpick B v _ b c g _ _ (unhide BD) (by omega) (by omega) (by omega)).mono ?_;rintro e w1 ⟨n,he,n0,n1,bd⟩;have e2:=unhide he;subst e2;clear he;clear b0 BD;have BD:=bd;have b0:=(unhide BD).c0;clear bd;go_wp2_with (first | (go_at_call 27;refine(bpick B v _ b c g _ _ (unhide BD) (by omega) (by omega) (by omega)).mono ?_;rintro e w1 ⟨r,he,r0,r1,bd⟩;have e2:=unhide he;subst e2;clear he;clear b0 BD;have BD:=bd;have b0:=(unhide BD).c0;clear bd) | (go_at_call 112;refine(put_any B v _ b c g _ _ _ _ _ (by omega) (by omega) (by omega) (by omega) (unhide BD)).mono ?_;rintro e w1 ⟨rfl,bd⟩;clear b0 BD;have BD:=bd;have b0:=(unhide BD).c0;clear bd));go_loopw [3,4,5] (fun i _x _y wr=>∃k:Nat,(k:Int)≤1+n∧i=.int .i64 k∧Hid (Bd B v wr b c g (m+8+k*20))) (fun i _x _y _=>(1+n-intOf i).toNat)
 case atStart=>exact⟨0,by omega,rfl,(unhide BD).more (by omega)⟩
 case round=>
  clear b0 BD;obtain⟨k,hk,rfl,BD⟩:=hrel;have b0:=(unhide BD).c0;by_cases hlt:(k:Int)<1+n
  ·go_wp2_with (first | (go_at_call 27;refine(bpick B v _ b c g _ _ (unhide BD) (by omega) (by omega) (by omega)).mono ?_;rintro e w1 ⟨r,he,r0,r1,bd⟩;have e2:=unhide he;subst e2;clear he;clear b0 BD;have BD:=bd;have b0:=(unhide BD).c0;clear bd) | (go_at_call 112;refine(put_any B v _ b c g _ _ _ _ _ (by omega) (by omega) (by omega) (by omega) (unhide BD)).mono ?_;rintro e w1 ⟨rfl,bd⟩;clear b0 BD;have BD:=bd;have b0:=(unhide BD).c0;clear bd) | (go_at_call 86;refine(bwork B v _ b c g _ (unhide BD) (by omega)).mono ?_;rintro e w1 ⟨rfl,bd⟩;clear b0 BD;have BD:=bd;have b0:=(unhide BD).c0;clear bd))
   all_goals
    go_roundw
    ·exact⟨k+1,by omega,by go_num,(unhide BD).more (by omega)⟩
    ·simp [intOf];omega
  ·go_wp2_with (first | (go_at_call 27;refine(bpick B v _ b c g _ _ (unhide BD) (by omega) (by omega) (by omega)).mono ?_;rintro e w1 ⟨r,he,r0,r1,bd⟩;have e2:=unhide he;subst e2;clear he;clear b0 BD;have BD:=bd;have b0:=(unhide BD).c0;clear bd) | (go_at_call 112;refine(put_any B v _ b c g _ _ _ _ _ (by omega) (by omega) (by omega) (by omega) (unhide BD)).mono ?_;rintro e w1 ⟨rfl,bd⟩;clear b0 BD;have BD:=bd;have b0:=(unhide BD).c0;clear bd))
   all_goals
    go_end0
    exact⟨rfl,(unhide BD).more (by omega)⟩
theorem bring(B:Nat)(v w:World)(b c g m:Nat)(h:Bd B v w b c g m)(hm:m≤9999999):
  Calls Tryz.prog 84 #[.pointer (some ⟨b,0,none⟩)] w fun e w'=>e=.returned (.tuple #[])∧Hid (Bd B v w' b c g (m+60)):=by
 have BD:=hide h;have b0:=h.c0;clear h;go_enter Tryz.func84,Tryz.ntmps84;go_wp2_with (first | (go_at_call 27;refine(bpick B v _ b c g _ _ (unhide BD) (by omega) (by omega) (by omega)).mono ?_;rintro e w1 ⟨r,he,r0,r1,bd⟩;have e2:=unhide he;subst e2;clear he;clear b0 BD;have BD:=bd;have b0:=(unhide BD).c0;clear bd) | (go_at_call 112;refine(put_any B v _ b c g _ _ _ _ _ (by omega) (by omega) (by omega) (by omega) (unhide BD)).mono ?_;rintro e w1 ⟨rfl,bd⟩;clear b0 BD;have BD:=bd;have b0:=(unhide BD).c0;clear bd) | (go_at_call 86;refine(bwork B v _ b c g _ (unhide BD) (by omega)).mono ?_;rintro e w1 ⟨rfl,bd⟩;clear b0 BD;have BD:=bd;have b0:=(unhide BD).c0;clear bd));go_loopw [2] (fun i wr=>∃k:Nat,k≤4∧i=.int .i64 k∧Hid (Bd B v wr b c g (m+8+k*4))) (fun i _=>(4-intOf i).toNat)
 case atStart=>exact⟨1,by omega,rfl,(unhide BD).more (by omega)⟩
 case round=>
  clear b0 BD;obtain⟨k,hk,rfl,BD⟩:=hrel;have b0:=(unhide BD).c0;by_cases hlt:(k:Int)<4
  ·go_wp2_with (first | (go_at_call 27;refine(bpick B v _ b c g _ _ (unhide BD) (by omega) (by omega) (by omega)).mono ?_;rintro e w1 ⟨r,he,r0,r1,bd⟩;have e2:=unhide he;subst e2;clear he;clear b0 BD;have BD:=bd;have b0:=(unhide BD).c0;clear bd) | (go_at_call 112;refine(put_any B v _ b c g _ _ _ _ _ (by omega) (by omega) (by omega) (by omega) (unhide BD)).mono ?_;rintro e w1 ⟨rfl,bd⟩;clear b0 BD;have BD:=bd;have b0:=(unhide BD).c0;clear bd) | (go_at_call 86;refine(bwork B v _ b c g _ (unhide BD) (by omega)).mono ?_;rintro e w1 ⟨rfl,bd⟩;clear b0 BD;have BD:=bd;have b0:=(unhide BD).c0;clear bd))
   all_goals
    go_roundw
    ·exact⟨k+1,by omega,by go_num,(unhide BD).more (by omega)⟩
    ·simp [intOf];omega
  ·go_wp2_with (first | (go_at_call 27;refine(bpick B v _ b c g _ _ (unhide BD) (by omega) (by omega) (by omega)).mono ?_;rintro e w1 ⟨r,he,r0,r1,bd⟩;have e2:=unhide he;subst e2;clear he;clear b0 BD;have BD:=bd;have b0:=(unhide BD).c0;clear bd) | (go_at_call 112;refine(put_any B v _ b c g _ _ _ _ _ (by omega) (by omega) (by omega) (by omega) (unhide BD)).mono ?_;rintro e w1 ⟨rfl,bd⟩;clear b0 BD;have BD:=bd;have b0:=(unhide BD).c0;clear bd) | (go_at_call 86;refine(bwork B v _ b c g _ (unhide BD) (by omega)).mono ?_;rintro e w1 ⟨rfl,bd⟩;clear b0 BD;have BD:=bd;have b0:=(unhide BD).c0;clear bd))
   all_goals
    go_end0
    exact⟨rfl,(unhide BD).more (by omega)⟩
theorem blastly(B:Nat)(v w:World)(b c g m:Nat)(h:Bd B v w b c g m)(hm:m≤9999999):
  Calls Tryz.prog 83 #[.pointer (some ⟨b,0,none⟩)] w fun e w'=>e=.returned (.tuple #[])∧Hid (Bd B v w' b c g (m+150)):=by
 have BD:=hide h;have b0:=h.c0;clear h;go_enter Tryz.func83,Tryz.ntmps83;go_wp2_with (go_at_call 27;refine(bpick B v _ b c g _ _ (unhide BD) (by omega) (by omega) (by omega)).mono ?_;rintro e w1 ⟨r,he,r0,r1,bd⟩;have e2:=unhide he;subst e2;clear he;clear b0 BD;have BD:=bd;have b0:=(unhide BD).c0;clear bd);go_loopw [2] (fun i wr=>∃k:Nat,k≤3∧i=.int .i64 k∧Hid (Bd B v wr b c g (m+2+(3-k)*12))) (fun i _=>(intOf i).toNat)
 case atStart=>exact⟨(1+r).toNat,by omega,by rw[Int.toNat_of_nonneg (by omega)],(unhide BD).more (by omega)⟩
 case round=>
  clear b0 BD;obtain⟨k,hk,rfl,BD⟩:=hrel;have b0:=(unhide BD).c0;by_cases hlt:(k:Int) > 0
  ·go_wp2_with (first | (go_at_call 27;refine(bpick B v _ b c g _ _ (unhide BD) (by omega) (by omega) (by omega)).mono ?_;rintro e w1 ⟨r,he,r0,r1,bd⟩;have e2:=unhide he;subst e2;clear he;clear b0 BD;have BD:=bd;have b0:=(unhide BD).c0;clear bd) | (go_at_call 112;refine(put_any B v _ b c g _ _ _ _ _ (by omega) (by omega) (by omega) (by omega) (unhide BD)).mono ?_;rintro e w1 ⟨rfl,bd⟩;clear b0 BD;have BD:=bd;have b0:=(unhide BD).c0;clear bd) | (go_at_call 86;refine(bwork B v _ b c g _ (unhide BD) (by omega)).mono ?_;rintro e w1 ⟨rfl,bd⟩;clear b0 BD;have BD:=bd;have b0:=(unhide BD).c0;clear bd))
   all_goals
    go_roundw
    ·exact⟨k-1,by omega,by rw[Int.ofNat_sub (by omega)];rfl,(unhide BD).more (by omega)⟩
    ·simp [intOf];omega
  ·have hk0:k=0:=by omega
   subst hk0;go_wp2_with (first | (go_at_call 27;refine(bpick B v _ b c g _ _ (unhide BD) (by omega) (by omega) (by omega)).mono ?_;rintro e w1 ⟨r,he,r0,r1,bd⟩;have e2:=unhide he;subst e2;clear he;clear b0 BD;have BD:=bd;have b0:=(unhide BD).c0;clear bd) | (go_at_call 112;refine(put_any B v _ b c g _ _ _ _ _ (by omega) (by omega) (by omega) (by omega) (unhide BD)).mono ?_;rintro e w1 ⟨rfl,bd⟩;clear b0 BD;have BD:=bd;have b0:=(unhide BD).c0;clear bd));go_loopw [3,4] (fun i _x wr=>∃k:Nat,k≤3∧i=.int .i64 k∧Hid (Bd B v wr b c g (m+40+(3-k)*20))) (fun i _ _=>(intOf i).toNat)
   case atStart=>exact⟨r.toNat,by omega,by rw[Int.toNat_of_nonneg (by omega)],(unhide BD).more (by omega)⟩
   case round=>
    clear b0 BD;obtain⟨k,hk,rfl,BD⟩:=hrel;have b0:=(unhide BD).c0;by_cases hlt:(k:Int) > 0
    ·go_wp2_with (first | (go_at_call 27;refine(bpick B v _ b c g _ _ (unhide BD) (by omega) (by omega) (by omega)).mono ?_;rintro e w1 ⟨r,he,r0,r1,bd⟩;have e2:=unhide he;subst e2;clear he;clear b0 BD;have BD:=bd;have b0:=(unhide BD).c0;clear bd) | (go_at_call 112;refine(put_any B v _ b c g _ _ _ _ _ (by omega) (by omega) (by omega) (by omega) (unhide BD)).mono ?_;rintro e w1 ⟨rfl,bd⟩;clear b0 BD;have BD:=bd;have b0:=(unhide BD).c0;clear bd) | (go_at_call 86;refine(bwork B v _ b c g _ (unhide BD) (by omega)).mono ?_;rintro e w1 ⟨rfl,bd⟩;clear b0 BD;have BD:=bd;have b0:=(unhide BD).c0;clear bd) | (go_at_call 113;refine(bpairofI B v _ b c g _ _ (by omega) (by omega) (unhide BD) (by omega)).mono ?_;rintro e w1 ⟨r,he,r0,r1,bd⟩;have e2:=unhide he;subst e2;clear he;clear b0 BD;have BD:=bd;have b0:=(unhide BD).c0;clear bd))
     all_goals
      go_roundw
      ·exact⟨k-1,by omega,by rw[Int.ofNat_sub (by omega)];rfl,(unhide BD).more (by omega)⟩
      ·simp [intOf];omega
    ·go_wp2_with (first | (go_at_call 27;refine(bpick B v _ b c g _ _ (unhide BD) (by omega) (by omega) (by omega)).mono ?_;rintro e w1 ⟨r,he,r0,r1,bd⟩;have e2:=unhide he;subst e2;clear he;clear b0 BD;have BD:=bd;have b0:=(unhide BD).c0;clear bd) | (go_at_call 112;refine(put_any B v _ b c g _ _ _ _ _ (by omega) (by omega) (by omega) (by omega) (unhide BD)).mono ?_;rintro e w1 ⟨rfl,bd⟩;clear b0 BD;have BD:=bd;have b0:=(unhide BD).c0;clear bd))
     all_goals
      go_end0
      exact⟨rfl,(unhide BD).more (by omega)⟩
theorem bsome(B:Nat)(v w:World)(b c g m:Nat)(h:Bd B v w b c g m)(hm:m≤999999):
  Calls Tryz.prog 50 #[.pointer (some ⟨b,0,none⟩)] w fun e w'=>e=.returned (.tuple #[])∧Hid (Bd B v w' b c g (m+300)):=by
 have BD:=hide h;have b0:=h.c0;clear h;go_enter Tryz.func50,Tryz.ntmps50;go_wp2_with (first | (go_at_call 27;refine(bpick B v _ b c g _ _ (unhide BD) (by omega) (by omega) (by omega)).mono ?_;rintro e w1 ⟨r,he,r0,r1,bd⟩;have e2:=unhide he;subst e2;clear he;clear b0 BD;have BD:=bd;have b0:=(unhide BD).c0;clear bd) | (go_at_call 81;refine(bchain B v _ b c g _ _ (unhide BD) (by omega) (by omega) (by omega)).mono ?_;rintro e w1 ⟨rfl,bd⟩;clear b0 BD;have BD:=bd;have b0:=(unhide BD).c0;clear bd) | (go_at_call 82;refine(bweakly B v _ b c g _ (unhide BD) (by omega)).mono ?_;rintro e w1 ⟨rfl,bd⟩;clear b0 BD;have BD:=bd;have b0:=(unhide BD).c0;clear bd) | (go_at_call 83;refine(blastly B v _ b c g _ (unhide BD) (by omega)).mono ?_;rintro e w1 ⟨rfl,bd⟩;clear b0 BD;have BD:=bd;have b0:=(unhide BD).c0;clear bd) | (go_at_call 84;refine(bring B v _ b c g _ (unhide BD) (by omega)).mono ?_;rintro e w1 ⟨rfl,bd⟩;clear b0 BD;have BD:=bd;have b0:=(unhide BD).c0;clear bd) | (go_at_call 86;refine(bwork B v _ b c g _ (unhide BD) (by omega)).mono ?_;rintro e w1 ⟨rfl,bd⟩;clear b0 BD;have BD:=bd;have b0:=(unhide BD).c0;clear bd))
 iterate 4
  ·go_end0
   exact⟨rfl,(unhide BD).more (by omega)⟩
 go_loopw [3] (fun i wr=>∃k:Nat,k≤9∧i=.int .i64 k∧Hid (Bd B v wr b c g (m+4+(9-k)*20))) (fun i _=>(intOf i).toNat)
 case atStart=>exact⟨(2+r).toNat,by omega,by rw[Int.toNat_of_nonneg (by omega)],(unhide BD).more (by omega)⟩
 case round=>
  clear b0 BD;obtain⟨k,hk,rfl,BD⟩:=hrel;have b0:=(unhide BD).c0;by_cases hlt:(k:Int) > 0
  ·go_wp2_with (first | (go_at_call 85;refine(bact B v _ b c g _ (unhide BD) (by omega)).mono ?_;rintro e w1 ⟨rfl,bd⟩;clear b0 BD;have BD:=bd;have b0:=(unhide BD).c0;clear bd) | (go_at_call 86;refine(bwork B v _ b c g _ (unhide BD) (by omega)).mono ?_;rintro e w1 ⟨rfl,bd⟩;clear b0 BD;have BD:=bd;have b0:=(unhide BD).c0;clear bd));go_roundw
   ·exact⟨k-1,by omega,by rw[Int.ofNat_sub (by omega)];rfl,(unhide BD).more (by omega)⟩
   ·simp [intOf];omega
  ·go_wp2_with (go_at_call 86;refine(bwork B v _ b c g _ (unhide BD) (by omega)).mono ?_;rintro e w1 ⟨rfl,bd⟩;clear b0 BD;have BD:=bd;have b0:=(unhide BD).c0;clear bd)
   go_end0
   exact⟨rfl,(unhide BD).more (by omega)⟩
def zw(n:Nat):Array Value:=Array.replicate n (iv 0)
theorem mk16(w:World):(Instr.makeSlice 116 (.int .i64 16) (.int .i64 16)).run Tryz.prog w=.ok (.slice (some ⟨w.heap.size,0,none⟩) 16 16) (w.alloc (.cells (zw 48) 139)):=by kernel_rfl
theorem l1fresh_any(n:Int)(w:World):Calls Tryz.prog 80 #[.int .i64 n] w fun e w'=>e=.returned (.pointer (some ⟨w.heap.size+1,0,none⟩))∧w'=(w.alloc (.cells (zw 48) 139)).alloc (.cells #[iv n,iv 0,iv 0,.slice (some ⟨w.heap.size,0,none⟩) 16 16,.slice none 0 0,iv 0,iv 0,iv 0,.slice none 0 0,iv 0,iv 0,iv 0,iv 0] 119):=by
 have hmk:=mk16;go_enter Tryz.func80,Tryz.ntmps80
 go_wp2
 go_ret;exact⟨rfl,rfl⟩
end Go.Proofs.YtnegjhddmfiefaaGreatDoor
