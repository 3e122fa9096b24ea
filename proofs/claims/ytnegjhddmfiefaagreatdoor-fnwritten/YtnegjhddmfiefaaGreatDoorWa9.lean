import Derived.Test.YtnegjhddmfiefaaGreatDoorRby
set_option maxRecDepth 100000
set_option maxHeartbeats 4000000
namespace Go.Proofs.YtnegjhddmfiefaaGreatDoor
open Go.RowKit
attribute [local go_sem ↓] Go.wp_at_zero Go.wp_at_succ
theorem Cu.ext{v w w':World}{c m:Nat}(h:Cu v w c m)(e:Ext w w'):Cu v w' c m:=h.blk (h.1.trans e) (e.block c h.2.2.1.1)
theorem odd_cell(w:World)(t:TypeId)(k:Nat)(hk:k<15):∃z:Int,(w.alloc (.cells #[iv (-1),iv 0,iv 1,iv 2,iv 3,iv 5,iv 7,iv 16,iv 200,iv 201,iv 256,iv 4000,iv 4001,iv 1000000000,iv 1000000001] t)).cell? ⟨w.heap.size,k,none⟩=some (iv z)∧-1≤z∧z≤1000000001:=by
 match k,hk with
 | 0,_=>exact⟨-1,by simp [go_sem],by omega,by omega⟩
 | 1,_=>exact⟨0,by simp [go_sem],by omega,by omega⟩
 | 2,_=>exact⟨1,by simp [go_sem],by omega,by omega⟩
 | 3,_=>exact⟨2,by simp [go_sem],by omega,by omega⟩
 | 4,_=>exact⟨3,by simp [go_sem],by omega,by omega⟩
 | 5,_=>exact⟨5,by simp [go_sem],by omega,by omega⟩
 | 6,_=>exact⟨7,by simp [go_sem],by omega,by omega⟩
 | 7,_=>exact⟨16,by simp [go_sem],by omega,by omega⟩
 | 8,_=>exact⟨200,by simp [go_sem],by omega,by omega⟩
 | 9,_=>exact⟨201,by simp [go_sem],by omega,by omega⟩
 | 10,_=>exact⟨256,by simp [go_sem],by omega,by omega⟩
 | 11,_=>exact⟨4000,by simp [go_sem],by omega,by omega⟩
 | 12,_=>exact⟨4001,by simp [go_sem],by omega,by omega⟩
 | 13,_=>exact⟨1000000000,by simp [go_sem],by omega,by omega⟩
 | 14,_=>exact⟨1000000001,by simp [go_sem],by omega,by omega⟩
theorem odd_any(v w:World)(c m:Nat)(h:Cu v w c m)(hm:m≤99999999):
  Calls Tryz.prog 31 #[.pointer (some ⟨c,0,none⟩)] w fun e w'=>WholePost v w c (m+4) e w':=by
 have CU:=hide h;have hc:c<w.heap.size:=h.2.2.1.1;clear h;go_enter Tryz.func31,Tryz.ntmps31;go_wp2_with fail;obtain⟨W1,hW1⟩:∃W,W=w.alloc (.cells #[iv (-1),iv 0,iv 1,iv 2,iv 3,iv 5,iv 7,iv 16,iv 200,iv 201,iv 256,iv 4000,iv 4001,iv 1000000000,iv 1000000001] 3):=⟨_,rfl⟩;have XA:Ext w W1:=by rw[hW1];exact(Ext.refl _).alloc _
 have CE:=hide (fun k hk=>by have:=odd_cell w 3 k hk;rw[←hW1] at this;exact this);have SZ:w.heap.size<W1.heap.size:=by rw[hW1];simp
 rw[←hW1];refine(pick_n v W1 c m 15 ((unhide CU).ext XA) (by omega) (by omega) (by omega)).mono ?_;rintro e w2 ⟨r,he,r0,r1,cu,o⟩;have e2:=unhide he;subst e2;obtain⟨k,rfl⟩:∃k:Nat,r=k:=⟨r.toNat,by omega⟩;obtain⟨z,cz,z0,z1⟩:=unhide CE k (by omega);have cz2:=(unhide o).keep (b:=w.heap.size) (fun e=>by omega) cz;have hw2:w.heap.size<w2.heap.size:=cell_lt cz2;have P:=hide (show Cu v w2 c (m+4)∧Only (fun q=>q=c) w w2 from⟨(unhide cu).more (by omega),(Only.of_ext XA).trans (unhide o)⟩);clear he cu o cz XA hW1 SZ CE CU;go_wp2_with fail;go_ret;exact⟨z,rfl,⟨by omega,by omega⟩,(unhide P).1,(unhide P).2⟩
def OddPost(v w:World)(c m:Nat)(e:Ending)(w':World):Prop:=∃A:Ak,Hid (e=.returned A.v)∧Hid (AkFit A)∧Hid (Cu v w' c m)∧Hid (Only (fun q=>q=c) w w')
def ABx(w:World)(p:Nat)(A:Ak):Prop:=(w.cell? ⟨p,0,none⟩=some (iv A.op)∧w.cell? ⟨p,1,none⟩=some (iv A.a)∧w.cell? ⟨p,2,none⟩=some (iv A.b)∧w.cell? ⟨p,3,none⟩=some (iv A.c)∧w.cell? ⟨p,4,none⟩=some (iv A.n))∧∀j,w.frozen? ⟨p,j,none⟩=false
theorem ABx.new(w:World)(A:Ak)(t:TypeId):ABx (w.alloc (.cells #[iv A.op,iv A.a,iv A.b,iv A.c,iv A.n] t)) w.heap.size A:=⟨⟨by simp [go_sem],by simp [go_sem],by simp [go_sem],by simp [go_sem],by simp [go_sem]⟩,fun j=>by simp [go_sem]⟩
theorem ABx.blk{w w':World}{p:Nat}{A:Ak}(h:ABx w p A)(e:w'.heap[p]?=w.heap[p]?):ABx w' p A:=by
 obtain⟨⟨h0,h1,h2,h3,h4⟩,f⟩:=h;exact⟨⟨(cell_blk e).trans h0,(cell_blk e).trans h1,(cell_blk e).trans h2,(cell_blk e).trans h3,(cell_blk e).trans h4⟩,fun j=>by rw[←f j];exact World.frozen?_of_block (a:=⟨p,j,none⟩) e⟩
def retA(W:World)(p k r:Nat)(u:Value)(A:Ak):World:=(((((W.setCell ⟨p,k,none⟩ u).setCell ⟨r,0,none⟩ (iv A.op)).setCell ⟨r,1,none⟩ (iv A.a)).setCell ⟨r,2,none⟩ (iv A.b)).setCell ⟨r,3,none⟩ (iv A.c)).setCell ⟨r,4,none⟩ (iv A.n)
theorem retA_only(W:World)(p k r:Nat)(u:Value)(A:Ak):Only (fun q=>q=p∨q=r) W (retA W p k r u A):=by
 unfold retA
 iterate 5 (refine Only.setCell (S:=fun q=>q=p∨q=r) ?_ (.inr rfl) _)
 exact Only.setCell (S:=fun q=>q=p∨q=r) (Only.refl _ _) (.inl rfl) _
theorem odd_end{v w W:World}{c m n p k r:Nat}{u:Value}{A:Ak}(cu:Cu v W c m)(o:Only (fun q=>q=c) w W)(hc:c<w.heap.size)(hv:Ext v w)(hp:w.heap.size≤p)(hr:w.heap.size≤r)(hn:m≤n):Cu v (retA W p k r u A) c n∧Only (fun q=>q=c) w (retA W p k r u A):=by
 have h1:=retA_only W p k r u A;have hcW:c<W.heap.size:=Nat.lt_of_lt_of_le hc o.size
 have e1:Only (fun q=>q=c) w (retA W p k r u A):=by
  refine⟨h1.os.trans o.os,h1.tape.trans o.tape,h1.output.trans o.output,Nat.le_trans o.size h1.size,fun q hq hs=>?_⟩;rw[h1.block q (Nat.lt_of_lt_of_le hq o.size) (by omega),o.block q hq hs]
 refine⟨(cu.blk ?_ (h1.block c hcW (by omega))).more hn,e1⟩;exact h1.ext cu.1 (fun q hq=>by have:=hv.size;omega)
theorem oddact_any(v w:World)(c m:Nat)(A:Ak)(hA:AkFit A)(h:Cu v w c m)(hm:m≤9999999):
  Calls Tryz.prog 51 #[.pointer (some ⟨c,0,none⟩),A.v] w fun e w'=>OddPost v w c (m+10) e w':=by
 have CU:=hide h;have hc:c<w.heap.size:=h.2.2.1.1;have AF:=hide hA;have VW:=hide h.1;clear h hA;go_enter Tryz.func51,Tryz.ntmps51;go_wp2_with fail;obtain⟨W1,hW1⟩:∃W,W=(w.alloc (.cells #[iv A.op,iv A.a,iv A.b,iv A.c,iv A.n] 43)).alloc (.cells #[iv 0,iv 0,iv 0,iv 0,iv 0] 43):=⟨_,rfl⟩;have XA:Ext w W1:=by rw[hW1];exact((Ext.refl _).alloc _).alloc _
 have B1:=hide (show ABx W1 w.heap.size A by rw[hW1];exact(ABx.new w A 43).blk (((Ext.refl _).alloc _).block _ (by simp)));have B2:=hide (show ABx W1 (w.heap.size+1) ⟨0,0,0,0,0⟩ by rw[hW1];have:=ABx.new (w.alloc (.cells #[iv A.op,iv A.a,iv A.b,iv A.c,iv A.n] 43)) ⟨0,0,0,0,0⟩ 43;simpa using this);have SZ:=hide (show W1.heap.size=w.heap.size+2 by rw[hW1];simp);rw[←hW1];refine(odd_any v W1 c m ((unhide CU).ext XA) (by omega)).mono ?_;rintro e w2 ⟨z,he,hz,cu,o⟩;have e2:=unhide he;subst e2;have Z:=hide (unhide hz);have B1:=hide ((unhide B1).blk ((unhide o).block _ (by rw[unhide SZ];omega) (by omega)));have B2:=hide ((unhide B2).blk ((unhide o).block _ (by rw[unhide SZ];omega) (by omega)));have S2:=hide (show w.heap.size+2≤w2.heap.size by have:=(unhide o).size;rw[unhide SZ] at this;exact this);have O2:=hide ((Only.of_ext XA).trans (unhide o));have CU:=hide (unhide cu);clear he hz cu o XA hW1 SZ;go_wp2_with fail;refine(pick_n v w2 c _ 6 (unhide CU) (by omega) (by omega) (by omega)).mono ?_;rintro e w3 ⟨r,he,r0,r1,cu,o⟩;have e2:=unhide he;subst e2;have B1:=hide ((unhide B1).blk ((unhide o).block _ (by have:=unhide S2;omega) (by omega)));have B2:=hide ((unhide B2).blk ((unhide o).block _ (by have:=unhide S2;omega) (by omega)));have S3:=hide (show w.heap.size+2≤w3.heap.size from Nat.le_trans (unhide S2) (unhide o).size);have O3:=hide ((unhide O2).trans (unhide o));have CU:=hide (unhide cu);clear he cu o S2 O2;have hr:r=0∨r=1∨r=2∨r=3∨r=4∨r=5:=by omega
 clear r0 r1;rcases hr with rfl | rfl | rfl | rfl | rfl | rfl
 ·go_wp2_with fail;refine(pick_n v w3 c _ 27 (unhide CU) (by omega) (by omega) (by omega)).mono ?_;rintro e w4 ⟨y,he,y0,y1,cu,o⟩;have e2:=unhide he;subst e2;have B1:=hide ((unhide B1).blk ((unhide o).block _ (by have:=unhide S3;omega) (by omega)));have B2:=hide ((unhide B2).blk ((unhide o).block _ (by have:=unhide S3;omega) (by omega)));have O3:=hide ((unhide O3).trans (unhide o));have CU:=hide (unhide cu);clear he cu o S3;obtain⟨⟨p0,p1,p2,p3,p4⟩,fp⟩:=unhide B1;obtain⟨⟨q0,q1,q2,q3,q4⟩,fq⟩:=unhide B2;have h1:w.heap.size<w4.heap.size:=cell_lt p0;have h2:w.heap.size+1<w4.heap.size:=cell_lt q0;go_wp2_with fail;refine bodyPost_ret (v:=Ak.v ⟨y-1,A.a,A.b,A.c,A.n⟩) (by simp [results,Tryz.results51,go_sem, *]) rfl ?_;have E:=odd_end (p:=w.heap.size) (k:=0) (r:=w.heap.size+1) (u:=iv (y-1)) (A:=⟨y-1,A.a,A.b,A.c,A.n⟩) (n:=m+10) (unhide CU) (unhide O3) hc (unhide VW) (by omega) (by omega) (by omega);exact⟨⟨y-1,A.a,A.b,A.c,A.n⟩,rfl,(by obtain⟨a1,a2,a3,a4,a5⟩:=unhide AF;have:=unhide Z;refine⟨?_,?_,?_,?_,?_⟩ <;> simp only <;> omega),E.1,E.2⟩
 ·obtain⟨⟨p0,p1,p2,p3,p4⟩,fp⟩:=unhide B1;obtain⟨⟨q0,q1,q2,q3,q4⟩,fq⟩:=unhide B2;have h1:w.heap.size<w3.heap.size:=cell_lt p0;have h2:w.heap.size+1<w3.heap.size:=cell_lt q0;go_wp2_with fail;refine bodyPost_ret (v:=Ak.v ⟨A.op,z,A.b,A.c,A.n⟩) (by simp [results,Tryz.results51,go_sem, *]) rfl ?_;have E:=odd_end (p:=w.heap.size) (k:=1) (r:=w.heap.size+1) (u:=iv z) (A:=⟨A.op,z,A.b,A.c,A.n⟩) (n:=m+10) (unhide CU) (unhide O3) hc (unhide VW) (by omega) (by omega) (by omega);exact⟨⟨A.op,z,A.b,A.c,A.n⟩,rfl,(by obtain⟨a1,a2,a3,a4,a5⟩:=unhide AF;have:=unhide Z;refine⟨?_,?_,?_,?_,?_⟩ <;> simp only <;> omega),E.1,E.2⟩
 ·obtain⟨⟨p0,p1,p2,p3,p4⟩,fp⟩:=unhide B1;obtain⟨⟨q0,q1,q2,q3,q4⟩,fq⟩:=unhide B2;have h1:w.heap.size<w3.heap.size:=cell_lt p0;have h2:w.heap.size+1<w3.heap.size:=cell_lt q0;go_wp2_with fail;refine bodyPost_ret (v:=Ak.v ⟨A.op,A.a,z,A.c,A.n⟩) (by simp [results,Tryz.results51,go_sem, *]) rfl ?_;have E:=odd_end (p:=w.heap.size) (k:=2) (r:=w.heap.size+1) (u:=iv z) (A:=⟨A.op,A.a,z,A.c,A.n⟩) (n:=m+10) (unhide CU) (unhide O3) hc (unhide VW) (by omega) (by omega) (by omega);exact⟨⟨A.op,A.a,z,A.c,A.n⟩,rfl,(by obtain⟨a1,a2,a3,a4,a5⟩:=unhide AF;have:=unhide Z;refine⟨?_,?_,?_,?_,?_⟩ <;> simp only <;> omega),E.1,E.2⟩
 ·obtain⟨⟨p0,p1,p2,p3,p4⟩,fp⟩:=unhide B1;obtain⟨⟨q0,q1,q2,q3,q4⟩,fq⟩:=unhide B2;have h1:w.heap.size<w3.heap.size:=cell_lt p0;have h2:w.heap.size+1<w3.heap.size:=cell_lt q0;go_wp2_with fail;refine bodyPost_ret (v:=Ak.v ⟨A.op,A.a,A.b,z,A.n⟩) (by simp [results,Tryz.results51,go_sem, *]) rfl ?_;have E:=odd_end (p:=w.heap.size) (k:=3) (r:=w.heap.size+1) (u:=iv z) (A:=⟨A.op,A.a,A.b,z,A.n⟩) (n:=m+10) (unhide CU) (unhide O3) hc (unhide VW) (by omega) (by omega) (by omega);exact⟨⟨A.op,A.a,A.b,z,A.n⟩,rfl,(by obtain⟨a1,a2,a3,a4,a5⟩:=unhide AF;have:=unhide Z;refine⟨?_,?_,?_,?_,?_⟩ <;> simp only <;> omega),E.1,E.2⟩
 ·obtain⟨⟨p0,p1,p2,p3,p4⟩,fp⟩:=unhide B1;obtain⟨⟨q0,q1,q2,q3,q4⟩,fq⟩:=unhide B2;have h1:w.heap.size<w3.heap.size:=cell_lt p0;have h2:w.heap.size+1<w3.heap.size:=cell_lt q0;go_wp2_with fail;refine bodyPost_ret (v:=Ak.v ⟨A.op,A.a,A.b,A.c,z⟩) (by simp [results,Tryz.results51,go_sem, *]) rfl ?_;have E:=odd_end (p:=w.heap.size) (k:=4) (r:=w.heap.size+1) (u:=iv z) (A:=⟨A.op,A.a,A.b,A.c,z⟩) (n:=m+10) (unhide CU) (unhide O3) hc (unhide VW) (by omega) (by omega) (by omega);exact⟨⟨A.op,A.a,A.b,A.c,z⟩,rfl,(by obtain⟨a1,a2,a3,a4,a5⟩:=unhide AF;have:=unhide Z;refine⟨?_,?_,?_,?_,?_⟩ <;> simp only <;> omega),E.1,E.2⟩
 ·go_wp2_with fail;refine(pick_n v w3 c _ 300 (unhide CU) (by omega) (by omega) (by omega)).mono ?_;rintro e w4 ⟨y,he,y0,y1,cu,o⟩;have e2:=unhide he;subst e2;have B1:=hide ((unhide B1).blk ((unhide o).block _ (by have:=unhide S3;omega) (by omega)));have B2:=hide ((unhide B2).blk ((unhide o).block _ (by have:=unhide S3;omega) (by omega)));have O3:=hide ((unhide O3).trans (unhide o));have CU:=hide (unhide cu);clear he cu o S3;obtain⟨⟨p0,p1,p2,p3,p4⟩,fp⟩:=unhide B1;obtain⟨⟨q0,q1,q2,q3,q4⟩,fq⟩:=unhide B2;have h1:w.heap.size<w4.heap.size:=cell_lt p0;have h2:w.heap.size+1<w4.heap.size:=cell_lt q0;go_wp2_with fail;refine bodyPost_ret (v:=Ak.v ⟨A.op,A.a,A.b,y,A.n⟩) (by simp [results,Tryz.results51,go_sem, *]) rfl ?_;have E:=odd_end (p:=w.heap.size) (k:=3) (r:=w.heap.size+1) (u:=iv y) (A:=⟨A.op,A.a,A.b,y,A.n⟩) (n:=m+10) (unhide CU) (unhide O3) hc (unhide VW) (by omega) (by omega) (by omega);exact⟨⟨A.op,A.a,A.b,y,A.n⟩,rfl,(by obtain⟨a1,a2,a3,a4,a5⟩:=unhide AF;have:=unhide Z;refine⟨?_,?_,?_,?_,?_⟩ <;> simp only <;> omega),E.1,E.2⟩
structure Sc(v w:World)(b c m:Nat)(va:Value)(L:List Ak):Prop where
 cu:Cu v w c m
 bc:b≠c
 b2:w.cell? ⟨b,2,none⟩=some va
 ow:w.ownsRow v.heap.size 43 5 va L.length (L.flatMap fA)
 n1:va.ownBlock≠some b
 n2:va.ownBlock≠some c
 hL:∀a,a∈L→AkFit a
 hl:L.length≤400
theorem Bd.sc{B:Nat}{v w:World}{b c g m:Nat}(h:Bd B v w b c g m):∃va L,Sc v w b c m va L:=by
 obtain⟨x,L,va,lf,h⟩:=h;exact⟨va,L,h.cu,h.bc,h.b2,h.ow,h.n1,h.n2,h.hL,by have:=h.hl;omega⟩
theorem Sc.read{v w w':World}{b c m k:Nat}{va:Value}{L:List Ak}(h:Sc v w b c m va L)(o:Only (fun q=>q=c) w w')(cu:Cu v w' c k):Sc v w' b c k va L:=by
 have hb:w'.heap[b]?=w.heap[b]?:=o.block b (cell_lt h.b2) h.bc;exact⟨cu,h.bc,(cell_blk hb).trans h.b2,ownsRow_of_block h.ow (fun q hq=>o.block q (h.ow.lt q hq).2 (fun e=>h.n2 (by rw[←e];exact hq))),h.n1,h.n2,h.hL,h.hl⟩
theorem Sc.form{v w:World}{b c m:Nat}{va:Value}{L:List Ak}(h:Sc v w b c m va L):∃ad cap,va=.slice ad L.length cap∧(0<L.length→∃g,ad=some ⟨g,0,none⟩):=by
 rcases h.ow.2 with⟨h0,h1⟩ | ⟨g,cap,cur,h0,_⟩
 ·exact⟨none,0,by rw[h0,h1],fun e=>by omega⟩
 ·exact⟨_,cap,h0,fun _=>⟨g,rfl⟩⟩
theorem Sc.row{v w:World}{b c m:Nat}{va:Value}{L:List Ak}(h:Sc v w b c m va L):∀gb n cap,va=.slice (some ⟨gb,0,none⟩) n cap→∀j (hj:j<L.length),(w.cell? ⟨gb,j*5,none⟩=some (iv L[j].op)∧w.cell? ⟨gb,j*5+1,none⟩=some (iv L[j].a)∧w.cell? ⟨gb,j*5+2,none⟩=some (iv L[j].b)∧w.cell? ⟨gb,j*5+3,none⟩=some (iv L[j].c)∧w.cell? ⟨gb,j*5+4,none⟩=some (iv L[j].n))∧∀i,w.frozen? ⟨gb,i,none⟩=false:=by
 intro gb n cap e j hj;obtain⟨ad,cap',e',_,hx⟩:=own_cells (f:=fA) (fun _=>rfl) h.ow;obtain⟨g,ea,_,_,hc⟩:=hx j hj;rw[e] at e';simp only [Value.slice.injEq] at e';rw[ea] at e';simp only [Option.some.injEq,Addr.mk.injEq,and_true] at e';obtain⟨rfl,_⟩:=e';refine⟨⟨by have:=hc 0 (by omega);simpa [fA] using this,by have:=hc 1 (by omega);simpa [fA] using this,by have:=hc 2 (by omega);simpa [fA] using this,by have:=hc 3 (by omega);simpa [fA] using this,by have:=hc 4 (by omega);simpa [fA] using this⟩,fun i=>?_⟩;rcases h.ow.2 with⟨h0,h1⟩ | ⟨g',cap2,cur,h0,hb,hg,_⟩
 ·omega
 ·rw[e] at h0;simp only [Value.slice.injEq,Option.some.injEq,Addr.mk.injEq,and_true] at h0;obtain⟨rfl,_⟩:=h0;simp [World.frozen?,hg]
theorem Sc.ext{v w w':World}{b c m:Nat}{va:Value}{L:List Ak}(h:Sc v w b c m va L)(e:Ext w w'):Sc v w' b c m va L:=h.read (Only.of_ext e) (h.cu.ext e)
theorem Sc.put{v w:World}{b c m gb n cap:Nat}{L:List Ak}(h:Sc v w b c m (.slice (some ⟨gb,0,none⟩) n cap) L)(j:Nat)(hj:j<L.length)(A:Ak)(hA:AkFit A):Sc v (w.setCells gb (j*5) (fA A)) b c m (.slice (some ⟨gb,0,none⟩) n cap) (L.set j A):=by
 have hn:n=L.length:=by
  obtain⟨ad,cp,e,_⟩:=h.form;simp only [Value.slice.injEq] at e;exact e.2.1
 subst hn;have o:Only (fun q=>q=gb) w (w.setCells gb (j*5) (fA A)):=put_only (S:=fun q=>q=gb) rfl (Only.refl _ _);have hb:gb≠b:=fun e=>h.n1 (by rw[←e];rfl)
 have hc:gb≠c:=fun e=>h.n2 (by rw[←e];rfl)
 have lo:=(h.ow.lt gb rfl).1;have hw:=cell_lt h.b2;have hcw:=h.cu.2.2.1.1;refine⟨h.cu.blk (o.ext h.cu.1 (fun q hq e=>by omega)) (o.block c hcw (by omega)),h.bc,(cell_blk (o.block b hw (by omega))).trans h.b2,?_,h.n1,h.n2,fun a ha=>?_,by simpa using h.hl⟩
 ·have:=own_put (fA A) (j*5) w (L.flatMap fA) h.ow;rw[put_act A L j hj] at this;rw[List.length_set];exact this
 ·rcases List.mem_or_eq_of_mem_set ha with q | q
  ·exact h.hL a q
  ·rw[q];exact hA
def ScPost(v:World)(c M:Nat)(e:Ending)(w':World):Prop:=∃(room:Int) (va:Value) (L:List Ak) (b m:Nat),Hid (e=.returned (.tuple #[iv room,va]))∧Hid (1≤room∧room≤4000)∧Hid (Sc v w' b c m va L)∧m≤M
theorem script_any(v w:World)(c m:Nat)(h:Cu v w c m)(hm:m≤99):
  Calls Tryz.prog 30 #[.pointer (some ⟨c,0,none⟩)] w fun e w'=>ScPost v c 99999 e w':=by
 have CU:=hide h;clear h;go_enter Tryz.func30,Tryz.ntmps30;go_wp2_with fail;refine(rooms_any v w c m (unhide CU) (by omega)).mono ?_;rintro e w1 ⟨n,he,n1,n2,CU⟩;have e2:=unhide he;subst e2;have NN:=hide (And.intro n1 n2);go_wp2_with fail;refine(lbegin_any v w1 c _ n n1 n2 (unhide CU)).mono ?_;rintro e w2 ⟨b,g,B,he,BD⟩;have e2:=unhide he;subst e2;clear he CU;have b0:=(unhide BD).c0;go_wp2_with fail;refine(bpick B v _ b c g _ _ (unhide BD) (by omega) (by omega) (by omega)).mono ?_;rintro e w3 ⟨r,he,r0,r1,bd⟩;have e2:=unhide he;subst e2;clear he BD b0;have BD:=bd;clear bd;go_wp2_with fail;go_loopw [6] (fun i wr=>∃k:Nat,k≤12∧i=.int .i64 k∧Hid (Bd B v wr b c g (m+10+(12-k)*300))) (fun i _=>(intOf i).toNat)
 case atStart=>exact⟨(1+r).toNat,by omega,by rw[Int.toNat_of_nonneg (by omega)],(unhide BD).more (by omega)⟩
 case round=>
  clear BD;obtain⟨k,hk,rfl,BD⟩:=hrel;have b0:=(unhide BD).c0;by_cases hlt:(k:Int) > 0
  ·go_wp2_with fail;refine(bsome B v _ b c g _ (unhide BD) (by omega)).mono ?_;rintro e w4 ⟨rfl,bd⟩;clear b0;go_wp2_with fail;go_roundw
   ·exact⟨k-1,by omega,by rw[Int.ofNat_sub (by omega)];rfl,(unhide bd).more (by omega)⟩
   ·simp [intOf];omega
  ·go_wp2_with fail;refine(bpick B v _ b c g _ _ (unhide BD) (by omega) (by omega) (by omega)).mono ?_;rintro e w4 ⟨r2,he,r20,r21,bd⟩;have e2:=unhide he;subst e2;clear he BD b0;obtain⟨va,L,sc⟩:=(unhide bd).sc;have LL:=hide sc.hl;obtain⟨ad,cap,rfl,hg⟩:=sc.form;have SC:=hide sc;obtain⟨N,hN⟩:∃N,N=L.length:=⟨_,rfl⟩;rw[←hN] at SC hg LL;have HG:=hide hg;clear bd sc hg;have hN4:N≤400:=unhide LL;go_wp2_with fail;go_loopw [7] (fun i wr=>∃(k:Int) (L:List Ak) (m':Nat),k≤2∧-1≤k∧i=.int .i64 k∧Hid (Sc v wr b c m' (.slice ad N cap) L∧L.length=N)∧Hid ((m':Int)≤m+5000+(2-k)*100)) (fun i _=>(intOf i+1).toNat)
   case atStart=>exact⟨r2-1,L,_,by omega,by omega,rfl,⟨unhide SC,hN.symm⟩,by show((_:Nat):Int)≤_;omega⟩
   case round=>
    clear SC hN L;obtain⟨k2,L,m',hk2,hk3,rfl,SC,HM⟩:=hrel;have b2:=(unhide SC).1.b2;have hbw:b<wr.heap.size:=cell_lt b2;have hm':m'≤9999:=by have:=unhide HM;omega
    by_cases hlt2:k2 > 0
    ·go_wp2_with fail;refine(pick_n v wr c m' ((N:Int)+1) (unhide SC).1.cu (by omega) (by omega) (by omega)).mono ?_;rintro e w5 ⟨y,he,y0,y1,cu,o⟩;have e2:=unhide he;subst e2;have SC5:=hide ((unhide SC).1.read (unhide o) (unhide cu));have LN:=hide (unhide SC).2;clear he cu o SC b2 hbw;have b2:=(unhide SC5).b2;have hbw:b<w5.heap.size:=cell_lt b2;by_cases hy:y<(N:Int)
     ·obtain⟨j,rfl⟩:∃j:Nat,y=j:=⟨y.toNat,by omega⟩;have hjN:j<N:=by omega
      obtain⟨gb,rfl⟩:=unhide HG (by omega);have hjL:j<L.length:=by rw[unhide LN];exact hjN
      have RW:=hide (unhide SC5).row;obtain⟨⟨a0,a1,a2,a3,a4⟩,_⟩:=unhide RW gb N cap rfl j hjL;have hgb:gb<w5.heap.size:=cell_lt a0;have hj0:(0:Int)≤(j:Int):=by omega
      have hj1:(j:Int)<(N:Int):=by omega
      go_wp2_with fail;go_region_with (go_at_call 51;refine(oddact_any v _ c _ L[j] ((unhide SC5).hL _ (List.getElem_mem hjL)) ((unhide SC5).cu.ext (by first | exact Ext.refl _ | exact(Ext.refl _).drew)) (by omega)).mono ?_;rintro e w6 ⟨A,he,fa,cu,o⟩;have e2:=unhide he;subst e2;have SC6:=hide (((unhide SC5).ext (by first | exact Ext.refl _ | exact(Ext.refl _).drew)).read (unhide o) (unhide cu));obtain⟨⟨d0,d1,d2,d3,d4⟩,df⟩:=(unhide SC6).row gb N cap rfl j hjL;have hgb6:gb<w6.heap.size:=cell_lt d0;have e2':=(unhide SC6).b2;have hb6:b<w6.heap.size:=cell_lt e2')
      all_goals
       have PT:=hide ((unhide SC6).put j hjL A (unhide fa));clear d0 d1 d2 d3 d4 df e2';go_wp2_with fail;go_roundw
       ·exact⟨k2-1,L.set j A,_,by omega,by omega,rfl,⟨unhide PT,by rw[List.length_set];exact unhide LN⟩,by show((_:Nat):Int)≤_;have:=unhide HM;omega⟩
       ·simp [intOf];omega
     ·go_wp2_with fail;go_roundw
      ·exact⟨k2-1,L,m'+2,by omega,by omega,rfl,⟨unhide SC5,unhide LN⟩,by show((_:Nat):Int)≤_;have:=unhide HM;omega⟩
      ·simp [intOf];omega
    ·go_wp2_with fail
     go_region
     all_goals
      go_wp2_with fail;go_ret2;exact⟨n,_,L,b,m',rfl,unhide NN,(unhide SC).1.ext (Ext.refl _).drew,by omega⟩
structure Rw2(v w:World)(c m:Nat)(va:Value)(L:List Ak):Prop where
 cu:Cu v w c m
 ow:w.ownsRow v.heap.size 43 5 va L.length (L.flatMap fA)
 n2:va.ownBlock≠some c
 hL:∀a,a∈L→AkFit a
 hl:L.length≤1001
theorem Sc.rw{v w:World}{b c m:Nat}{va:Value}{L:List Ak}(h:Sc v w b c m va L):Rw2 v w c m va L:=⟨h.cu,h.ow,h.n2,h.hL,by have:=h.hl;omega⟩
def RwPost(v:World)(c M:Nat)(e:Ending)(w':World):Prop:=∃(room:Int) (va:Value) (L:List Ak) (m:Nat),Hid (e=.returned (.tuple #[iv room,va]))∧Hid (-9223372036854775808≤room∧room≤9223372036854775807)∧Hid (Rw2 v w' c m va L)∧m≤M
theorem Rw2.push{v wr W w2:World}{c m g cap:Nat}{va:Value}{L:List Ak}{y:Ak}(h:Rw2 v wr c m va L)(e:Ext wr W)(how:w2.ownsRow v.heap.size 43 5 (.slice (some ⟨g,0,none⟩) (L.length+1) cap) (L.length+1) (L.flatMap fA++fA y))(hg:W.grownBy w2 va.ownBlock)(hat:va.ownBlock=some g∨W.heap.size≤g)(hy:AkFit y)(hl:L.length+1≤1001):Rw2 v w2 c m (.slice (some ⟨g,0,none⟩) (L.length+1) cap) (L++[y]):=by
 have hc:=h.cu.2.2.1.1;have hcW:c<W.heap.size:=Nat.lt_of_lt_of_le hc e.size;have hb:w2.heap[c]?=W.heap[c]?:=hg.block c hcW (fun q=>h.n2 q.symm);have ex:Ext v w2:=grown_ext (h.cu.1.trans e) (ownsRow_of_block h.ow (fun q hq=>e.block q (h.ow.lt q hq).2)) (Nat.le_refl _) hg;refine⟨(h.cu.ext e).blk ex hb,?_,fun q=>?_,fun a ha=>?_,by simpa using hl⟩
 ·rw[List.flatMap_append,List.length_append];simpa using how
 ·simp only [Value.ownBlock,Option.some.injEq] at q;rcases hat with f | f
  ·exact h.n2 (by rw[f,q])
  ·omega
 ·rcases List.mem_append.1 ha with q | q
  ·exact h.hL a q
  ·simp at q;rw[q];exact hy
theorem full_any(v w:World)(c m:Nat)(h:Cu v w c m)(hm:m≤99999):
  Calls Tryz.prog 29 #[.pointer (some ⟨c,0,none⟩)] w fun e w'=>RwPost v c (m+2) e w':=by
 have CU:=hide h;clear h;go_enter Tryz.func29,Tryz.ntmps29;go_wp2_with fail;refine(pick_n v w c m 3 (unhide CU) (by omega) (by omega) (by omega)).mono ?_;rintro e w1 ⟨r,he,r0,r1,cu,o⟩;have e2:=unhide he;subst e2;have CU:=hide (unhide cu);clear he cu o;go_wp2_with fail;obtain⟨i0,hi0,hz0,hz1,hz2⟩:=info_parts infoA;go_loopw [4,5] (fun va i wr=>∃(k:Nat) (L:List Ak),k≤1001∧i=.int .i64 k∧Hid (Rw2 v wr c (m+2) va L)∧Hid (L.length+k≤1001)) (fun _ i _=>(intOf i).toNat)
 case atStart=>exact⟨(999+r).toNat,[],by omega,by rw[Int.toNat_of_nonneg (by omega)],⟨unhide CU,World.ownsRow_nil _ _ _ _,by simp [Value.ownBlock],by simp,by simp⟩,by show([]:List Ak).length+_≤1001;simp only [List.length_nil];omega⟩
 case round=>
  obtain⟨k,L,hk,rfl,RW,LK⟩:=hrel;by_cases hlt:(k:Int) > 0
  ·obtain⟨y,hy⟩:∃y:Ak,y=⟨1,(k:Int) % 3,0,1+(k:Int) % 7,0⟩:=⟨_,rfl⟩;have FY:=hide (show AkFit y by rw[hy];refine⟨?_,?_,?_,?_,?_⟩ <;> simp only <;> omega);have ey:fA y=[iv 1,iv ((k:Int) % 3),iv 0,iv (1+(k:Int) % 7),iv 0]:=by rw[hy];rfl
   go_wp2_with (at_builtin;refine wpList_append_lies _ rfl _ _ 23 rfl v.heap.size 43 i0 (.agg #[iv 0,iv 0,iv 0,iv 0,iv 0]) 5 40 Tryz.underlying23 hi0 hz0 hz1 hz2 rfl (by decide) _ L.length (L.flatMap fA) rfl ((unhide RW).ow.alloc _) _ 1 1 [iv 1,iv ((k:Int) % 3),iv 0,iv (1+(k:Int) % 7),iv 0] rfl rfl ?c1 ?c2 (by decide) ?c3 ?c4 ?c5 _ rfl ?_)
   case c1=>
    intro q u hk
    match q,hk with
    | 0,hk=>simp at hk;subst hk;simp [Addr.add,go_sem]
    | 1,hk=>simp at hk;subst hk;simp [Addr.add,go_sem]
    | 2,hk=>simp at hk;subst hk;simp [Addr.add,go_sem]
    | 3,hk=>simp at hk;subst hk;simp [Addr.add,go_sem]
    | 4,hk=>simp at hk;subst hk;simp [Addr.add,go_sem]
    | q+5,hk=>simp at hk
   case c2=>intro u hu;simp at hu;rcases hu with e | e | e | e | e <;> subst e <;> rfl
   case c3=>have:=unhide LK;unfold maxLen;omega
   case c4=>have:=unhide LK;omega
   case c5=>have:=(unhide RW).cu.1.size;simp;omega
   intro g cap' w2 how hgr hat hlt2;have PU:=hide ((unhide RW).push ((Ext.refl _).alloc _) (y:=y) (by rw[ey];exact how) hgr (by rcases hat with f | f;exact .inl f;exact .inr (by rw[World.size_alloc];omega)) (unhide FY) (by have:=unhide LK;omega));clear how hgr hat;go_wp2_with fail;go_roundw
   case rel=>exact⟨k-1,L++[y],by omega,by rw[Int.ofNat_sub (by omega)];rfl,unhide PU,by show(L++[y]).length+_≤1001;have:=unhide LK;simp;omega⟩
   case measure=>simp [intOf];omega
  ·go_wp2_with fail;go_ret2;exact⟨100,_,L,m+2,rfl,⟨by omega,by omega⟩,unhide RW,Nat.le_refl _⟩
theorem long_any(v w:World)(c m:Nat)(h:Cu v w c m)(hm:m≤99999):
  Calls Tryz.prog 28 #[.pointer (some ⟨c,0,none⟩)] w fun e w'=>RwPost v c (m+2) e w':=by
 obtain⟨i0,hi0,hz0,hz1,hz2⟩:=info_parts infoA;have CU:=hide h;clear h;go_enter Tryz.func28,Tryz.ntmps28;go_wp2_with fail;go_loopw [4,5] (fun va i wr=>∃(k:Nat) (L:List Ak),k≤713∧i=.int .i64 k∧Hid (Rw2 v wr c m va L)∧Hid (L.length≤k∧k≤713)) (fun _ i _=>713-(intOf i).toNat)
 case atStart=>exact⟨0,[],by omega,rfl,⟨unhide CU,World.ownsRow_nil _ _ _ _,by simp [Value.ownBlock],by simp,by simp⟩,by show([]:List Ak).length≤_∧_;simp⟩
 case round=>
  obtain⟨k,L,hk,rfl,RW,LK⟩:=hrel;by_cases hlt:(k:Int)<713
  ·obtain⟨y,hy⟩:∃y:Ak,y=⟨2,15,0,0,-9223372036854775808⟩:=⟨_,rfl⟩;have FY:=hide (show AkFit y by rw[hy];refine⟨?_,?_,?_,?_,?_⟩ <;> simp only <;> omega);have ey:fA y=[iv 2,iv 15,iv 0,iv 0,iv (-9223372036854775808)]:=by rw[hy];rfl
   go_wp2_with (at_builtin;refine wpList_append_lies _ rfl _ _ 23 rfl v.heap.size 43 i0 (.agg #[iv 0,iv 0,iv 0,iv 0,iv 0]) 5 40 Tryz.underlying23 hi0 hz0 hz1 hz2 rfl (by decide) _ L.length (L.flatMap fA) rfl ((unhide RW).ow.alloc _) _ 1 1 [iv 2,iv 15,iv 0,iv 0,iv (-9223372036854775808)] rfl rfl ?c1 ?c2 (by decide) ?c3 ?c4 ?c5 _ rfl ?_)
   case c1=>
    intro q u hk
    match q,hk with
    | 0,hk=>simp at hk;subst hk;simp [Addr.add,go_sem]
    | 1,hk=>simp at hk;subst hk;simp [Addr.add,go_sem]
    | 2,hk=>simp at hk;subst hk;simp [Addr.add,go_sem]
    | 3,hk=>simp at hk;subst hk;simp [Addr.add,go_sem]
    | 4,hk=>simp at hk;subst hk;simp [Addr.add,go_sem]
    | q+5,hk=>simp at hk
   case c2=>
    intro u hu;rcases List.mem_cons.1 hu with rfl | hu
    ·rfl
    ·rcases List.mem_cons.1 hu with rfl | hu
     ·rfl
     ·rcases List.mem_cons.1 hu with rfl | hu
      ·rfl
      ·rcases List.mem_cons.1 hu with rfl | hu
       ·rfl
       ·rcases List.mem_cons.1 hu with rfl | hu
        ·rfl
        ·cases hu
   case c3=>have:=unhide LK;unfold maxLen;omega
   case c4=>have:=unhide LK;omega
   case c5=>have:=(unhide RW).cu.1.size;simp;omega
   intro g cap' w2 how hgr hat hlt2;have PU:=hide ((unhide RW).push ((Ext.refl _).alloc _) (y:=y) (by rw[ey];exact how) hgr (by rcases hat with f | f;exact .inl f;exact .inr (by simp only [World.size_alloc];omega)) (unhide FY) (by have:=unhide LK;omega));clear how hgr hat;go_wp2_with fail;go_roundw
   case rel=>exact⟨k+1,L++[y],by omega,by go_num,unhide PU,by show(L++[y]).length≤_∧_;have:=unhide LK;simp;omega⟩
   case measure=>simp [intOf];omega
  ·have LK2:=hide (show L.length≤713 from Nat.le_trans (unhide LK).1 (unhide LK).2);go_wp2_with fail;go_loopw [4,6] (fun va i wr=>∃(k:Nat) (L:List Ak),k≤4∧i=.int .i64 k∧Hid (Rw2 v wr c m va L)∧Hid (L.length≤713+k∧k≤4)) (fun _ i _=>4-(intOf i).toNat)
   case atStart=>exact⟨0,L,by omega,rfl,unhide RW,by show L.length≤_∧_;have:=unhide LK2;omega⟩
   case round=>
    clear RW LK LK2 L;obtain⟨k2,L,hk2,rfl,RW,LK⟩:=hrel;by_cases hlt2:(k2:Int)<4
    ·obtain⟨y,hy⟩:∃y:Ak,y=⟨21,0,0,0,0⟩:=⟨_,rfl⟩;have FY:=hide (show AkFit y by rw[hy];refine⟨?_,?_,?_,?_,?_⟩ <;> simp only <;> omega);have ey:fA y=[iv 21,iv 0,iv 0,iv 0,iv 0]:=by rw[hy];rfl
     go_wp2_with (at_builtin;refine wpList_append_lies _ rfl _ _ 23 rfl v.heap.size 43 i0 (.agg #[iv 0,iv 0,iv 0,iv 0,iv 0]) 5 40 Tryz.underlying23 hi0 hz0 hz1 hz2 rfl (by decide) _ L.length (L.flatMap fA) rfl ((unhide RW).ow.alloc _) _ 1 1 [iv 21,iv 0,iv 0,iv 0,iv 0] rfl rfl ?c1 ?c2 (by decide) ?c3 ?c4 ?c5 _ rfl ?_)
     case c1=>
      intro q u hk
      match q,hk with
      | 0,hk=>simp at hk;subst hk;simp [Addr.add,go_sem]
      | 1,hk=>simp at hk;subst hk;simp [Addr.add,go_sem]
      | 2,hk=>simp at hk;subst hk;simp [Addr.add,go_sem]
      | 3,hk=>simp at hk;subst hk;simp [Addr.add,go_sem]
      | 4,hk=>simp at hk;subst hk;simp [Addr.add,go_sem]
      | q+5,hk=>simp at hk
     case c2=>
      intro u hu;rcases List.mem_cons.1 hu with rfl | hu
      ·rfl
      ·rcases List.mem_cons.1 hu with rfl | hu
       ·rfl
       ·rcases List.mem_cons.1 hu with rfl | hu
        ·rfl
        ·rcases List.mem_cons.1 hu with rfl | hu
         ·rfl
         ·rcases List.mem_cons.1 hu with rfl | hu
          ·rfl
          ·cases hu
     case c3=>have:=unhide LK;unfold maxLen;omega
     case c4=>have:=unhide LK;omega
     case c5=>have:=(unhide RW).cu.1.size;simp;omega
     intro g cap' w2 how hgr hat hlt2;have PU:=hide ((unhide RW).push ((Ext.refl _).alloc _) (y:=y) (by rw[ey];exact how) hgr (by rcases hat with f | f;exact .inl f;exact .inr (by simp only [World.size_alloc];omega)) (unhide FY) (by have:=unhide LK;omega));clear how hgr hat;go_wp2_with fail;go_roundw
     case rel=>exact⟨k2+1,L++[y],by omega,by go_num,unhide PU,by show(L++[y]).length≤_∧_;have:=unhide LK;simp;omega⟩
     case measure=>simp [intOf];omega
    ·have LK2:=hide (show L.length≤717 by have:=unhide LK;omega);go_wp2_with fail;obtain⟨W1,hW1⟩:∃W,W=wr.alloc (.cells #[iv 19,iv 5,iv 0,iv 0,iv 0,iv 19,iv 15,iv 0,iv 0,iv 0,iv 14,iv 15,iv 0,iv 0,iv 0] 43):=⟨_,rfl⟩;have XA:Ext wr W1:=by rw[hW1];exact(Ext.refl _).alloc _
     have CE:=hide (show(W1.cell? ⟨wr.heap.size,0,none⟩=some (iv 19)∧W1.cell? ⟨wr.heap.size,1,none⟩=some (iv 5)∧W1.cell? ⟨wr.heap.size,2,none⟩=some (iv 0)∧W1.cell? ⟨wr.heap.size,3,none⟩=some (iv 0)∧W1.cell? ⟨wr.heap.size,4,none⟩=some (iv 0))∧(W1.cell? ⟨wr.heap.size,5,none⟩=some (iv 19)∧W1.cell? ⟨wr.heap.size,6,none⟩=some (iv 15)∧W1.cell? ⟨wr.heap.size,7,none⟩=some (iv 0)∧W1.cell? ⟨wr.heap.size,8,none⟩=some (iv 0)∧W1.cell? ⟨wr.heap.size,9,none⟩=some (iv 0))∧(W1.cell? ⟨wr.heap.size,10,none⟩=some (iv 14)∧W1.cell? ⟨wr.heap.size,11,none⟩=some (iv 15)∧W1.cell? ⟨wr.heap.size,12,none⟩=some (iv 0)∧W1.cell? ⟨wr.heap.size,13,none⟩=some (iv 0)∧W1.cell? ⟨wr.heap.size,14,none⟩=some (iv 0)) by rw[hW1];refine⟨⟨?_,?_,?_,?_,?_⟩,⟨?_,?_,?_,?_,?_⟩,⟨?_,?_,?_,?_,?_⟩⟩ <;> simp [go_sem]);have SZ:=hide (show wr.heap.size<W1.heap.size by rw[hW1];simp);have hcw:c<wr.heap.size:=(unhide RW).cu.2.2.1.1;rw[←hW1];refine(pick_n v W1 c m 3 ((unhide RW).cu.ext XA) (by omega) (by omega) (by omega)).mono ?_;rintro e w5 ⟨r,he,r0,r1,cu,o⟩;have e2:=unhide he;subst e2;have KP:=hide (fun(j:Nat) (u:Value) (h:W1.cell? ⟨wr.heap.size,j,none⟩=some u)=>(unhide o).keep (b:=wr.heap.size) (fun e=>by omega) h);have RW5:=hide (show Rw2 v w5 c (m+2) _ L from⟨unhide cu,ownsRow_of_block (unhide RW).ow (fun q hq=>((unhide o).block q (Nat.lt_of_lt_of_le ((unhide RW).ow.lt q hq).2 XA.size) (fun e=>(unhide RW).n2 (by rw[←e];exact hq))).trans (XA.block q ((unhide RW).ow.lt q hq).2)),(unhide RW).n2,(unhide RW).hL,(unhide RW).hl⟩);clear he cu o RW LK;have RW:=RW5;have LK:=LK2;clear RW5 LK2 XA hW1;obtain⟨CE0,CE1,CE2⟩:=unhide CE;have hr:r=0∨r=1∨r=2:=by omega
     clear r0 r1 CE;rcases hr with rfl | rfl | rfl
     ·obtain⟨y,hy⟩:∃y:Ak,y=⟨19,5,0,0,0⟩:=⟨_,rfl⟩;have FY:=hide (show AkFit y by rw[hy];refine⟨?_,?_,?_,?_,?_⟩ <;> simp only <;> omega);have ey:fA y=[iv 19,iv 5,iv 0,iv 0,iv 0]:=by rw[hy];rfl
      obtain⟨z0,z1,z2,z3,z4⟩:=CE0;have z0:=unhide KP _ _ z0;have z1:=unhide KP _ _ z1;have z2:=unhide KP _ _ z2;have z3:=unhide KP _ _ z3;have z4:=unhide KP _ _ z4;have hz5:wr.heap.size<w5.heap.size:=cell_lt z0;go_wp2_with (at_builtin;refine wpList_append_lies _ rfl _ _ 23 rfl v.heap.size 43 i0 (.agg #[iv 0,iv 0,iv 0,iv 0,iv 0]) 5 40 Tryz.underlying23 hi0 hz0 hz1 hz2 rfl (by decide) _ L.length (L.flatMap fA) rfl ((unhide RW).ow.alloc _) _ 1 1 [iv 19,iv 5,iv 0,iv 0,iv 0] rfl rfl ?c1 ?c2 (by decide) ?c3 ?c4 ?c5 _ rfl ?_)
      case c1=>
       intro q u hk
       match q,hk with
       | 0,hk=>simp at hk;subst hk;simp [Addr.add,go_sem]
       | 1,hk=>simp at hk;subst hk;simp [Addr.add,go_sem]
       | 2,hk=>simp at hk;subst hk;simp [Addr.add,go_sem]
       | 3,hk=>simp at hk;subst hk;simp [Addr.add,go_sem]
       | 4,hk=>simp at hk;subst hk;simp [Addr.add,go_sem]
       | q+5,hk=>simp at hk
      case c2=>
       intro u hu;rcases List.mem_cons.1 hu with rfl | hu
       ·rfl
       ·rcases List.mem_cons.1 hu with rfl | hu
        ·rfl
        ·rcases List.mem_cons.1 hu with rfl | hu
         ·rfl
         ·rcases List.mem_cons.1 hu with rfl | hu
          ·rfl
          ·rcases List.mem_cons.1 hu with rfl | hu
           ·rfl
           ·cases hu
      case c3=>have:=unhide LK;unfold maxLen;omega
      case c4=>have:=unhide LK;omega
      case c5=>have:=(unhide RW).cu.1.size;simp;omega
      intro g cap' w2 how hgr hat hlt2;have PU:=hide ((unhide RW).push ((Ext.refl _).alloc _) (y:=y) (by rw[ey];exact how) hgr (by rcases hat with f | f;exact .inl f;exact .inr (by simp only [World.size_alloc];omega)) (unhide FY) (by have:=unhide LK;omega));clear how hgr hat;go_wp2_with fail;go_ret2;exact⟨100,_,L++[y],m+2,rfl,⟨by omega,by omega⟩,unhide PU,Nat.le_refl _⟩
     ·obtain⟨y,hy⟩:∃y:Ak,y=⟨19,15,0,0,0⟩:=⟨_,rfl⟩;have FY:=hide (show AkFit y by rw[hy];refine⟨?_,?_,?_,?_,?_⟩ <;> simp only <;> omega);have ey:fA y=[iv 19,iv 15,iv 0,iv 0,iv 0]:=by rw[hy];rfl
      obtain⟨z0,z1,z2,z3,z4⟩:=CE1;have z0:=unhide KP _ _ z0;have z1:=unhide KP _ _ z1;have z2:=unhide KP _ _ z2;have z3:=unhide KP _ _ z3;have z4:=unhide KP _ _ z4;have hz5:wr.heap.size<w5.heap.size:=cell_lt z0;go_wp2_with (at_builtin;refine wpList_append_lies _ rfl _ _ 23 rfl v.heap.size 43 i0 (.agg #[iv 0,iv 0,iv 0,iv 0,iv 0]) 5 40 Tryz.underlying23 hi0 hz0 hz1 hz2 rfl (by decide) _ L.length (L.flatMap fA) rfl ((unhide RW).ow.alloc _) _ 1 1 [iv 19,iv 15,iv 0,iv 0,iv 0] rfl rfl ?c1 ?c2 (by decide) ?c3 ?c4 ?c5 _ rfl ?_)
      case c1=>
       intro q u hk
       match q,hk with
       | 0,hk=>simp at hk;subst hk;simp [Addr.add,go_sem]
       | 1,hk=>simp at hk;subst hk;simp [Addr.add,go_sem]
       | 2,hk=>simp at hk;subst hk;simp [Addr.add,go_sem]
       | 3,hk=>simp at hk;subst hk;simp [Addr.add,go_sem]
       | 4,hk=>simp at hk;subst hk;simp [Addr.add,go_sem]
       | q+5,hk=>simp at hk
      case c2=>
       intro u hu;rcases List.mem_cons.1 hu with rfl | hu
       ·rfl
       ·rcases List.mem_cons.1 hu with rfl | hu
        ·rfl
        ·rcases List.mem_cons.1 hu with rfl | hu
         ·rfl
         ·rcases List.mem_cons.1 hu with rfl | hu
          ·rfl
          ·rcases List.mem_cons.1 hu with rfl | hu
           ·rfl
           ·cases hu
      case c3=>have:=unhide LK;unfold maxLen;omega
      case c4=>have:=unhide LK;omega
      case c5=>have:=(unhide RW).cu.1.size;simp;omega
      intro g cap' w2 how hgr hat hlt2;have PU:=hide ((unhide RW).push ((Ext.refl _).alloc _) (y:=y) (by rw[ey];exact how) hgr (by rcases hat with f | f;exact .inl f;exact .inr (by simp only [World.size_alloc];omega)) (unhide FY) (by have:=unhide LK;omega));clear how hgr hat;go_wp2_with fail;go_ret2;exact⟨100,_,L++[y],m+2,rfl,⟨by omega,by omega⟩,unhide PU,Nat.le_refl _⟩
     ·obtain⟨y,hy⟩:∃y:Ak,y=⟨14,15,0,0,0⟩:=⟨_,rfl⟩;have FY:=hide (show AkFit y by rw[hy];refine⟨?_,?_,?_,?_,?_⟩ <;> simp only <;> omega);have ey:fA y=[iv 14,iv 15,iv 0,iv 0,iv 0]:=by rw[hy];rfl
      obtain⟨z0,z1,z2,z3,z4⟩:=CE2;have z0:=unhide KP _ _ z0;have z1:=unhide KP _ _ z1;have z2:=unhide KP _ _ z2;have z3:=unhide KP _ _ z3;have z4:=unhide KP _ _ z4;have hz5:wr.heap.size<w5.heap.size:=cell_lt z0;go_wp2_with (at_builtin;refine wpList_append_lies _ rfl _ _ 23 rfl v.heap.size 43 i0 (.agg #[iv 0,iv 0,iv 0,iv 0,iv 0]) 5 40 Tryz.underlying23 hi0 hz0 hz1 hz2 rfl (by decide) _ L.length (L.flatMap fA) rfl ((unhide RW).ow.alloc _) _ 1 1 [iv 14,iv 15,iv 0,iv 0,iv 0] rfl rfl ?c1 ?c2 (by decide) ?c3 ?c4 ?c5 _ rfl ?_)
      case c1=>
       intro q u hk
       match q,hk with
       | 0,hk=>simp at hk;subst hk;simp [Addr.add,go_sem]
       | 1,hk=>simp at hk;subst hk;simp [Addr.add,go_sem]
       | 2,hk=>simp at hk;subst hk;simp [Addr.add,go_sem]
       | 3,hk=>simp at hk;subst hk;simp [Addr.add,go_sem]
       | 4,hk=>simp at hk;subst hk;simp [Addr.add,go_sem]
       | q+5,hk=>simp at hk
      case c2=>
       intro u hu;rcases List.mem_cons.1 hu with rfl | hu
       ·rfl
       ·rcases List.mem_cons.1 hu with rfl | hu
        ·rfl
        ·rcases List.mem_cons.1 hu with rfl | hu
         ·rfl
         ·rcases List.mem_cons.1 hu with rfl | hu
          ·rfl
          ·rcases List.mem_cons.1 hu with rfl | hu
           ·rfl
           ·cases hu
      case c3=>have:=unhide LK;unfold maxLen;omega
      case c4=>have:=unhide LK;omega
      case c5=>have:=(unhide RW).cu.1.size;simp;omega
      intro g cap' w2 how hgr hat hlt2;have PU:=hide ((unhide RW).push ((Ext.refl _).alloc _) (y:=y) (by rw[ey];exact how) hgr (by rcases hat with f | f;exact .inl f;exact .inr (by simp only [World.size_alloc];omega)) (unhide FY) (by have:=unhide LK;omega));clear how hgr hat;go_wp2_with fail;go_ret2;exact⟨100,_,L++[y],m+2,rfl,⟨by omega,by omega⟩,unhide PU,Nat.le_refl _⟩
theorem Cu.new{w:World}{ad:Option Addr}{n k:Nat}(h:ByAt w (.slice ad n k)):Cu w (w.alloc (.cells #[.slice ad n k,iv 0,.int .u64 0] 61)) w.heap.size 0:=by
 obtain⟨ad',n',k',e,hn,hx⟩:=h;simp only [Value.slice.injEq] at e;obtain⟨rfl,rfl,rfl⟩:=e;exact⟨(Ext.refl w).alloc _,Nat.le_refl _,⟨by simp [go_sem],fun j=>by simp [go_sem]⟩,ad,n,k,0,0,by simp [go_sem],by simp [go_sem],by simp [go_sem],by omega,by omega,hn,fun i hi=>hx i hi⟩
theorem ScPost.rw{v w':World}{c M:Nat}{e:Ending}(h:ScPost v c M e w'):RwPost v c M e w':=by
 obtain⟨room,va,L,b,m,he,hr,sc,hm⟩:=h;exact⟨room,va,L,m,he,⟨by have:=unhide hr;omega,by have:=unhide hr;omega⟩,(unhide sc).rw,hm⟩
theorem drawn_any(w:World)(u:Value)(hu:ByAt w u):
  Calls Tryz.prog 11 #[u] w fun e w'=>RwPost w w.heap.size 999999 e w':=by
 obtain⟨au,nu,ku,rfl,hnu,hx⟩:=hu;have CU:=hide (Cu.new (w:=w) (ad:=au) (n:=nu) (k:=ku) ⟨au,nu,ku,rfl,hnu,hx⟩);clear hx;go_enter Tryz.func11,Tryz.ntmps11;go_wp2_with fail;obtain⟨W1,hW1⟩:∃W,W=w.alloc (.cells #[.slice au nu ku,iv 0,.int .u64 0] 61):=⟨_,rfl⟩;rw[←hW1] at CU ⊢;clear hW1;refine(pick_n w W1 w.heap.size 0 20 (unhide CU) (by omega) (by omega) (by omega)).mono ?_;rintro e w2 ⟨r,he,r0,r1,cu,o⟩;have e2:=unhide he;subst e2;have CU:=hide (unhide cu);clear he cu o;have hr:r=2∨r=0∨r=1∨(r≠2∧r≠0∧r≠1):=by omega
 rcases hr with rfl | rfl | rfl | ⟨h1,h2,h3⟩
 ·go_wp2_with fail;refine(long_any w w2 w.heap.size _ (unhide CU) (by omega)).mono ?_;rintro e w3 ⟨room,va,L,m,he,hr,rw,hm⟩;have e2:=unhide he;subst e2;clear he;go_wp2_with fail;go_ret2;exact⟨room,va,L,m,rfl,unhide hr,unhide rw,by omega⟩
 ·go_wp2_with fail;refine(full_any w w2 w.heap.size _ (unhide CU) (by omega)).mono ?_;rintro e w3 ⟨room,va,L,m,he,hr,rw,hm⟩;have e2:=unhide he;subst e2;clear he;go_wp2_with fail;go_ret2;exact⟨room,va,L,m,rfl,unhide hr,unhide rw,by omega⟩
 ·go_wp2_with fail;refine(script_any w w2 w.heap.size _ (unhide CU) (by omega)).mono ?_;intro e w3 h3;obtain⟨room,va,L,m,he,hr,rw,hm⟩:=ScPost.rw h3;have e2:=unhide he;subst e2;clear he h3;go_wp2_with fail;refine(odd_any w w3 w.heap.size m (unhide rw).cu (by omega)).mono ?_;rintro e w4 ⟨z,he,hz,cu,o⟩;have e2:=unhide he;subst e2;have RW:=hide (show Rw2 w w4 w.heap.size (m+4) va L from⟨unhide cu,ownsRow_of_block (unhide rw).ow (fun q hq=>(unhide o).block q ((unhide rw).ow.lt q hq).2 (fun e=>(unhide rw).n2 (by rw[←e];exact hq))),(unhide rw).n2,(unhide rw).hL,(unhide rw).hl⟩);clear he cu o;go_wp2_with fail;go_ret2;exact⟨z,va,L,m+4,rfl,unhide hz,unhide RW,by omega⟩
 ·have q2:(r == 2)=false:=by simpa using h1
  have q0:(r == 0)=false:=by simpa using h2
  have q1:(r == 1)=false:=by simpa using h3
  go_wp2_with fail;refine(script_any w w2 w.heap.size _ (unhide CU) (by omega)).mono ?_;intro e w3 h3;obtain⟨room,va,L,m,he,hr,rw,hm⟩:=ScPost.rw h3;have e2:=unhide he;subst e2;clear he h3;go_wp2_with fail;go_ret2;exact⟨room,va,L,m,rfl,unhide hr,unhide rw,by omega⟩
theorem AkFit.fit{A:Ak}(h:AkFit A):A.Fit:=fun j=>by
 obtain⟨h0,h1,h2,h3,h4⟩:=h
 match j with
 | 0=>exact h1
 | 1=>exact h2
 | 2=>exact h3
 | 3=>exact h4
 | j+4=>simp [Ak.num]
theorem plain7_any(room:Int)(xs:List Ak)(va:Value)(w:World)(hr0:-9223372036854775808≤room)(hr1:room≤9223372036854775807)(h:SlA w va xs)(hn:xs.length≤1001)(hf:∀a,a∈xs→AkFit a):
  Calls Tryz.prog 44 #[.int .i64 room,va] w fun e w'=>∃l:List UInt8,Hid (e=.returned (.string ⟨l.toArray⟩))∧Hid (l≠[]∧l.length≤99999)∧Ext w w':=by
 obtain⟨i0,hi0,hz0,hz1,hz2⟩:=info_parts infoU8;obtain⟨ad,cap,rfl,_,hx⟩:=h;have HX:=hide hx;have FT:=hide hf;have QD:=hide (fun W=>l7decimal_any room hr0 hr1 W);have b1:=Lib.itoa_length_le room hr0 hr1;have RL:=hide (room_len room hr0 hr1);clear hx hf;go_enter Tryz.func44,Tryz.ntmps44;go_wp2_with fail;refine(unhide QD _).mono ?_;rintro e w3 ⟨rfl,x3⟩;go_wp2_with (at_builtin;refine Lib.wpList_append_own_string _ rfl _ _ 22 9 rfl w.heap.size 5 i0 Tryz.underlying22 Tryz.underlying9 hi0 hz0 hz1 hz2 _ 0 [] rfl (World.ownsRow_nil _ _ _ _) _ rfl ?c1 ?c2 ?c3 ?_)
 case c1=>rw[size_of (room_str room)];have:=unhide RL;unfold maxLen;omega
 case c2=>rw[size_of (room_str room)];have:=unhide RL;omega
 case c3=>exact x3.size
 intro v4 w4 hown4 hgrow _
 have R0:=hide (show w4.ownsRow w.heap.size 5 1 v4 (roomL room).length (Lib.byteCells (roomL room)) by
  rw[strCells_of (room_str room)] at hown4;have e:(roomL room).length=5+(Lib.itoa room).length+1:=by unfold roomL;simp;omega
  rw[e];exact hown4)
 have X4:=hide (grown_ext x3 (World.ownsRow_nil _ _ 5 1) (Nat.le_refl _) hgrow);clear hown4 hgrow;go_wp2_with fail;go_loopw [5,16] (fun v i wr=>∃(k:Nat) (l:List UInt8),k≤xs.length∧i=.int .i64 k∧Hid (l≠[]∧l.length≤27+95*k)∧Hid (wr.ownsRow w.heap.size 5 1 v l.length (Lib.byteCells l))∧Ext w wr) (fun _ i _=>xs.length-(intOf i).toNat)
 case atStart=>exact⟨0,roomL room,Nat.zero_le _,rfl,⟨by unfold roomL;simp,by have:=unhide RL;omega⟩,unhide R0,unhide X4⟩
 case round=>
  obtain⟨k,l,hk,rfl,hll,hown,hbl⟩:=hrel;by_cases hlt:k<xs.length
  ·obtain⟨b,o,rfl,p0,p1,p2,p3,p4⟩:=unhide HX k hlt;have e0:=hbl.keep p0;have e1:=hbl.keep p1;have e2:=hbl.keep p2;have e3:=hbl.keep p3;have e4:=hbl.keep p4;clear p0 p1 p2 p3 p4;have hb':b<wr.heap.size:=cell_lt e0;have hk0:(0:Int)≤(k:Int):=by omega
   have hk1:(k:Int)<(xs.length:Int):=by omega
   have FX:=hide (unhide FT xs[k] (List.getElem_mem hlt)).fit;obtain⟨y,hy⟩:∃y,y=xs[k]:=⟨_,rfl⟩;rw[←hy] at e0 e1 e2 e3 e4 FX;clear hy;have xa:=(Ext.refl wr).alloc (.cells #[iv y.op,iv y.a,iv y.b,iv y.c,iv y.n] 43);have LL:=hide (show l.length≤27+95*1001 by have:=(unhide hll).2;omega);by_cases q:1≤y.op∧y.op≤24
   ·have QL:=hide (fun W=>l7line_any y q.1 q.2 (unhide FX) W);have b2:=line_len (unhide FX);have hb0:=hbl.size;obtain⟨q1,q2⟩:=q;go_wp2_with fail;refine(unhide QL _).mono ?_;rintro e w6 ⟨rfl,x6⟩;have X6:=hide (xa.trans x6);have O6:=hide (ownsRow_of_block (unhide hown) (fun q hq=>(unhide X6).block q ((unhide hown).lt q hq).2));go_wp2_with (at_builtin;refine Lib.wpList_append_own_string _ rfl _ _ 22 9 rfl w.heap.size 5 i0 Tryz.underlying22 Tryz.underlying9 hi0 hz0 hz1 hz2 _ _ _ rfl (unhide O6) _ rfl ?c1 ?c2 ?c3 ?_)
    case c1=>rw[size_of (line_str y)];have:=unhide LL;simp at this ⊢;unfold maxLen;omega
    case c2=>rw[size_of (line_str y)];have:=unhide LL;simp at this ⊢;omega
    case c3=>have:=(unhide X6).size;omega
    intro v7 w7 hown7 hgrow _
    have R:=hide (show w7.ownsRow w.heap.size 5 1 v7 (l++(lineL y++[10])).length (Lib.byteCells (l++(lineL y++[10]))) by
     rw[strCells_of (line_str y)] at hown7;rw[List.length_append,Lib.byteCells_append];have e:(lineL y++[10]).length=(lineL y).length+1:=by simp
     rw[e];exact hown7)
    have X7:=hide (grown_ext (hbl.trans (unhide X6)) (unhide O6) (Nat.le_refl _) hgrow);clear hown7 hgrow;go_wp2_with fail;go_roundw
    case rel=>exact⟨k+1,l++(lineL y++[10]),by omega,by go_num,⟨by simp,by have:=(unhide hll).2;simp;omega⟩,unhide R,unhide X7⟩
    case measure=>simp [intOf];omega
   ·have O6:=hide (ownsRow_of_block (unhide hown) (fun q hq=>xa.block q ((unhide hown).lt q hq).2));by_cases q1:1≤y.op
    ·have q2:¬y.op≤24:=fun h=>q ⟨q1,h⟩
     clear q;go_wp2_with fail;go_roundw
     case rel=>exact⟨k+1,l,by omega,by go_num,⟨(unhide hll).1,by have:=(unhide hll).2;omega⟩,unhide O6,hbl.trans xa⟩
     case measure=>simp [intOf];omega
    ·clear q;go_wp2_with fail;go_roundw
     case rel=>exact⟨k+1,l,by omega,by go_num,⟨(unhide hll).1,by have:=(unhide hll).2;omega⟩,unhide O6,hbl.trans xa⟩
     case measure=>simp [intOf];omega
  ·have LL:=hide (show l≠[]∧l.length≤99999 from⟨(unhide hll).1,by have:=(unhide hll).2;omega⟩);obtain⟨g,cap',hv,hcv⟩:=bytes_conv (unhide hll).1 (unhide hown);subst hv;go_wp2_with fail;go_ret;exact⟨l,rfl,unhide LL,hbl⟩
def byV(b:UInt8):Value:=.int .u8 (b.toNat:Int)
def BK(W:World)(g cap:Nat):Prop:=
 ∃cur fz,W.heap[g]?=some (.cells cur 5 fz)∧(cur.size≤fz.1∨fz.2≤fz.1)∧cur.size=cap∧∀j,j<cap→∃b,cur[j]?=some (byV b)
theorem BK.cell{W:World}{g cap:Nat}(h:BK W g cap){j:Nat}(hj:j<cap):∃b,W.cell? ⟨g,j,none⟩=some (byV b):=by
 obtain⟨cur,fz,hg,_,_,hb⟩:=h;obtain⟨b,e⟩:=hb j hj;exact⟨b,by rw[cell_of_row W g j cur _ _ hg];exact e⟩
theorem BK.free{W:World}{g cap:Nat}(h:BK W g cap){j:Nat}(hj:j<cap):W.frozen? ⟨g,j,none⟩=false:=by
 obtain⟨cur,fz,hg,hf,hs,_⟩:=h;obtain⟨lo,hi⟩:=fz;simp only [World.frozen?,hg,Bool.and_eq_false_iff,decide_eq_false_iff_not];simp only at hf;omega
theorem BK.set{W:World}{g cap:Nat}(h:BK W g cap){j:Nat}(b:UInt8):BK (W.setCell ⟨g,j,none⟩ (byV b)) g cap:=by
 obtain⟨cur,fz,hg,hf,hs,hb⟩:=h;rw[setCell_eq_setRow W g j cur _ fz _ hg];refine⟨_,fz,setRow_heap W g cur _ 5 _ hg,by simpa using hf,by simpa using hs,fun k hk=>?_⟩;by_cases e:j=k
 ·subst e;exact⟨b,by rw[Array.getElem?_setIfInBounds];simp [hs,hk]⟩
 ·obtain⟨b',e'⟩:=hb k hk;exact⟨b',by rw[Array.getElem?_setIfInBounds];simp [e,e']⟩
theorem grown_set(W:World)(g j:Nat)(v:Value):W.grownBy (W.setCell ⟨g,j,none⟩ v) (some g):=
 ⟨rfl,rfl,rfl,by simp [go_sem],fun k _ hk=>Below.heap_setCell _ _ _ k (fun e=>hk (by rw[e]))⟩
theorem grown_tr{a w w':World}{row:Option Nat}(h:a.grownBy w row)(k:w.grownBy w' row):a.grownBy w' row:=
 ⟨k.os.trans h.os,k.tape.trans h.tape,k.output.trans h.output,Nat.le_trans h.size k.size,fun j hj hn=>(k.block j (Nat.lt_of_lt_of_le hj h.size) hn).trans (h.block j hj hn)⟩
theorem stores_b(P:Program)(g cap o:Nat):∀(vs:List Value) (i:Nat) (W:World),BK W g cap→(∀v∈vs,∃b,v=byV b)→o+i+vs.length≤cap→∃W',(storeCells ⟨g,o,none⟩ vs i).run P W=.ok () W'∧BK W' g cap∧W.grownBy W' (some g)
 | [],i,W,h,_,_=>⟨W,rfl,h,⟨rfl,rfl,rfl,Nat.le_refl _,fun _ _ _=>rfl⟩⟩
 | v::vs,i,W,h,hv,hl=>by
  simp only [List.length_cons] at hl;obtain⟨b,rfl⟩:=hv v (by simp);have e:(⟨g,o,none⟩:Addr).add i=⟨g,o+i,none⟩:=by by_cases hj0:i=0 <;> simp [Addr.add,hj0]
  obtain⟨b0,hc⟩:=h.cell (j:=o+i) (by omega)
  have hs:(store ((⟨g,o,none⟩:Addr).add i) (byV b)).run P W=.ok () (W.setCell ⟨g,o+i,none⟩ (byV b)):=by
   rw[e,run_store P W _ _ _ rfl,hc,h.free (by omega)];rfl
  obtain⟨W',h1,h2,h3⟩:=stores_b P g cap o vs (i+1) _ (h.set (j:=o+i) b) (fun v hv'=>hv v (by simp [hv'])) (by omega);refine⟨W',?_,h2,grown_tr (grown_set W g (o+i) (byV b)) h3⟩;simp only [storeCells,Sem.run_bind,hs,Result.andThen_ok,h1]
def BRw(W:World)(B:Nat)(v:Value)(n:Nat):Prop:=
 ∃g cap,v=.slice (some ⟨g,0,none⟩) n cap∧B≤g∧g<W.heap.size∧n≤cap∧cap≤maxLen∧BK W g cap
theorem bytes_list{W:World}{ad:Addr}:∀(m:Nat),(∀j,j<m→∃b,W.cell? (ad.add j)=some (byV b))→∃l:List UInt8,l.length=m∧∀j (hj:j<l.length),W.cell? (ad.add j)=some (byV l[j])
 | 0,_=>⟨[],rfl,fun j hj=>by simp at hj⟩
 | m+1,h=>by
  obtain⟨l,rfl,h2⟩:=bytes_list m (fun j hj=>h j (by omega));obtain⟨b,hb⟩:=h l.length (by omega);refine⟨l++[b],by simp,fun j hj=>?_⟩;by_cases q:j<l.length
  ·rw[List.getElem_append_left q];exact h2 j q
  ·have:j=l.length:=by simp at hj;omega
   subst this
   simpa using hb
theorem BRw.list{W:World}{B g n cap:Nat}(h:BRw W B (.slice (some ⟨g,0,none⟩) n cap) n):∃l:List UInt8,l.length=n∧∀j (hj:j<l.length),W.cell? ((⟨g,0,none⟩:Addr).add j)=some (byV l[j]):=by
 obtain⟨g',cap',e,_,_,hn,_,bk⟩:=h;cases e
 exact bytes_list n (fun j hj=>by
  have e:(⟨g,0,none⟩:Addr).add j=⟨g,j,none⟩:=by by_cases hj0:j=0 <;> simp [Addr.add,hj0]
  rw[e];exact bk.cell (by omega))
theorem run_bapp{P:Program}(W:World)(t ty:TypeId)(i:TypeInfo)(B:Nat)(v:Value)(n:Nat)(ht:P.underlying t=some (.slice 5))(hi:P.info? 5=some i)(hz:i.zero=some (.int .u8 0))(hs1:i.size=1)(hby:i.bytes=1)(h:BRw W B v n)(ad:Addr)(m c:Nat)(hx:∀j,j<m→∃b,W.cell? (ad.add j)=some (byV b))(hn:n+m≤1048576)(hB:B≤W.heap.size):
  ∃v' W',(Builtin.append_ #[t,t] ty #[v,.slice (some ad) m c]).run P W=.ok v' W'∧BRw W' B v' (n+m)∧W.grownBy W' v.ownBlock∧(v'.ownBlock=v.ownBlock∨v'.ownBlock=some W.heap.size):=by
 obtain⟨l,rfl,hl⟩:=bytes_list m hx
 have hnews:∀j u,(l.map byV)[j]?=some u→W.cell? (ad.add j)=some u:=fun j u hj=>by
  have hj':j<l.length:=by have:=(List.getElem?_eq_some_iff.1 hj).1;simpa using this
  rw[hl j hj']
  simpa [hj'] using hj
 obtain⟨g,cap,rfl,hb,hg,hnc,hcm,bk⟩:=h;by_cases hroom:n+l.length≤cap
 ·have hf:=run_firstCells_some (P:=P) W i.size l.length ad l.length c (l.map byV) (by simp [hs1]) hnews;rw[hs1] at hf;obtain⟨W',h1,h2,h3⟩:=stores_b P g cap n (l.map byV) 0 W bk (fun v hv=>by obtain⟨b,_,rfl⟩:=List.mem_map.1 hv;exact⟨b,rfl⟩) (by simpa using hroom);refine⟨.slice (some ⟨g,0,none⟩) (n+l.length) cap,W',?_,⟨g,cap,rfl,hb,Nat.lt_of_lt_of_le hg h3.size,hroom,hcm,h2⟩,h3,.inl rfl⟩;simp [Builtin.append_,run_underlying ht,sizeOf,typeInfo,hi,Builtin.lenOf,hroom,hf,Addr.add_lit,h1,hs1]
 ·obtain⟨lo,hlo,hol⟩:=bytes_list (W:=W) (ad:=⟨g,0,none⟩) n (fun j hj=>by
   have e:(⟨g,0,none⟩:Addr).add j=⟨g,j,none⟩:=by by_cases hj0:j=0 <;> simp [Addr.add,hj0]
   rw[e];exact bk.cell (by omega))
  have hr:=run_append_grow (P:=P) W t ty 5 i _ ht hi hz ⟨g,0,none⟩ n cap (lo.map byV) (by simp [hs1,hlo]) (fun j u hj=>by
   have hj':j<lo.length:=by have:=(List.getElem?_eq_some_iff.1 hj).1;simpa using this
   rw[hol j hj']
   simpa [hj'] using hj) ad l.length c (l.map byV) (by simp [hs1]) hnews (by omega) (by omega) (growslice_fits (by omega) (by rw[hby];omega))
  have hge:=grownCap_ge W (n+l.length) cap 5;have hle:=grownCap_le_maxLen W (n+l.length) cap 5 (by unfold maxLen;omega);refine⟨_,_,hr,⟨W.heap.size,_,rfl,hB,by simp,hge,hle,_,(0,0),heap_alloc_new W.drew _,.inr (Nat.le_refl _),?_,fun j hj=>?_⟩,⟨rfl,rfl,rfl,by simp,fun k hk _=>Below.heap_alloc W.drew _ k hk⟩,.inr rfl⟩
  ·simp [size_zeroCells,Value.cells,hlo];omega
  ·by_cases q:j<n
   ·exact⟨lo[j]'(by omega),by simp [Array.getElem?_append,hlo,q,show j<n+l.length by omega]⟩
   ·by_cases q2:j<n+l.length
    ·exact⟨l[j-n]'(by omega),by
     rw[Array.getElem?_append_left (by simp [hlo];omega),Array.getElem?_append_right (by simp [hlo];omega)];simp [hlo,show j-n<l.length by omega]⟩
    ·refine⟨0,?_⟩;rw[Array.getElem?_append_right (by simp [hlo];omega)]
     have hz:(Builtin.zeroCells (Value.int .u8 0).cells (grownCap W (n+l.length) cap 5-(n+l.length)))=Array.replicate (grownCap W (n+l.length) cap 5-(n+l.length)) (.int .u8 0):=by
      apply Array.ext
      ·simp [Builtin.zeroCells,Value.cells]
      ·intro k h1 h2;simp [Builtin.zeroCells,Value.cells,Nat.mod_one]
     rw[hz,Array.getElem?_replicate,if_pos (by simp [hlo];omega)];rfl
theorem wpList_bapp{P:Program}{w:World}{ops:Array Oper}{rest:List Oper}{o:Oper}{a:Act}{Q:Exit→Act→World→Prop}(hgd:o.guard=none)(s x:Operand)(t:TypeId)
  (ho:o.op=.call { callee:=.builtin .append,args:=#[s,x],argTypes:=#[t,t] }) (i:TypeInfo) (B:Nat) (v:Value) (n:Nat) (ht:P.underlying t=some (.slice 5)) (hi:P.info? 5=some i) (hz:i.zero=some (.int .u8 0)) (hs1:i.size=1) (hby:i.bytes=1) (hs:a.eval s=v) (ad:Addr) (m c:Nat) (hx:a.eval x=.slice (some ad) m c) (h:BRw w B v n) (hy:∀j,j<m→∃b,w.cell? (ad.add j)=some (byV b)) (hn:n+m≤1048576) (hB:B≤w.heap.size)
  (hK:∀v' w',BRw w' B v' (n+m)→w.grownBy w' v.ownBlock→(v'.ownBlock=v.ownBlock∨v'.ownBlock=some w.heap.size)→wpList P ops Q rest (a.put o.dst v') w'):wpList P ops Q (o::rest) a w:=by
 refine wpList_plain hgd fun K hK'=>?_
 obtain⟨v',w',hr,h2,h3,h4⟩:=run_bapp (P:=P) w t o.type i B v n ht hi hz hs1 hby h ad m c hy hn hB;unfold Oper.wp execOp;simp only [ho,resolve,invoke,builtin,Sem.run_bind,Sem.run_pure,Result.andThen_ok,List.map_toArray,List.map_cons,List.map_nil,hs,hx,hr];exact hK' _ _ (hK v' w' h2 h3 h4)
theorem step_bapp{P:Program}(w:World){ops:Array Oper}{o:Oper}{a:Act}{K:Act→World→Prop}{Q:Exit→Act→World→Prop}{E:Prop}(hgd:o.guard=none)(s x:Operand)(t:TypeId)
  (ho:o.op=.call { callee:=.builtin .append,args:=#[s,x],argTypes:=#[t,t] }) (i:TypeInfo) (B:Nat) (v:Value) (n:Nat) (ht:P.underlying t=some (.slice 5)) (hi:P.info? 5=some i) (hz:i.zero=some (.int .u8 0)) (hs1:i.size=1) (hby:i.bytes=1) (hs:a.eval s=v) (h:BRw w B v n) (ad:Addr) (m c:Nat) (hx:a.eval x=.slice (some ad) m c) (hy:∀j,j<m→∃b,w.cell? (ad.add j)=some (byV b)) (hn:n+m≤1048576) (hB:B≤w.heap.size)
  (hK:∀v' w',BRw w' B v' (n+m)→w.grownBy w' v.ownBlock→(v'.ownBlock=v.ownBlock∨v'.ownBlock=some w.heap.size)→K (a.put o.dst v') w') :
  if Region.wanted o (yielded ops a.tmps)=true then Oper.wp P o a w K Q else E:=by
 have hw:Region.wanted o (yielded ops a.tmps)=true:=by simp [Region.wanted,hgd]
 rw[if_pos hw];obtain⟨v',w',hr,h2,h3,h4⟩:=run_bapp (P:=P) w t o.type i B v n ht hi hz hs1 hby h ad m c hy hn hB;unfold Oper.wp execOp;simp only [ho,resolve,invoke,builtin,Sem.run_bind,Sem.run_pure,Result.andThen_ok,List.map_toArray,List.map_cons,List.map_nil,hs,hx,hr];exact hK v' w' h2 h3 h4
theorem bytes_made(w:World)(s:ByteArray)(B:Nat)(hB:B≤w.heap.size)(hs:s.size≤1048576):
  ∃v' w',(convert 9 22 (.string s)).run Tryz.prog w=.ok v' w'∧BRw w' B v' s.size∧Ext w w'∧v'.ownBlock=some w.heap.size:=by
 have hr:=run_bytes_of_string (P:=Tryz.prog) w 9 22 5 s Tryz.underlying9 Tryz.underlying22 Tryz.underlying5;have hge:=grownCap_ge w s.size 0 5;have hle:=grownCap_le_maxLen w s.size 0 5 (by unfold maxLen;omega)
 have hsz:(bytesRow s (grownCap w s.size 0 5)).size=grownCap w s.size 0 5:=by
  simp only [bytesRow,Array.size_append,Array.size_map,Array.size_replicate];have:s.data.size=s.size:=rfl;omega
 refine⟨_,_,hr,⟨w.heap.size,_,rfl,hB,by simp,hge,hle,_,_,heap_alloc_new w.drew _,.inl (Nat.le_refl _),hsz,fun j hj=>?_⟩,?_,rfl⟩
 ·by_cases q:j<s.data.size
  ·exact⟨s.data[j],by
    unfold bytesRow;rw[Array.getElem?_append_left (by rw[Array.size_map];exact q)];simp [byV,Array.getElem?_eq_getElem q]⟩
  ·refine⟨0,?_⟩;have:s.data.size=s.size:=rfl;unfold bytesRow;rw[Array.getElem?_append_right (by rw[Array.size_map];omega),Array.size_map,Array.getElem?_replicate,if_pos (by omega)];rfl
 ·exact((Ext.refl w).drew).alloc _
theorem BRw.lt{W:World}{B n:Nat}{v:Value}(h:BRw W B v n)(k:Nat)(hk:v.ownBlock=some k):B≤k∧k<W.heap.size:=by
 obtain⟨g,cap,rfl,h1,h2,_⟩:=h;simp only [Value.ownBlock,Option.some.injEq] at hk;subst hk;exact⟨h1,h2⟩
theorem BK.keep{W W':World}{g cap:Nat}(h:BK W g cap)(hb:W'.heap[g]?=W.heap[g]?):BK W' g cap:=by
 obtain⟨cur,fz,h5,h6⟩:=h;exact⟨cur,fz,by rw[hb];exact h5,h6⟩
theorem BRw.keep{W W':World}{B n:Nat}{v:Value}(h:BRw W B v n)(hs:W.heap.size≤W'.heap.size)(hb:∀k,v.ownBlock=some k→W'.heap[k]?=W.heap[k]?):BRw W' B v n:=by
 obtain⟨g,cap,rfl,h1,h2,h3,h4,cur,fz,h5,h6⟩:=h;exact⟨g,cap,rfl,h1,by omega,h3,h4,cur,fz,by rw[hb g rfl];exact h5,h6⟩
theorem Cu.grown{v w w':World}{c m g:Nat}(h:Cu v w c m)(k:w.grownBy w' (some g))(hg:v.heap.size≤g)(hc:g≠c):Cu v w' c m:=
 h.blk (Below.trans h.1 ⟨k.os,k.tape,k.output,k.size,fun q hq=>k.block q (Nat.lt_of_lt_of_le hq h.1.size) (fun e=>by simp at e;omega)⟩) (k.block c h.2.2.1.1 (fun e=>by simp at e;omega))
theorem odd_cells(w8:World)(j:Nat)(hj:j<9):∃b,(w8.alloc (.cells #[.int .u8 32,.int .u8 10,.int .u8 45,.int .u8 48,.int .u8 57,.int .u8 97,.int .u8 110,.int .u8 0,.int .u8 255] 5)).cell? ⟨w8.heap.size,j,none⟩=some (byV b):=by
 rcases (show j=0∨j=1∨j=2∨j=3∨j=4∨j=5∨j=6∨j=7∨j=8 by omega) with rfl | rfl | rfl | rfl | rfl | rfl | rfl | rfl | rfl
 ·exact⟨32,by simp [go_sem];rfl⟩
 ·exact⟨10,by simp [go_sem];rfl⟩
 ·exact⟨45,by simp [go_sem];rfl⟩
 ·exact⟨48,by simp [go_sem];rfl⟩
 ·exact⟨57,by simp [go_sem];rfl⟩
 ·exact⟨97,by simp [go_sem];rfl⟩
 ·exact⟨110,by simp [go_sem];rfl⟩
 ·exact⟨0,by simp [go_sem];rfl⟩
 ·exact⟨255,by simp [go_sem];rfl⟩
def strOf:Value→ByteArray
 | .string s=>s
 | _=>⟨#[]⟩
theorem text6_any(w:World)(u:Value)(hu:ByAt w u):
  Calls Tryz.prog 24 #[u] w fun e w'=>∃l:List UInt8,Hid (e=.returned (.string ⟨l.toArray⟩))∧Hid (l.length≤999999)∧Ext w w':=by
 obtain⟨tI,hi0,hz0,hz1,hz2⟩:=info_parts infoU8;obtain⟨au,nu,ku,rfl,hnu,hx⟩:=hu;have CU:=hide (Cu.new (w:=w) (ad:=au) (n:=nu) (k:=ku) ⟨au,nu,ku,rfl,hnu,hx⟩);clear hx;go_enter Tryz.func24,Tryz.ntmps24;go_wp2_with fail;obtain⟨W1,hW1⟩:∃W,W=w.alloc (.cells #[.slice au nu ku,iv 0,.int .u64 0] 61):=⟨_,rfl⟩;rw[←hW1] at CU ⊢;clear hW1;refine(pick_n w W1 w.heap.size 0 10 (unhide CU) (by omega) (by omega) (by omega)).mono ?_;rintro e w2 ⟨k,he,k0,k1,cu,o⟩;have e2:=unhide he;subst e2;have CU:=hide (unhide cu);clear he cu o;go_wp2_with fail;refine(script_any w w2 w.heap.size _ (unhide CU) (by omega)).mono ?_;intro e w3 h3;obtain⟨room,va,L,m,he,hr,rw,hm⟩:=ScPost.rw h3;have e2:=unhide he;subst e2;clear he h3;have RW:=hide (unhide rw);have HR:=hide (unhide hr);clear rw hr
 go_upto_region 4 with(fail)
 go_cut [24] (fun s wx=>wx=w3∧∃t:Bool,Hid (s=.bool t))
 case first=>
  by_cases hk0:k=0
  ·subst hk0;go_wp2_with fail;go_meet;exact⟨rfl,true,rfl⟩
  ·have q0:(k == 0)=false:=by simpa using hk0
   go_wp2_with fail;go_meet;exact⟨rfl,_,rfl⟩
 obtain⟨rfl,t,HT⟩:=hcut
 go_upto_region 5 with(fail)
 go_cut [5,6] (fun s5 s6 wx=>∃(room:Int) (va:Value) (L:List Ak) (m:Nat),s5=iv room∧s6=va∧Hid (-9223372036854775808≤room∧room≤9223372036854775807)∧Hid (Rw2 w wx w.heap.size m va L)∧m≤999999)
 case first=>
  have ht:=unhide HT;subst ht;cases t
  ·go_wp2_with fail;go_meet;exact⟨room,va,L,m,rfl,rfl,unhide HR,unhide RW,by omega⟩
  ·go_wp2_with fail;refine(full_any w _ w.heap.size _ (unhide RW).cu (by omega)).mono ?_;rintro e w4 ⟨room2,va2,L2,m2,he,hr2,rw2,hm2⟩;have e2:=unhide he;subst e2;clear he;go_wp2_with fail;go_meet;exact⟨room2,va2,L2,m2,rfl,rfl,unhide hr2,unhide rw2,by omega⟩
 case rest=>
  clear RW HR hm L va room;obtain⟨room,va,L,m,rfl,rfl,HR,RW,hm⟩:=hcut;by_cases hk9:k=9
  ·subst hk9;have CU:=hide (unhide RW).cu;clear RW HR;go_wp2_with fail;go_loopw [7] (fun s wr=>∃(l:List UInt8) (m2:Nat),s=.string ⟨l.toArray⟩∧Hid (Cu w wr w.heap.size m2)∧Hid (l.length≤20020∧m2≤999999+2*l.length)) (fun s _=>30000-(strOf s).size)
   case atStart=>exact⟨[114,111,111,109,32,55,10],m,rfl,unhide CU,by show _∧_;simp;omega⟩
   case round=>
    clear CU;obtain⟨l,m2,rfl,CU,LL⟩:=hrel;have l1:=(unhide LL).1;have l2:=(unhide LL).2;go_wp2_with fail;refine(pick_n w _ w.heap.size _ 12 (unhide CU) (by omega) (by omega) (by omega)).mono ?_;rintro e w5 ⟨y,he,y0,y1,cu,o⟩;have e2:=unhide he;subst e2;have CU5:=hide (unhide cu);clear he cu o CU;by_cases hlt:(l.length:Int)<19992+y
    ·have l3:l.length≤20003:=by omega
     have SA:=str_app l [108,105,118,101,10];go_wp2_with fail;refine⟨⟨l++[108,105,118,101,10],m2+2,congrArg Value.string SA,unhide CU5,⟨by simp;omega,by simp;omega⟩⟩,?_⟩;simp [strOf,ByteArray.size];omega
    ·go_wp2_with fail;go_ret;exact⟨l,rfl,by show _≤_;omega,(unhide CU5).1⟩
  ·have q9:(k == 9)=false:=by simpa using hk9
   go_wp2_with fail;refine(plain7_any room L u6 wc (unhide HR).1 (unhide HR).2 (ownA (unhide RW).ow (by have:=(unhide RW).hl;omega)) (unhide RW).hl (unhide RW).hL).mono ?_;rintro e w5 ⟨l,he,hl,x5⟩;have e2:=unhide he;subst e2;have CU:=hide ((unhide RW).cu.ext x5);have LL:=hide (unhide hl);clear he hl RW HR;obtain⟨v6,w6,hr6,B6,x6,ow6⟩:=bytes_made w5 ⟨l.toArray⟩ (w.heap.size+1) (show w.heap.size<_ from cell_lt (unhide CU).2.2.2.choose_spec.choose_spec.choose_spec.choose_spec.choose_spec.1) (by have:=(unhide LL).2;show l.toArray.size≤_;simp;omega);have es:(ByteArray.mk l.toArray).size=l.length:=by show l.toArray.size=_;simp
   have CU6:=hide ((unhide CU).ext x6);go_wp2_with fail;refine(pick_n w _ w.heap.size _ 4 (unhide CU6) (by omega) (by omega) (by omega)).mono ?_;rintro e w7 ⟨y,he,y0,y1,cu,o⟩;have e2:=unhide he;subst e2;have CU7:=hide (unhide cu);have B7:=hide (B6.keep (unhide o).size (fun q hq=>(unhide o).block q (B6.lt q hq).2 (fun e=>by have:=(B6.lt q hq).1;omega)));clear he cu o CU6 CU hr6 B6;go_wp2_with fail;go_loopw [8,9] (fun s8 s9 wr=>∃(len:Nat) (z:Int) (m2:Nat),s9=iv z∧Hid (BRw wr (w.heap.size+1) s8 len)∧Hid (Cu w wr w.heap.size m2)∧z≤2∧-1≤z∧0<len∧len≤100009-z∧m2≤1000029-8*z) (fun _ i _=>(intOf i+2).toNat)
   case atStart=>exact⟨l.length,y-1,_,by go_num,by have:=unhide B7;rw[es] at this;exact this,unhide CU7,by omega,by omega,List.length_pos_iff.2 (unhide LL).1,by have:=(unhide LL).2;omega,by omega⟩
   case round=>
    clear CU7 B7;obtain⟨len,z,m2,rfl,BR,CU,z2,z1,len0,len1,m20⟩:=hrel;by_cases hz:0<z
    ·obtain⟨g,cap,rfl,g0,g1,gn,gc,bk⟩:=unhide BR;go_wp2_with fail;refine(pick_n w _ w.heap.size _ len (unhide CU) (by omega) (by omega) (by omega)).mono ?_;rintro e w8 ⟨i,he,i0,i1,cu,o⟩;have e2:=unhide he;subst e2;have CU8:=hide (unhide cu);have BK8:=hide (bk.keep ((unhide o).block g g1 (by omega)));clear he cu o CU bk;go_wp2_with fail;obtain⟨wo,hwo⟩:∃wo,wo=w8.alloc (.cells #[.int .u8 32,.int .u8 10,.int .u8 45,.int .u8 48,.int .u8 57,.int .u8 97,.int .u8 110,.int .u8 0,.int .u8 255] 5):=⟨_,rfl⟩;rw[←hwo];have xo:Ext w8 wo:=by rw[hwo];exact(Ext.refl w8).alloc _
     have co:=odd_cells w8;rw[←hwo] at co;have hgs:w8.heap.size≠w.heap.size:=by have:=cell_lt (unhide CU8).2.2.2.choose_spec.choose_spec.choose_spec.choose_spec.choose_spec.1;simp at this;omega
     have hg8:g<w8.heap.size:=by obtain⟨_,h⟩:=(unhide BK8).cell (j:=0) (by omega);exact cell_lt h
     refine(pick_n w _ w.heap.size _ 9 ((unhide CU8).ext xo) (by omega) (by omega) (by omega)).mono ?_;rintro e w9 ⟨j,he,j0,j1,cu,o⟩;have e2:=unhide he;subst e2;have CU9:=hide (unhide cu);have BK9:=hide (((unhide BK8).keep (xo.block g hg8)).keep ((unhide o).block g (Nat.lt_of_lt_of_le hg8 xo.size) (by omega)));obtain⟨jn,rfl⟩:∃jn:Nat,j=jn:=⟨j.toNat,by omega⟩;obtain⟨b,hb0⟩:=co jn (by omega);have hb:w9.cell? ⟨w8.heap.size,jn,none⟩=some (.int .u8 (b.toNat:Int)):=(unhide o).keep hgs hb0;clear he cu o CU8 BK8 co hb0 hwo;go_wp2_with fail;have hg9:g<w9.heap.size:=by obtain⟨_,h⟩:=(unhide BK9).cell (j:=0) (by omega);exact cell_lt h
     refine(pick_n w _ w.heap.size _ 4 (unhide CU9) (by omega) (by omega) (by omega)).mono ?_;rintro e w10 ⟨r,he,r0,r1,cu,o⟩;have e2:=unhide he;subst e2;have CU10:=hide (unhide cu);have BK10:=hide ((unhide BK9).keep ((unhide o).block g hg9 (by omega)));have hg10:g<w10.heap.size:=by obtain⟨_,h⟩:=(unhide BK10).cell (j:=0) (by omega);exact cell_lt h
     obtain⟨n,rfl⟩:∃n:Nat,i=n:=⟨i.toNat,by omega⟩;clear he cu o CU9 BK9 hb hg9;rcases (show r=0∨r=1∨r=2∨r=3 by omega) with rfl | rfl | rfl | rfl
     ·obtain⟨b0,hc⟩:=(unhide BK10).cell (j:=n) (by omega);have hf:=(unhide BK10).free (j:=n) (by omega);go_wp2_with fail;refine⟨⟨len,z-1,m2+2+2+2,rfl,⟨g,cap,rfl,g0,by simpa [go_sem] using hg10,gn,gc,(unhide BK10).set b⟩,(unhide CU10).grown (grown_set w10 g n (.int .u8 (b.toNat:Int))) (by omega) (by omega),by omega,by omega,len0,by omega,by omega⟩,by simp [intOf];omega⟩
     ·obtain⟨p,hp⟩:∃p,p=n+1:=⟨_,rfl⟩;have hwr:IntKind.i64.wrap ((n:Int)+1)=(p:Int):=by rw[IntKind.wrap_i64];omega
      have q1:n≤cap:=by omega
      have q1':n≤p:=by omega
      have q2:p≤len:=by omega
      have HG:=hide (show w.heap.size≤g∧g≠w.heap.size by omega);have HN:=hide (show n+(len-p)≤1048576∧w.heap.size+1≤w10.drew.heap.size from⟨by omega,by show _≤w10.heap.size;omega⟩);have BD:=hide (show BRw w10.drew (w.heap.size+1) (.slice (some ⟨g,0,none⟩) n cap) n from⟨g,cap,rfl,g0,hg10,q1,gc,unhide BK10⟩);by_cases qc:cap=p
      ·subst qc;have HB:=hide (show ∀j,j<len-cap→∃b,w10.drew.cell? ((⟨g,0,none⟩:Addr).add j)=some (byV b) from fun j hj=>by omega);have HZ:=hide hp;clear hp;go_wp2_with fail
       go_region
       by_cases n0:n=0
       ·subst n0;go_wp2_with fail;go_ret;exact⟨[],rfl,by show _≤_;simp,(unhide CU10).1.trans (Ext.refl w10).drew⟩
       ·go_wp2_with fail;exact⟨⟨n,z-1,m2+2+2+2,rfl,unhide BD,(unhide CU10).ext (Ext.refl w10).drew,by omega,by omega,by omega,by omega,by omega⟩,by simp [intOf];omega⟩
      ·have HB:=hide (show ∀j,j<len-p→∃b,w10.drew.cell? ((⟨g,p,none⟩:Addr).add j)=some (byV b) from fun j hj=>by
        have e:(⟨g,p,none⟩:Addr).add j=⟨g,p+j,none⟩:=by by_cases hj0:j=0 <;> simp [Addr.add,hj0]
        rw[e];exact(unhide BK10).cell (by omega))
       have HZ:=hide hp;clear hp;go_wp2_with fail;go_region_law (refine step_bapp _ rfl _ _ 22 rfl tI (w.heap.size+1) (.slice (some ⟨g,0,none⟩) n cap) n Tryz.underlying22 hi0 hz0 hz1 hz2 (by simp [Act.eval,Act.put]) (unhide BD) ⟨g,p,none⟩ (len-p) (cap-p) (by simp [Act.eval,Act.put]) (unhide HB) (unhide HN).1 (unhide HN).2 ?_;intro v' w11 bb gr _;obtain⟨g',cap',rfl,g0',g1',gn',gc',bk'⟩:=bb;have gr':w10.drew.grownBy w11 (some g):=gr;have CU11:=hide (((unhide CU10).ext (Ext.refl w10).drew).grown gr' (unhide HG).1 (unhide HG).2);have B11:=hide (show BRw w11 (w.heap.size+1) (.slice (some ⟨g',0,none⟩) (n+(len-p)) cap') (n+(len-p)) from⟨g',cap',rfl,g0',g1',gn',gc',bk'⟩);clear gr gr' bk');by_cases n0:n+(len-p)=0
       ·go_wp2_with fail;go_ret;exact⟨[],rfl,by show _≤_;simp,(unhide CU11).1⟩
       ·go_wp2_with fail;exact⟨⟨n+(len-p),z-1,m2+2+2+2,rfl,unhide B11,unhide CU11,by omega,by omega,by omega,by omega,by omega⟩,by simp [intOf];omega⟩
     ·have BA:=hide (show BRw (w10.alloc (.cells #[.int .u8 (b.toNat:Int)] 5)) (w.heap.size+1) (.slice (some ⟨g,0,none⟩) len cap) len from BRw.keep (W:=w10) ⟨g,cap,rfl,g0,hg10,gn,gc,unhide BK10⟩ (by simp) (fun q hq=>by simp only [Value.ownBlock,Option.some.injEq] at hq;subst hq;exact Below.heap_alloc w10 _ g hg10));go_wp2_with (at_builtin;refine wpList_bapp rfl _ _ 22 rfl tI (w.heap.size+1) _ len Tryz.underlying22 hi0 hz0 hz1 hz2 rfl _ _ _ rfl (unhide BA) ?c2 ?c3 ?c4 ?_)
      case c2=>exact fun j hj=>⟨b,by have:j=0:=(by omega);subst this;simp [go_sem,Addr.add];rfl⟩
      case c3=>omega
      case c4=>simp;omega
      intro v' w11 bb gr _;have gr':(w10.alloc (.cells #[.int .u8 (b.toNat:Int)] 5)).grownBy w11 (some g):=gr;have CU11:=hide (((unhide CU10).ext ((Ext.refl w10).alloc _)).grown gr' (by omega) (by omega));obtain⟨g',cap',rfl,g0',g1',gn',gc',bk'⟩:=bb;have B11:=hide (show BRw w11 (w.heap.size+1) (.slice (some ⟨g',0,none⟩) (len+1) cap') (len+1) from⟨g',cap',rfl,g0',g1',gn',gc',bk'⟩);clear gr gr' bk' BA;go_wp2_with fail;exact⟨⟨len+1,z-1,m2+2+2+2,rfl,unhide B11,unhide CU11,by omega,by omega,by omega,by omega,by omega⟩,by simp [intOf];omega⟩
     ·have q3:n+1≤cap:=by omega
      have q4:(n:Int)+1≤cap:=by omega
      go_wp2_with fail;exact⟨⟨n+1,z-1,m2+2+2+2,rfl,⟨g,cap,rfl,g0,hg10,q3,gc,unhide BK10⟩,unhide CU10,by omega,by omega,by omega,by omega,by omega⟩,by simp [intOf];omega⟩
    ·obtain⟨g,cap,rfl,g0,g1,gn,gc,bk⟩:=unhide BR;obtain⟨l',rfl,hl'⟩:=(unhide BR).list;have hr:=run_convert_bytes_back (P:=Tryz.prog) wr 22 9 5 ⟨g,0,none⟩ cap l' Tryz.underlying22 Tryz.underlying5 Tryz.underlying9 hl';have LE:=hide (show l'.length≤999999 by omega);clear hl';go_wp2_with fail;go_ret;exact⟨l',rfl,unhide LE,(unhide CU).1⟩
end Go.Proofs.YtnegjhddmfiefaaGreatDoor
