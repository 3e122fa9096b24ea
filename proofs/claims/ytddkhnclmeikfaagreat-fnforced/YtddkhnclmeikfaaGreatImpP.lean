import Derived.Test.YtddkhnclmeikfaaGreatLm
import Derived.Deep.AppendLies
import Derived.Deep.LoopGhost
import Derived.Deep.RegionWith
import Derived.WalkSmall
namespace Go.Proofs.YtddkhnclmeikfaaGreat
open Go.RowKit
attribute [local go_sem ↓] Go.wp_at_zero Go.wp_at_succ
structure LsAt(w:World)(base bq oq:Nat)(v:Value)(L:List Int):Prop where
 hd:w.cell? ⟨bq,oq,none⟩=some v
 hf:w.frozen? ⟨bq,oq,none⟩=false
 own:w.ownsRow base 3 1 v L.length (L.map iv)
 apart:v.ownBlock≠some bq
structure QFr(bq oq:Nat)(v v':Value)(w w':World):Prop where
 os:w'.os=w.os
 tape:w'.tape=w.tape
 output:w'.output=w.output
 size:w.heap.size≤w'.heap.size
 block:∀k,k<w.heap.size→k≠bq→v.ownBlock≠some k→w'.heap[k]?=w.heap[k]?
 hdr:∀o,o≠oq→w'.cell? ⟨bq,o,none⟩=w.cell? ⟨bq,o,none⟩
 hfr:∀o,w'.frozen? ⟨bq,o,none⟩=w.frozen? ⟨bq,o,none⟩
 own:v'.ownBlock=v.ownBlock∨∃g,v'.ownBlock=some g∧w.heap.size≤g
theorem QFr.refl(bq oq:Nat)(v:Value)(w:World):QFr bq oq v v w w:=⟨rfl,rfl,rfl,Nat.le_refl _,fun _ _ _ _=>rfl,fun _ _=>rfl,fun _=>rfl,.inl rfl⟩
theorem QFr.trans{bq oq:Nat}{v v1 v2:Value}{w w1 w2:World}(h:QFr bq oq v v1 w w1)(k:QFr bq oq v1 v2 w1 w2):QFr bq oq v v2 w w2:=
 ⟨k.os.trans h.os,k.tape.trans h.tape,k.output.trans h.output,Nat.le_trans h.size k.size,
  fun i hi hne hv=>(k.block i (Nat.lt_of_lt_of_le hi h.size) hne (fun e=>by
   rcases h.own with h1 | ⟨g,h1,h2⟩
   ·rw[h1] at e;exact hv e
   ·rw[h1] at e;cases e;omega)).trans (h.block i hi hne hv),
  fun o ho=>(k.hdr o ho).trans (h.hdr o ho),fun o=>(k.hfr o).trans (h.hfr o),by
   rcases k.own with h1 | ⟨g,h1,h2⟩
   ·rcases h.own with h3 | ⟨g,h3,h4⟩
    ·exact .inl (h1.trans h3)
    ·exact .inr ⟨g,h1.trans h3,h4⟩
   ·exact .inr ⟨g,h1,Nat.le_trans h.size h2⟩⟩
theorem QFr.ext{a:World}{bq oq:Nat}{v v':Value}{w w':World}(h:QFr bq oq v v' w w')(e:Ext a w)(hb:a.heap.size≤bq)(hv:∀k,v.ownBlock=some k→a.heap.size≤k):Ext a w':=
 Below.trans e ⟨h.os,h.tape,h.output,h.size,fun k hk=>h.block k (Nat.lt_of_lt_of_le hk e.size) (by omega) (fun q=>by have:=hv k q;omega)⟩
theorem QFr.drewN{bq oq:Nat}{v v':Value}{w w':World}(h:QFr bq oq v v' w w')(n:Nat):QFr bq oq v v' w (w'.drewN n):=⟨h.os,h.tape,h.output,h.size,h.block,h.hdr,h.hfr,h.own⟩
theorem QFr.cells{bq oq:Nat}{v v':Value}{w w':World}(h:QFr bq oq v v' w w'){b o:Nat}{u:Value}(hc:w.cell? ⟨b,o,none⟩=some u)(hb:b≠bq)(hv:v.ownBlock≠some b):w'.cell? ⟨b,o,none⟩=some u:=
 (World.cell?_of_block (w:=w) (w':=w') (a:=⟨b,o,none⟩) (h.block b (cell_lt hc) hb hv)).trans hc
theorem LsAt.hlt{w:World}{base bq oq:Nat}{v:Value}{L:List Int}(h:LsAt w base bq oq v L):bq<w.heap.size:=cell_lt h.hd
theorem LsAt.rlt{w:World}{base bq oq:Nat}{v:Value}{L:List Int}(h:LsAt w base bq oq v L):∀k,v.ownBlock=some k→base≤k∧k<w.heap.size:=h.own.lt
theorem LsAt.ext{w w':World}{base bq oq:Nat}{v:Value}{L:List Int}(h:LsAt w base bq oq v L)(e:Ext w w'):LsAt w' base bq oq v L:=
 ⟨e.keep h.hd,by rw[e.frozen (p:=⟨bq,oq,none⟩) h.hlt];exact h.hf,ownsRow_of_block h.own (fun k hk=>e.block k (h.rlt k hk).2),h.apart⟩
theorem LsAt.nil{w:World}{base bq oq:Nat}(hd:w.cell? ⟨bq,oq,none⟩=some (.slice none 0 0))(hf:w.frozen? ⟨bq,oq,none⟩=false):LsAt w base bq oq (.slice none 0 0) []:=
 ⟨hd,hf,World.ownsRow_nil _ _ _ _,by simp [Value.ownBlock]⟩
theorem LsAt.form{w:World}{base bq oq:Nat}{v:Value}{L:List Int}(h:LsAt w base bq oq v L)(hn:0<L.length):∃g cap,v=.slice (some ⟨g,0,none⟩) L.length cap∧g≠bq:=by
 obtain⟨g,cap,rfl,_,_⟩:=h.own.form hn;exact⟨g,cap,rfl,fun e=>h.apart (by rw[←e];rfl)⟩
theorem LsAt.empty{w:World}{base bq oq:Nat}{v:Value}{L:List Int}(h:LsAt w base bq oq v L)(hn:L.length=0):∃ad cap,v=.slice ad 0 cap:=by
 rcases h.own.2 with⟨h1,_⟩ | ⟨g,cap,cur,h1,_⟩
 ·exact⟨none,0,h1⟩
 ·rw[hn] at h1;exact⟨_,_,h1⟩
theorem LsAt.cell{w:World}{base bq oq g n cap:Nat}{L:List Int}(h:LsAt w base bq oq (.slice (some ⟨g,0,none⟩) n cap) L)(i:Nat)(hi:i<L.length):w.cell? ⟨g,i,none⟩=some (iv (it L i)):=by
 obtain⟨h1,h2⟩:=h.own;rcases h2 with⟨h0,_⟩ | ⟨g',cap',cur,h0,hb,hg,hr⟩
 ·cases h0
 ·cases h0;have:=World.ownsRow.cellAt (w:=w) (base:=base) (e:=3) (size:=1) (g:=g) (n:=L.length) (cap:=cap) (xs:=L.map iv) h.own i (by omega);rw[this];simp [it,hi]
theorem LsAt.froz{w:World}{base bq oq g n cap:Nat}{L:List Int}(h:LsAt w base bq oq (.slice (some ⟨g,0,none⟩) n cap) L)(i:Nat):w.frozen? ⟨g,i,none⟩=false:=by
 obtain⟨h1,h2⟩:=h.own;rcases h2 with⟨h0,_⟩ | ⟨g',cap',cur,h0,hb,hg,hr⟩
 ·cases h0
 ·cases h0;exact World.ownsRow.frozenAt (w:=w) (base:=base) (e:=3) (size:=1) (g:=g) (n:=L.length) (cap:=cap) (xs:=L.map iv) h.own i
theorem LsAt.len{w:World}{base bq oq g n cap:Nat}{L:List Int}(h:LsAt w base bq oq (.slice (some ⟨g,0,none⟩) n cap) L):n=L.length∧n≤cap:=by
 rcases h.own.2 with⟨h0,_⟩ | ⟨g',cap',cur,h0,hb,hg,hr,_⟩
 ·cases h0
 ·cases h0;exact⟨rfl,hr⟩
theorem LsAt.store{w:World}{base bq oq g n cap:Nat}{L:List Int}(h:LsAt w base bq oq (.slice (some ⟨g,0,none⟩) n cap) L)(i:Nat)(x:Int):
  LsAt (w.setCell ⟨g,i,none⟩ (iv x)) base bq oq (.slice (some ⟨g,0,none⟩) n cap) (L.set i x)∧QFr bq oq (.slice (some ⟨g,0,none⟩) n cap) (.slice (some ⟨g,0,none⟩) n cap) w (w.setCell ⟨g,i,none⟩ (iv x)):=by
 have hne:g≠bq:=fun e=>h.apart (by rw[←e];rfl)
 obtain⟨hl,hc⟩:=h.len;subst hl;obtain⟨s1,s2⟩:=World.ownsRow.stored h.own i (iv x);refine⟨⟨?_,?_,?_,h.apart⟩,⟨rfl,rfl,rfl,s2.size,fun k hk h1 h2=>s2.block k hk (fun e=>h2 e.symm),fun o ho=>?_,fun o=>?_,.inl rfl⟩⟩
 ·rw[cell_other _ (.inl hne)];exact h.hd
 ·rw[World.frozen?_setCell];exact h.hf
 ·rw[List.length_set,List.map_set];exact s1
 ·exact cell_other _ (.inl hne)
 ·rw[World.frozen?_setCell]
theorem LsAt.swap{w w':World}{base bq oq g n cap:Nat}{L:List Int}(h:LsAt w base bq oq (.slice (some ⟨g,0,none⟩) n cap) L)(i j:Nat)
  (h1:w'.heap=((w.setCell ⟨g,i,none⟩ (iv (it L j))).setCell ⟨g,j,none⟩ (iv (it L i))).heap) (h2:w'.os=w.os) (h3:w'.tape=w.tape) (h4:w'.output=w.output) :
  LsAt w' base bq oq (.slice (some ⟨g,0,none⟩) n cap) (swp L i j)∧QFr bq oq (.slice (some ⟨g,0,none⟩) n cap) (.slice (some ⟨g,0,none⟩) n cap) w w':=by
 obtain⟨a1,a2⟩:=h.store i (it L j);obtain⟨b1,b2⟩:=a1.store j (it L i);have q:=a2.trans b2;have hb:∀k:Nat,w'.heap[k]?=((w.setCell ⟨g,i,none⟩ (iv (it L j))).setCell ⟨g,j,none⟩ (iv (it L i))).heap[k]?:=fun k=>by rw[h1]
 refine⟨⟨(World.cell?_of_block (a:=⟨bq,oq,none⟩) (hb bq)).trans b1.hd,(World.frozen?_of_block (a:=⟨bq,oq,none⟩) (hb bq)).trans b1.hf,ownsRow_of_block b1.own (fun k _=>hb k),h.apart⟩,
  ⟨h2,h3,h4,by rw[h1];exact q.size,fun k hk x y=>(hb k).trans (q.block k hk x y),fun o ho=>(World.cell?_of_block (a:=⟨bq,o,none⟩) (hb bq)).trans (q.hdr o ho),fun o=>(World.frozen?_of_block (a:=⟨bq,o,none⟩) (hb bq)).trans (q.hfr o),.inl rfl⟩⟩
theorem swap_ls(w:World)(base bq oq g n cap i j:Nat)(L:List Int)(h:LsAt w base bq oq (.slice (some ⟨g,0,none⟩) n cap) L)(hi:i<n)(hj:j<n):
  Calls Tryz.prog 171 #[.pointer (some ⟨bq,oq,none⟩),.int .i64 i,.int .i64 j] w fun e w'=>e=.returned (.tuple #[])∧LsAt w' base bq oq (.slice (some ⟨g,0,none⟩) n cap) (swp L i j)∧QFr bq oq (.slice (some ⟨g,0,none⟩) n cap) (.slice (some ⟨g,0,none⟩) n cap) w w':=by
 have hl:=h.len.1;by_cases e:i=j
 ·subst e;refine Calls.mono (swap_eq w bq oq g 0 n cap i (it L i) h.hd (by simpa using h.cell i (by omega)) (by simpa using h.froz i) hi) ?_;intro e w' ⟨r,hh,ho,ht,hout⟩;exact⟨r,h.swap i i (by rw[hh];simp) ho ht hout⟩
 ·refine Calls.mono (swap_ne w bq oq g 0 n cap i j (it L i) (it L j) h.hd (by simpa using h.cell i (by omega)) (by simpa using h.cell j (by omega)) (by simpa using h.froz i) (by simpa using h.froz j) hi hj e) ?_;intro e w' ⟨r,hh,ho,ht,hout⟩;exact⟨r,h.swap i j (by rw[hh];simp) ho ht hout⟩
def valsTo(p:Nat→Bool)(f:Nat→Int)(k:Nat):List Int:=((List.range k).filter p).map f
theorem valsTo_yes(p:Nat→Bool)(f:Nat→Int)(k:Nat)(h:p k=true):valsTo p f (k+1)=valsTo p f k++[f k]:=by
 simp [valsTo,List.range_succ,List.filter_append,h]
theorem valsTo_no(p:Nat→Bool)(f:Nat→Int)(k:Nat)(h:p k=false):valsTo p f (k+1)=valsTo p f k:=by
 simp [valsTo,List.range_succ,List.filter_append,h]
theorem valsTo_mem(p:Nat→Bool)(f:Nat→Int)(k:Nat)(z:Int):z∈valsTo p f k↔∃i,i<k∧p i=true∧f i=z:=by
 simp [valsTo,and_assoc]
theorem valsTo_len(p:Nat→Bool)(f:Nat→Int)(k:Nat):(valsTo p f k).length≤k:=by
 unfold valsTo;have:=List.length_filter_le p (List.range k)
 simpa using this
def castI(i:Nat):Int:=(i:Int)
def isSt(x:Hp)(s:Int)(i:Nat):Bool:=(x.c i).st == s
def bornOf(x:Hp)(i:Nat):Int:=(x.c i).born
def toOf(x:Hp)(i:Nat):Int:=(x.c i).to
def births(x:Hp)(k:Nat):List Int:=valsTo (isSt x 1) (bornOf x) k
def targets(x:Hp)(k:Nat):List Int:=valsTo (isSt x 2) (toOf x) k
def frees(x:Hp)(k:Nat):List Int:=valsTo (isSt x 0) castI k
structure FAt(w:World)(b:Nat)(x:Hp)(base:Nat)(vf:Value)(F:List Int):Prop where
 L:LsAt w base b 14 vf F
 O:Ho F
 P:F.Perm (frees x x.cells.length)
theorem FAt.ext{w w':World}{b:Nat}{x:Hp}{base:Nat}{vf:Value}{F:List Int}(h:FAt w b x base vf F)(e:Ext w w'):FAt w' b x base vf F:=⟨h.L.ext e,h.O,h.P⟩
theorem frees_mem(x:Hp)(k:Nat)(z:Int):z∈frees x k↔∃i,i<k∧(x.c i).st=0∧(i:Int)=z:=by
 unfold frees;rw[valsTo_mem];simp [isSt,castI]
def Up(w w':World):Prop:=Ext w w'
theorem Up.ext{w w':World}(h:Up w w'):Ext w w':=h
theorem infoNodes:(Tryz.prog.info? 124).map (fun i=>(i.zero,i.size,i.bytes))=some (some (.agg #[iv 0,.pointer none]),2,16):=by kernel_rfl
theorem mkNodes(n:Nat)(hn:n≤1048576)(w:World):∃z,(Instr.makeSlice 117 (.int .i64 n) (.int .i64 n)).run Tryz.prog w=.ok (.slice (some ⟨w.heap.size,0,none⟩) n n) (w.alloc (.cells (madeCells z (n*2)) 124)):=by
 obtain⟨i0,hi,hz0,hz1,hz2⟩:=info_parts infoNodes;have h:=run_make (P:=Tryz.prog) w 117 124 i0 _ Tryz.underlying117 hi hz0 .i64 .i64 n n (by omega) (Int.le_refl _) (by rw[hz2];omega) (by omega);rw[hz1] at h;simp only [Int.toNat_natCast] at h;exact⟨_,h⟩
theorem hat_of(x:Hp)(w:World)(b:Nat){ar:Option Addr}{kr:Nat}{ac:Option Addr}{kc:Nat}{ag:Option Addr}{kg:Nat}
  (hc:∀o v,#[iv x.room,iv x.used,iv x.born,.slice ar x.regs.length kr,.slice ac x.cells.length kc,iv x.phase,iv x.hand,iv x.sub,.slice ag x.gray.length kg,iv x.per,iv x.start,iv x.rounds,iv x.forced][o]?=some v→w.cell? ⟨b,o,none⟩=some v)
  (hR:SlW w (.slice ar x.regs.length kr) x.regs) (hC:SlC w (.slice ac x.cells.length kc) x.cells) (hG:SlI w (.slice ag x.gray.length kg) x.gray):HAt w b x ar kr ac kc ag kg:=by
 obtain⟨a1,k1,v1,l1,R⟩:=hR;obtain⟨a2,k2,v2,l2,C⟩:=hC;obtain⟨a3,k3,v3,l3,G⟩:=hG;simp only [Value.slice.injEq] at v1 v2 v3;obtain⟨rfl,_,rfl⟩:=v1;obtain⟨rfl,_,rfl⟩:=v2;obtain⟨rfl,_,rfl⟩:=v3;refine⟨hc 0 _ rfl,hc 1 _ rfl,hc 2 _ rfl,hc 3 _ rfl,hc 4 _ rfl,hc 5 _ rfl,hc 6 _ rfl,hc 7 _ rfl,hc 8 _ rfl,hc 9 _ rfl,hc 10 _ rfl,hc 11 _ rfl,hc 12 _ rfl,l1,l2,l3,R,?_,G⟩;intro i hi;obtain⟨b',o,a,p⟩:=C i hi;rw[Hp.c_eq] at p;exact⟨b',o,a,p⟩
structure Opn(w wr:World)(x:Hp)(bx b bn k j:Nat)(ar:Option Addr)(kr:Nat)(ac:Option Addr)(kc:Nat)(ag:Option Addr)(kg:Nat)(vf:Value)(F:List Int):Prop where
 e:Ext w wr
 hb:w.heap.size≤bx∧bx<b∧b<bn∧bn<wr.heap.size
 x4:wr.cell? ⟨bx,4,none⟩=some (.slice ac x.cells.length kc)
 c:∀o v,#[iv x.room,iv x.used,iv x.born,.slice ar x.regs.length kr,.slice ac x.cells.length kc,iv x.phase,iv x.hand,iv x.sub,.slice ag x.gray.length kg,iv x.per,iv x.start,iv x.rounds,iv x.forced][o]?=some v→wr.cell? ⟨b,o,none⟩=some v
 n13:wr.cell? ⟨b,13,none⟩=some (.slice (some ⟨bn,0,none⟩) x.cells.length x.cells.length)
 n:∀i,i<k→∃bc oc,ac=some ⟨bc,oc,none⟩∧wr.cell? ⟨bn,i*2,none⟩=some (iv i)∧wr.cell? ⟨bn,i*2+1,none⟩=some (.pointer (some ⟨bc,oc+i*8,none⟩))
 o:∀j,j<x.cells.length*2→Open wr bn j
 f:LsAt wr (bn+1) b 14 vf F
 fo:Ho F
 fp:F.Perm (frees x j)
theorem Opn.len{w wr:World}{x:Hp}{bx b bn k j:Nat}{ar:Option Addr}{kr:Nat}{ac:Option Addr}{kc:Nat}{ag:Option Addr}{kg:Nat}{vf:Value}{F:List Int}(h:Opn w wr x bx b bn k j ar kr ac kc ag kg vf F):F.length≤j:=by
 rw[h.fp.length_eq];exact valsTo_len _ _ _
theorem Opn.same{w wr w':World}{x:Hp}{bx b bn k j:Nat}{ar:Option Addr}{kr:Nat}{ac:Option Addr}{kc:Nat}{ag:Option Addr}{kg:Nat}{vf:Value}{F:List Int}(h:Opn w wr x bx b bn k j ar kr ac kc ag kg vf F)(h1:w'.heap=wr.heap)(h2:w'.os=wr.os)(h3:w'.tape=wr.tape)(h4:w'.output=wr.output):
  Opn w w' x bx b bn k j ar kr ac kc ag kg vf F:=by
 have e:Ext wr w':=⟨h2,h3,h4,by rw[h1];exact Nat.le_refl _,fun k _=>by rw[h1]⟩;exact⟨h.e.trans e,⟨h.hb.1,h.hb.2.1,h.hb.2.2.1,by rw[h1];exact h.hb.2.2.2⟩,e.keep h.x4,fun o v q=>e.keep (h.c o v q),e.keep h.n13,fun i hi=>let ⟨bc,oc,a,p,q⟩:=h.n i hi;⟨bc,oc,a,e.keep p,e.keep q⟩,fun j hj=>(h.o j hj).ext e,h.f.ext e,h.fo,h.fp⟩
theorem Opn.lay{w wr:World}{x:Hp}{bx b bn k:Nat}{ar:Option Addr}{kr:Nat}{ac:Option Addr}{kc:Nat}{ag:Option Addr}{kg:Nat}{vf:Value}{F:List Int}{bc oc:Nat}(h:Opn w wr x bx b bn k k ar kr ac kc ag kg vf F)(hac:ac=some ⟨bc,oc,none⟩)(hk:k<x.cells.length):
  Opn w ((wr.setCell ⟨bn,k*2,none⟩ (iv k)).setCell ⟨bn,k*2+1,none⟩ (.pointer (some ⟨bc,oc+k*8,none⟩))) x bx b bn (k+1) k ar kr ac kc ag kg vf F:=by
 obtain⟨hb1,hb2,hb3,hb4⟩:=h.hb;have o1:=h.o (k*2) (by omega);have o2:=h.o (k*2+1) (by omega)
 have far:∀B O,B≠bn→((wr.setCell ⟨bn,k*2,none⟩ (iv k)).setCell ⟨bn,k*2+1,none⟩ (.pointer (some ⟨bc,oc+k*8,none⟩))).cell? ⟨B,O,none⟩=wr.cell? ⟨B,O,none⟩:=fun B O hB=>by
  rw[cell_other _ (.inl (fun e=>hB e.symm)),cell_other _ (.inl (fun e=>hB e.symm))]
 have farb:∀B:Nat,B≠bn→((wr.setCell ⟨bn,k*2,none⟩ (iv k)).setCell ⟨bn,k*2+1,none⟩ (.pointer (some ⟨bc,oc+k*8,none⟩))).heap[B]?=wr.heap[B]?:=fun B hB=>by
  rw[Below.heap_setCell _ _ _ _ (show B≠bn from hB),Below.heap_setCell _ _ _ _ (show B≠bn from hB)]
 refine⟨(h.e.setCell (by show w.heap.size≤bn;omega) _).setCell (by show w.heap.size≤bn;omega) _,⟨hb1,hb2,hb3,by simpa [World.setCell] using hb4⟩,by rw[far _ _ (by omega)];exact h.x4,fun o v q=>by rw[far _ _ (by omega)];exact h.c o v q,by rw[far _ _ (by omega)];exact h.n13,fun i hi=>?_,fun j hj=>((h.o j hj).set _ _).set _ _,⟨by rw[far _ _ (by omega)];exact h.f.hd,?_,?_,h.f.apart⟩,h.fo,h.fp⟩
 ·by_cases e:i=k
  ·subst e;refine⟨bc,oc,hac,?_,(o2.set _ _).same _⟩;rw[cell_other _ (.inr (by omega))];exact o1.same _
  ·obtain⟨bc',oc',a,p,q⟩:=h.n i (by omega);refine⟨bc',oc',a,?_,?_⟩
   ·rw[cell_other _ (.inr (by omega)),cell_other _ (.inr (by omega))];exact p
   ·rw[cell_other _ (.inr (by omega)),cell_other _ (.inr (by omega))];exact q
 ·rw[World.frozen?_setCell,World.frozen?_setCell];exact h.f.hf
 ·exact ownsRow_of_block h.f.own (fun B hB=>farb B (by have:=(h.f.rlt B hB).1;omega))
theorem Opn.skip{w wr:World}{x:Hp}{bx b bn k:Nat}{ar:Option Addr}{kr:Nat}{ac:Option Addr}{kc:Nat}{ag:Option Addr}{kg:Nat}{vf:Value}{F:List Int}(h:Opn w wr x bx b bn (k+1) k ar kr ac kc ag kg vf F)(hs:isSt x 0 k=false):
  Opn w wr x bx b bn (k+1) (k+1) ar kr ac kc ag kg vf F:=
 ⟨h.e,h.hb,h.x4,h.c,h.n13,h.n,h.o,h.f,h.fo,by unfold frees;rw[valsTo_no _ _ _ hs];exact h.fp⟩
theorem Opn.put{w wr w':World}{x:Hp}{bx b bn k:Nat}{ar:Option Addr}{kr:Nat}{ac:Option Addr}{kc:Nat}{ag:Option Addr}{kg:Nat}{vf v':Value}{F F':List Int}(h:Opn w wr x bx b bn (k+1) k ar kr ac kc ag kg vf F)(hs:isSt x 0 k=true)
  (l:LsAt w' (bn+1) b 14 v' F') (o:Ho F') (p:F'.Perm ((k:Int)::F)) (q:QFr b 14 vf v' wr w'):Opn w w' x bx b bn (k+1) (k+1) ar kr ac kc ag kg v' F':=by
 obtain⟨hb1,hb2,hb3,hb4⟩:=h.hb;have hv:∀B,B≤bn→vf.ownBlock≠some B:=fun B hB e=>by have:=(h.f.rlt B e).1;omega
 refine⟨q.ext h.e (by omega) (fun B hB=>by have:=(h.f.rlt B hB).1;omega),⟨hb1,hb2,hb3,Nat.lt_of_lt_of_le hb4 q.size⟩,q.cells h.x4 (by omega) (hv _ (by omega)),fun o v hq=>?_,by rw[q.hdr 13 (by omega)];exact h.n13,fun i hi=>?_,fun j hj=>?_,l,o,?_⟩
 ·have ho:o<13:=by
   rcases Nat.lt_or_ge o 13 with h' | h'
   ·exact h'
   ·rw[Array.getElem?_eq_none (by simpa using h')] at hq;cases hq
  rw[q.hdr o (by omega)];exact h.c o v hq
 ·obtain⟨bc,oc,a,p1,p2⟩:=h.n i hi;exact⟨bc,oc,a,q.cells p1 (by omega) (hv _ (by omega)),q.cells p2 (by omega) (hv _ (by omega))⟩
 ·obtain⟨⟨v,h1⟩,h2⟩:=h.o j hj;refine⟨⟨v,q.cells h1 (by omega) (hv _ (by omega))⟩,?_⟩;rw[World.frozen?_of_block (w:=wr) (a:=⟨bn,j,none⟩) (q.block bn hb4 (by omega) (hv _ (by omega)))];exact h2
 ·unfold frees;rw[valsTo_yes _ _ _ hs];exact(p.trans (h.fp.cons _)).trans (List.perm_append_singleton _ _).symm
theorem Opn.done{w wr:World}{x:Hp}{bx b bn:Nat}{ar:Option Addr}{kr:Nat}{ac:Option Addr}{kc:Nat}{ag:Option Addr}{kg:Nat}{vf:Value}{F:List Int}(h:Opn w wr x bx b bn x.cells.length x.cells.length ar kr ac kc ag kg vf F)
  (hR:SlW w (.slice ar x.regs.length kr) x.regs) (hC:SlC w (.slice ac x.cells.length kc) x.cells) (hG:SlI w (.slice ag x.gray.length kg) x.gray) :
  VAt wr b x ar kr ac kc ag kg (some ⟨bn,0,none⟩) x.cells.length∧FAt wr b x (bn+1) vf F:=
 ⟨⟨hat_of x wr b h.c (SlW.ext h.e hR) (SlC.ext h.e hC) (SlI.ext h.e hG),h.n13,fun i hi=>let ⟨bc,oc,a,p,q⟩:=h.n i hi;⟨bn,0,bc,oc,rfl,a,by simpa using p,by simpa using q⟩⟩,h.f,h.fo,h.fp⟩
structure Two(w wr:World)(x:Hp)(k:Nat)(v1 v2:Value)(L1 L2:List Int):Prop where
 e:Ext w wr
 s1:LsAt wr w.heap.size w.heap.size 0 v1 L1
 s2:LsAt wr w.heap.size (w.heap.size+1) 0 v2 L2
 d1:v1.ownBlock≠some (w.heap.size+1)
 d2:v2.ownBlock≠some w.heap.size
 d3:∀k,v2.ownBlock=some k→v1.ownBlock≠some k
 h1:Ho L1
 h2:Ho L2
 p1:L1.Perm (births x k)
 p2:L2.Perm (targets x k)
theorem Two.len{w wr:World}{x:Hp}{k:Nat}{v1 v2:Value}{L1 L2:List Int}(h:Two w wr x k v1 v2 L1 L2):L1.length≤k∧L2.length≤k:=
 ⟨by rw[h.p1.length_eq];exact valsTo_len _ _ _,by rw[h.p2.length_eq];exact valsTo_len _ _ _⟩
theorem Two.ext{w wr w':World}{x:Hp}{k:Nat}{v1 v2:Value}{L1 L2:List Int}(h:Two w wr x k v1 v2 L1 L2)(e:Ext wr w'):Two w w' x k v1 v2 L1 L2:=
 ⟨h.e.trans e,h.s1.ext e,h.s2.ext e,h.d1,h.d2,h.d3,h.h1,h.h2,h.p1,h.p2⟩
theorem Two.skip{w wr:World}{x:Hp}{k:Nat}{v1 v2:Value}{L1 L2:List Int}(h:Two w wr x k v1 v2 L1 L2)(s1:isSt x 1 k=false)(s2:isSt x 2 k=false):Two w wr x (k+1) v1 v2 L1 L2:=
 ⟨h.e,h.s1,h.s2,h.d1,h.d2,h.d3,h.h1,h.h2,by unfold births;rw[valsTo_no _ _ _ s1];exact h.p1,by unfold targets;rw[valsTo_no _ _ _ s2];exact h.p2⟩
theorem Two.start(w:World)(x:Hp)(a b:TypeId):Two w ((w.alloc (.cells #[.slice none 0 0] a)).alloc (.cells #[.slice none 0 0] b)) x 0 (.slice none 0 0) (.slice none 0 0) [] []:=by
 refine⟨((Ext.refl w).alloc _).alloc _,LsAt.nil (by simp [go_sem]) (by simp [go_sem]),LsAt.nil (by simp [go_sem]) (by simp [go_sem]),by simp [Value.ownBlock],by simp [Value.ownBlock],by simp [Value.ownBlock],Ho.nil,Ho.nil,List.Perm.refl _,List.Perm.refl _⟩
end Go.Proofs.YtddkhnclmeikfaaGreat
