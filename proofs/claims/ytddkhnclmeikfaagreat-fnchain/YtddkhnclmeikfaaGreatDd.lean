import Derived.Test.YtddkhnclmeikfaaGreatLr
import Derived.Test.YtddkhnclmeikfaaGreatDa
import Derived.Deep.AppendLies
import Derived.Laws.OwnMore
import Derived.Lib.AppendZerosOnto
import Derived.Lib.Walk
import Derived.Maps.AppendAt
set_option maxRecDepth 100000
set_option maxHeartbeats 4000000
namespace Go.Proofs.YtddkhnclmeikfaaGreat
open Go.RowKit
attribute [local go_sem ↓] Go.wp_at_zero Go.wp_at_succ
theorem ownsRow_of_block{w w':World}{base e size n:Nat}{v:Value}{xs:List Value}(h:w.ownsRow base e size v n xs)(hb:∀k,v.ownBlock=some k→w'.heap[k]?=w.heap[k]?):w'.ownsRow base e size v n xs:=by
 refine⟨h.1,?_⟩;rcases h.2 with h' | ⟨g,cap,cur,rfl,h1,h2,h3⟩
 ·exact .inl h'
 ·exact .inr ⟨g,cap,cur,rfl,h1,(hb g rfl).trans h2,h3⟩
theorem flat_get{α:Type}(f:α→List Value)(c:Nat)(hc:∀a,(f a).length=c):∀(l:List α) (i j:Nat) (hi:i<l.length),j<c→(l.flatMap f)[i*c+j]?=(f l[i])[j]?
 | a::l,0,j,_,hj=>by simp only [List.flatMap_cons,Nat.zero_mul,Nat.zero_add,List.getElem_cons_zero];exact List.getElem?_append_left (by rw[hc];exact hj)
 | a::l,i+1,j,hi,hj=>by
  simp only [List.flatMap_cons,List.getElem_cons_succ];rw[List.getElem?_append_right (by rw[hc,Nat.succ_mul];omega),hc,show(i+1)*c+j-c=i*c+j by rw[Nat.succ_mul];omega];exact flat_get f c hc l i j (by simpa using hi) hj
theorem own_cells{w:World}{base:Nat}{t:TypeId}{c:Nat}{v:Value}{α:Type}{f:α→List Value}(hc:∀a,(f a).length=c){L:List α}(h:w.ownsRow base t c v L.length (L.flatMap f)):∃ad cap,v=.slice ad L.length cap∧(0<L.length→∃g,ad=some ⟨g,0,none⟩)∧∀i (hi:i<L.length),∃g,ad=some ⟨g,0,none⟩∧base≤g∧g<w.heap.size∧∀j,j<c→w.cell? ⟨g,0+i*c+j,none⟩=(f L[i])[j]?:=by
 rcases h.2 with⟨h0,h1⟩ | ⟨g,cap,cur,h0,hb,hg,hr⟩
 ·exact⟨none,0,by rw[h0,h1],fun q=>by omega,fun i hi=>by omega⟩
 ·subst h0;refine⟨_,cap,rfl,fun _=>⟨g,rfl⟩,fun i hi=>⟨g,rfl,(h.lt g rfl).1,(h.lt g rfl).2,fun j hj=>?_⟩⟩
  have hlt:i*c+j<L.length*c:=by
   have:(i+1)*c≤L.length*c:=Nat.mul_le_mul_right c (by omega);rw[Nat.succ_mul] at this;omega
  rw[Nat.zero_add,World.ownsRow.cellAt h (i*c+j) hlt];exact flat_get f c hc L i j hi hj
theorem grown_ext{a W w5:World}{v:Value}{base:Nat}{t:TypeId}{c n:Nat}{xs:List Value}(ea:Ext a W)(hown:W.ownsRow base t c v n xs)(hb:a.heap.size≤base)(hg:W.grownBy w5 v.ownBlock):Ext a w5:=
 Below.trans ea ⟨hg.os,hg.tape,hg.output,hg.size,fun k hk=>hg.block k (Nat.lt_of_lt_of_le hk ea.size) (fun e=>by have:=(hown.lt k e.symm).1;omega)⟩
theorem box_push{w3 W w5:World}{T:TypeId}{c n n':Nat}{xs ys:List Value}{v v' u:Value}{base bg o:Nat}(hb:bg<base)(ew:Ext w3 W)(hW:W.ownsRow base T c v n xs)(h3:w3.heap.size≤bg)(hlt:bg<W.heap.size)(hg:W.grownBy w5 v.ownBlock)(h5:w5.ownsRow base T c v' n' ys):
  (w5.setCell ⟨bg,o,none⟩ u).ownsRow base T c v' n' ys∧Ext w3 (w5.setCell ⟨bg,o,none⟩ u)∧(∀o',o'≠o→(w5.setCell ⟨bg,o,none⟩ u).cell? ⟨bg,o',none⟩=W.cell? ⟨bg,o',none⟩)∧(∀o',(w5.setCell ⟨bg,o,none⟩ u).frozen? ⟨bg,o',none⟩=W.frozen? ⟨bg,o',none⟩)∧(∀y,W.cell? ⟨bg,o,none⟩=some y→(w5.setCell ⟨bg,o,none⟩ u).cell? ⟨bg,o,none⟩=some u)∧(∀q,q<W.heap.size→q≠bg→v.ownBlock≠some q→(w5.setCell ⟨bg,o,none⟩ u).heap[q]?=W.heap[q]?):=by
 have hblk:w5.heap[bg]?=W.heap[bg]?:=hg.block bg hlt (fun e=>by have:=(hW.lt bg e.symm).1;omega);refine⟨ownsRow_of_block h5 (fun q hq=>Below.heap_setCell _ _ _ _ (fun e=>by have:=(h5.lt q hq).1;simp only at e;omega)),(grown_ext ew hW (by omega) hg).setCell h3 u,fun o' ho=>?_,fun o'=>?_,fun y hy=>?_,fun q hq hne hv=>?_⟩
 ·rw[cell_other _ (.inr (fun e=>ho e.symm))];exact World.cell?_of_block (a:=⟨bg,o',none⟩) hblk
 ·rw[World.frozen?_setCell];exact World.frozen?_of_block (a:=⟨bg,o',none⟩) hblk
 ·exact World.cell?_setCell_same _ _ _ ((World.cell?_of_block (a:=⟨bg,o,none⟩) hblk).trans hy)
 ·exact(Below.heap_setCell _ _ _ _ hne).trans (hg.block q hq (fun e=>hv e.symm))
theorem own_less{w:World}{b b':Nat}{T:TypeId}{c n:Nat}{v:Value}{xs:List Value}(h:w.ownsRow b T c v n xs)(hb:b'≤b):w.ownsRow b' T c v n xs:=
 ⟨h.1,h.2.imp id (fun⟨g,cap,cur,hv,hg,r⟩=>⟨g,cap,cur,hv,Nat.le_trans hb hg,r⟩)⟩
theorem flat_len{α:Type}(f:α→List Value)(c:Nat)(hc:∀a,(f a).length=c)(L:List α):(L.flatMap f).length=L.length*c:=by
 induction L with
 | nil=>simp
 | cons a L ih=>simp [ih,hc,Nat.succ_mul];omega
theorem flat_one{α:Type}(f:α→List Value)(h:∀a u,u∈f a→u.oneCell'=true)(L:List α):∀u,u∈L.flatMap f→u.oneCell'=true:=fun u hu=>by
 obtain⟨a,_,h2⟩:=List.mem_flatMap.1 hu;exact h a u h2
theorem addr_add(b o j:Nat):(⟨b,o,none⟩:Addr).add j=⟨b,o+j,none⟩:=by unfold Addr.add;split <;> simp_all
theorem flat_news{α:Type}{w:World}(f:α→List Value)(c:Nat)(h0:0<c)(hc:∀a,(f a).length=c)(L:List α)(b o:Nat)(h:∀i (hi:i<L.length),∀j,j<c→w.cell? ⟨b,o+i*c+j,none⟩=(f L[i])[j]?):∀j u,(L.flatMap f)[j]?=some u→w.cell? ((⟨b,o,none⟩:Addr).add j)=some u:=fun j u hu=>by
 have hj:j<L.length*c:=by
  have:=(List.getElem?_eq_some_iff.1 hu).1
  rwa [flat_len f c hc] at this
 have hq:j / c<L.length:=(Nat.div_lt_iff_lt_mul h0).2 hj;have hm:j % c<c:=Nat.mod_lt _ h0;have e:j / c*c+j % c=j:=Nat.div_add_mod' j c;rw[addr_add,←hu];have:=h (j / c) hq (j % c) hm;rw[Nat.add_assoc,e] at this;rw[this,←flat_get f c hc L (j / c) (j % c) hq hm,e]
theorem Hp.c_set(x:Hp)(i:Nat)(c:Cl)(hi:i<x.cells.length)(q:Nat):({ x with cells:=x.cells.set i c }:Hp).c q=if q=i then c else x.c q:=by
 simp only [Hp.c,List.getD_eq_getElem?_getD,List.getElem?_set];by_cases e:q=i
 ·subst e;simp [hi]
 ·rw[if_neg (fun h=>e h.symm),if_neg e]
def mkB(x:Hp):Bool:=x.phase == 1 || x.phase == 2
def whB(c:Cl):Bool:=c.st == 1 && c.color == 0
def shadeB(x:Hp)(i:Nat):Bool:=mkB x && whB (x.c i)
def grayC(c:Cl):Cl:={ c with color:=1 }
def shadeH(x:Hp)(i:Nat):Hp:=if shadeB x i=true then { x with cells:=x.cells.set i (grayC (x.c i)),gray:=x.gray++[(i:Int)] } else x
structure ProtD where
 z:Nat→Option Obj
def Prt[Inhabited ProtD](w:World)(role:Nat→Nat):Prop:=∀q o,(default:ProtD).z q=some o→role q=1∧w.heap[q]?=some o
theorem Prt.of[Inhabited ProtD]{w w':World}{role role':Nat→Nat}(h:Prt w role)(e:∀q,q<w.heap.size→role q=1→w'.heap[q]?=w.heap[q]?)(r:∀q,q<w.heap.size→role q=1→role' q=1):Prt w' role':=fun q o hq=>by
 obtain⟨h1,h2⟩:=h q o hq
 have hl:q<w.heap.size:=by
  rcases Nat.lt_or_ge q w.heap.size with l | l
  ·exact l
  ·rw[Array.getElem?_eq_none l] at h2;cases h2
 exact⟨r q hl h1,(e q hl h1).trans h2⟩
theorem set_same{w:World}{p:Addr}{v:Value}(h:w.cell? p=some v):w.setCell p v=w:=by
 have key:(w.setCell p v).heap=w.heap:=by
  unfold World.cell? at h;unfold World.setCell;apply Array.ext_getElem?;intro i;rw[Array.getElem?_modify];by_cases e:p.block=i
  ·subst e;rw[if_pos rfl];cases hh:w.heap[p.block]? with
   | none=>rfl
   | some o=>
    rw[hh] at h;cases o with
    | cells c t f=>
     simp only at h;by_cases hs:p.spot.isSome=true
     ·simp [hs] at h
     ·simp only [hs] at h;simp only [Option.map_some,hs]
      congr 1
      have hc:c.setIfInBounds p.off v=c:=by
       apply Array.ext_getElem?;intro k;rw[Array.getElem?_setIfInBounds];by_cases e2:p.off=k
       ·subst e2;rw[if_pos rfl];have:=(Array.getElem?_eq_some_iff.1 h).1;rw[if_pos this];exact h.symm
       ·rw[if_neg e2]
      simp [hc]
    | _=>simp at h
  ·rw[if_neg e]
 unfold World.setCell at key ⊢;simp only at key;rw[key]
theorem infoNode2:(Tryz.prog.info? 124).map (fun i=>(i.zero,i.size,i.bytes))=some (some (.agg #[.int .i64 0,.pointer none]),2,16):=by kernel_rfl
theorem grow_room(base:Option Addr)(l n:Nat)(w:World)(hn:n=0):
  Calls Tryz.prog 140 #[.slice base l l,.int .i64 n] w fun e w'=>e=.returned (.slice base l l)∧w'=w:=by
 subst hn;have h2:wrap64 ((l:Int)-(l:Int))=0:=by unfold wrap64;omega
 go_enter Tryz.func140,Tryz.ntmps140
 go_wp2
 go_ret;exact⟨rfl,rfl⟩
def GrowPost(w:World)(l n:Nat)(cs:List Value)(e:Ending)(w':World):Prop:=∃k m,e=.returned (.slice (some ⟨w.heap.size,0,none⟩) l k)∧l+n≤k∧m.size=(k-l)*2∧w'=w.drew.alloc (.cells (cs.toArray++m) 124)
theorem grow_new(bn l n:Nat)(cs:List Value)(w:World)(hl:l+n≤8000)(hn:0<n)(hcl:cs.length=l*2)(hcs:∀j v,cs[j]?=some v→w.cell? ⟨bn,j,none⟩=some v):
  Calls Tryz.prog 140 #[.slice (some ⟨bn,0,none⟩) l l,.int .i64 n] w fun e w'=>GrowPost w l n cs e w':=by
 obtain⟨i0,hi0,hz0,hz1,hz2⟩:∃i,Tryz.prog.info? 124=some i∧i.zero=some (.agg #[.int .i64 0,.pointer none])∧i.size=2∧i.bytes=16:=by
  have:=infoNode2;cases h:Tryz.prog.info? 124 with
  | none=>rw[h] at this;simp at this
  | some i=>rw[h] at this;simp at this;exact⟨i,rfl,this.1,this.2.1,this.2.2⟩
 have h2:wrap64 ((l:Int)-(l:Int))=0:=by unfold wrap64;omega
 have hold:(Builtin.firstCells i0.size l (.slice (some ⟨bn,0,none⟩) l l)).run Tryz.prog w.drew=.ok cs.toArray w.drew:=run_firstCells_some w.drew i0.size l ⟨bn,0,none⟩ l l cs (by rw[hcl,hz1]) (fun j v hj=>by
  have:(⟨bn,0,none⟩:Addr).add j=⟨bn,j,none⟩:=by unfold Addr.add;split <;> simp_all
  rw[this];exact hcs j v hj)
 have hrz:∀ty,(Builtin.append_ #[117,3] ty #[.slice (some ⟨bn,0,none⟩) l l,.int .i64 (n:Int)]).run Tryz.prog w=.ok (.slice (some ⟨w.heap.size,0,none⟩) (l+n) (grownCap w (l+n) l 124)) (w.drew.alloc (.cells (cs.toArray++Builtin.zeroCells (Value.agg #[.int .i64 0,.pointer none]).cells n++Builtin.zeroCells (Value.agg #[.int .i64 0,.pointer none]).cells (grownCap w (l+n) l 124-(l+n))) 124)):=fun ty=>
  Go.Lib.run_append_grow_zeros w 117 3 ty 124 i0 _ .i64 .i64 Tryz.underlying117 Tryz.underlying3 hi0 hz0 (some ⟨bn,0,none⟩) l l cs hold n hn (by omega) (by omega) (by omega) (by rw[hz2];omega) (growslice_fits (by omega) (by rw[hz2];omega))
 have hGn:l+n≤grownCap w (l+n) l 124:=grownCap_ge w _ _ _;obtain⟨G,hG⟩:∃G,G=grownCap w (l+n) l 124:=⟨_,rfl⟩;rw[←hG] at hrz hGn
 have hG63:G≤9223372036854775807:=by
  have:=grownCap_le_maxLen w (l+n) l 124 (by unfold maxLen;omega);rw[←hG] at this;unfold maxLen at this;omega
 have n0:¬((n:Int)<0):=by omega
 have n1:wrap64 ((n:Int)-0)=n:=by unfold wrap64;omega
 have n2:(n:Int) > 0:=by omega
 have HGN:=hide hGn;clear hold hG hcs hcl;go_enter Tryz.func140,Tryz.ntmps140;go_wp2_with (at_builtin;refine Go.Lib.wpList_append_run _ rfl _ _ _ _ rfl _ _ rfl rfl _ _ (hrz _) ?_);go_ret;exact⟨G,Builtin.zeroCells (Value.agg #[.int .i64 0,.pointer none]).cells n++Builtin.zeroCells (Value.agg #[.int .i64 0,.pointer none]).cells (G-(l+n)),rfl,unhide HGN,by have:=unhide HGN;simp only [Array.size_append,Go.size_zeroCells];show n*2+(G-(l+n))*2=_;omega,rfl⟩
theorem ints_step{w wr:World}{xs:List Int}{k:Nat}(hlt:k<xs.length)(hm:∀j (hj:j<xs.length),j<k→InAt wr w.heap.size (0+j*1) xs[j])(ho:∀j,j<xs.length*1→Open wr w.heap.size j)(hbl:Ext w wr)(hnf:Nf1 w.heap.size wr):
  let W:=wr.setCell ⟨w.heap.size,k,none⟩ (iv xs[k])
  (∀j (hj:j<xs.length),j<k+1→InAt W w.heap.size (0+j*1) xs[j])∧(∀j,j<xs.length*1→Open W w.heap.size j)∧Ext w W∧Nf1 w.heap.size W:=by
 intro W;refine⟨fun j hj hjk=>?_,fun j hj=>(ho j hj).set _ _,hbl.setCell (Nat.le_refl _) _,hnf.set _ _⟩;by_cases e:j=k
 ·subst e;show W.cell? _=_;have:=(ho j (by omega)).same (iv xs[j])
  simpa using this
 ·show W.cell? _=_;rw[cell_other _ (Or.inr (by omega))];exact hm j hj (by omega)
def Fn2(B:Nat)(w:World)(b:Nat)(v:Value):Prop:=Fn0 B w v∧∀b' o n c,v=.slice (some ⟨b',o,none⟩) n c→b'≠b
def ClAtF(B:Nat)(w:World)(b o:Nat)(x:Cl):Prop:=
 ∃vp,w.cell? ⟨b,o,none⟩=some (iv x.st)∧w.cell? ⟨b,o+1,none⟩=some (iv x.kind)∧w.cell? ⟨b,o+2,none⟩=some (iv x.weak)∧
  w.cell? ⟨b,o+3,none⟩=some (iv x.last)∧w.cell? ⟨b,o+4,none⟩=some (iv x.born)∧w.cell? ⟨b,o+5,none⟩=some (iv x.color)∧
  w.cell? ⟨b,o+6,none⟩=some (iv x.to)∧w.cell? ⟨b,o+7,none⟩=some vp∧SlP w vp x.prs∧Fn2 B w b vp
theorem ClAtF.at{B:Nat}{w:World}{b o:Nat}{x:Cl}(h:ClAtF B w b o x):ClAt w b o x:=by
 obtain⟨vp,h0,h1,h2,h3,h4,h5,h6,h7,h8,_⟩:=h;exact⟨vp,h0,h1,h2,h3,h4,h5,h6,h7,h8⟩
def SlCF(B:Nat)(w:World)(v:Value)(xs:List Cl):Prop:=SlOf (ClAtF B w) 8 v xs∧Fn0 B w v
theorem SlCF.only{S:Nat→Prop}{B:Nat}{w w':World}{v:Value}{xs:List Cl}(h:SlCF B w v xs)(ho:Only S w w')(hS:∀q,S q→q<B):SlCF B w' v xs:=by
 refine⟨h.1.mono2 fun b o n c e o' x hx=>?_,h.2.only ho hS⟩;have hb:¬S b:=fun s=>by have:=hS b s;have:=h.2.1 b o n c e;omega
 obtain⟨vp,h0,h1,h2,h3,h4,h5,h6,h7,h8,h9⟩:=hx;exact⟨vp,ho.keep hb h0,ho.keep hb h1,ho.keep hb h2,ho.keep hb h3,ho.keep hb h4,ho.keep hb h5,ho.keep hb h6,ho.keep hb h7,slP_only ho (fun b o n c e s=>by have:=hS b s;have:=h9.1.1 b o n c e;omega) h8,h9.1.only ho hS,h9.2⟩
theorem SlCF.ext{B:Nat}{w w':World}{v:Value}{xs:List Cl}(h:SlCF B w v xs)(he:Ext w w'):SlCF B w' v xs:=
 h.only (S:=fun _=>False) (Only.of_ext he) (fun _ f=>f.elim)
def SlWF(B:Nat)(w:World)(v:Value)(xs:List Wd):Prop:=SlW w v xs∧Fn0 B w v
theorem SlWF.only{S:Nat→Prop}{B:Nat}{w w':World}{v:Value}{xs:List Wd}(h:SlWF B w v xs)(ho:Only S w w')(hS:∀q,S q→q<B):SlWF B w' v xs:=by
 refine⟨SlOf.mono2 h.1 fun b o n c e o' x hx=>?_,h.2.only ho hS⟩;have hb:¬S b:=fun s=>by have:=hS b s;have:=h.2.1 b o n c e;omega
 exact⟨ho.keep hb hx.1,ho.keep hb hx.2.1,ho.keep hb hx.2.2⟩
theorem SlWF.ext{B:Nat}{w w':World}{v:Value}{xs:List Wd}(h:SlWF B w v xs)(he:Ext w w'):SlWF B w' v xs:=⟨SlW.ext he h.1,h.2.ext he⟩
def SlIF(B:Nat)(w:World)(v:Value)(xs:List Int):Prop:=SlI w v xs∧Fn0 B w v
theorem SlIF.only{S:Nat→Prop}{B:Nat}{w w':World}{v:Value}{xs:List Int}(h:SlIF B w v xs)(ho:Only S w w')(hS:∀q,S q→q<B):SlIF B w' v xs:=by
 refine⟨SlOf.mono2 h.1 fun b o n c e o' x hx=>?_,h.2.only ho hS⟩;have hb:¬S b:=fun s=>by have:=hS b s;have:=h.2.1 b o n c e;omega
 exact ho.keep hb hx
theorem SlIF.ext{B:Nat}{w w':World}{v:Value}{xs:List Int}(h:SlIF B w v xs)(he:Ext w w'):SlIF B w' v xs:=⟨SlI.ext he h.1,h.2.ext he⟩
abbrev ansV(c n:Int):Value:=.agg #[iv c,iv n]
def frH(n:Int):Hp:=⟨n,0,0,List.replicate 16 ⟨0,0,0⟩,[],0,0,0,[],0,0,0,0⟩
theorem answered_fine(n:Int)(w:World):
  Calls Tryz.prog 281 #[iv n,.nilIface] w fun e w'=>e=.returned (ansV 0 n)∧Ext w w':=by
 go_enter Tryz.func281,Tryz.ntmps281;go_wp2_with fail;refine(as_none _ _).mono ?_;rintro e w1 ⟨rfl,rfl⟩;go_wp2_with fail;refine bodyPost_ret (v:=ansV 0 n) (by simp [results,Tryz.results281,go_sem]) rfl ⟨rfl,?_⟩
 repeat (first | exact Ext.refl _ | refine Ext.alloc ?_ _ | refine Ext.setCell ?_ (by first | exact Nat.le_refl _ | (show w.heap.size≤w.heap.size+1;omega)) _)
end Go.Proofs.YtddkhnclmeikfaaGreat
