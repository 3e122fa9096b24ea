import Derived.Test.YtddkhnclmeikfaaGreatEs0
import Derived.Test.YtddkhnclmeikfaaGreatSg
import Derived.Test.YtddkhnclmeikfaaGreatDd
import Derived.Test.YtddkhnclmeikfaaGreatFr0
set_option maxRecDepth 100000
set_option maxHeartbeats 1000000
namespace Go.Proofs.YtddkhnclmeikfaaGreat
open Go.RowKit
attribute [local go_sem ↓] Go.wp_at_zero Go.wp_at_succ
structure LsAt(w:World)(base bq oq:Nat)(v:Value)(L:List Int):Prop where
 hd:w.cell? ⟨bq,oq,none⟩=some v
 hf:w.frozen? ⟨bq,oq,none⟩=false
 own:w.ownsRow base 3 1 v L.length (L.map iv)
 apart:v.ownBlock≠some bq
structure QFr(bq oq:Nat)(v v':Value)(w w':World):Prop where
 os:w'.os=w.os
 tape:w'.tape=w.tape
 output:w'.output=w.output
 size:w.heap.size≤w'.heap.size
 block:∀k,k<w.heap.size→k≠bq→v.ownBlock≠some k→w'.heap[k]?=w.heap[k]?
 hdr:∀o,o≠oq→w'.cell? ⟨bq,o,none⟩=w.cell? ⟨bq,o,none⟩
 hfr:∀o,w'.frozen? ⟨bq,o,none⟩=w.frozen? ⟨bq,o,none⟩
 own:v'.ownBlock=v.ownBlock∨∃g,v'.ownBlock=some g∧w.heap.size≤g
theorem QFr.refl(bq oq:Nat)(v:Value)(w:World):QFr bq oq v v w w:=⟨rfl,rfl,rfl,Nat.le_refl _,fun _ _ _ _=>rfl,fun _ _=>rfl,fun _=>rfl,.inl rfl⟩
theorem QFr.trans{bq oq:Nat}{v v1 v2:Value}{w w1 w2:World}(h:QFr bq oq v v1 w w1)(k:QFr bq oq v1 v2 w1 w2):QFr bq oq v v2 w w2:=
 ⟨k.os.trans h.os,k.tape.trans h.tape,k.output.trans h.output,Nat.le_trans h.size k.size,
  fun i hi hne hv=>(k.block i (Nat.lt_of_lt_of_le hi h.size) hne (fun e=>by
   rcases h.own with h1 | ⟨g,h1,h2⟩
   ·rw[h1] at e;exact hv e
   ·rw[h1] at e;cases e;omega)).trans (h.block i hi hne hv),
  fun o ho=>(k.hdr o ho).trans (h.hdr o ho),fun o=>(k.hfr o).trans (h.hfr o),by
   rcases k.own with h1 | ⟨g,h1,h2⟩
   ·rcases h.own with h3 | ⟨g,h3,h4⟩
    ·exact .inl (h1.trans h3)
    ·exact .inr ⟨g,h1.trans h3,h4⟩
   ·exact .inr ⟨g,h1,Nat.le_trans h.size h2⟩⟩
theorem QFr.ext{a:World}{bq oq:Nat}{v v':Value}{w w':World}(h:QFr bq oq v v' w w')(e:Ext a w)(hb:a.heap.size≤bq)(hv:∀k,v.ownBlock=some k→a.heap.size≤k):Ext a w':=
 Below.trans e ⟨h.os,h.tape,h.output,h.size,fun k hk=>h.block k (Nat.lt_of_lt_of_le hk e.size) (by omega) (fun q=>by have:=hv k q;omega)⟩
theorem QFr.drewN{bq oq:Nat}{v v':Value}{w w':World}(h:QFr bq oq v v' w w')(n:Nat):QFr bq oq v v' w (w'.drewN n):=⟨h.os,h.tape,h.output,h.size,h.block,h.hdr,h.hfr,h.own⟩
theorem QFr.cells{bq oq:Nat}{v v':Value}{w w':World}(h:QFr bq oq v v' w w'){b o:Nat}{u:Value}(hc:w.cell? ⟨b,o,none⟩=some u)(hb:b≠bq)(hv:v.ownBlock≠some b):w'.cell? ⟨b,o,none⟩=some u:=
 (World.cell?_of_block (w:=w) (w':=w') (a:=⟨b,o,none⟩) (h.block b (cell_lt hc) hb hv)).trans hc
theorem LsAt.hlt{w:World}{base bq oq:Nat}{v:Value}{L:List Int}(h:LsAt w base bq oq v L):bq<w.heap.size:=cell_lt h.hd
theorem LsAt.rlt{w:World}{base bq oq:Nat}{v:Value}{L:List Int}(h:LsAt w base bq oq v L):∀k,v.ownBlock=some k→base≤k∧k<w.heap.size:=h.own.lt
theorem LsAt.ext{w w':World}{base bq oq:Nat}{v:Value}{L:List Int}(h:LsAt w base bq oq v L)(e:Ext w w'):LsAt w' base bq oq v L:=
 ⟨e.keep h.hd,by rw[e.frozen (p:=⟨bq,oq,none⟩) h.hlt];exact h.hf,ownsRow_of_block h.own (fun k hk=>e.block k (h.rlt k hk).2),h.apart⟩
theorem LsAt.nil{w:World}{base bq oq:Nat}(hd:w.cell? ⟨bq,oq,none⟩=some (.slice none 0 0))(hf:w.frozen? ⟨bq,oq,none⟩=false):LsAt w base bq oq (.slice none 0 0) []:=
 ⟨hd,hf,World.ownsRow_nil _ _ _ _,by simp [Value.ownBlock]⟩
theorem LsAt.form{w:World}{base bq oq:Nat}{v:Value}{L:List Int}(h:LsAt w base bq oq v L)(hn:0<L.length):∃g cap,v=.slice (some ⟨g,0,none⟩) L.length cap∧g≠bq:=by
 obtain⟨g,cap,rfl,_,_⟩:=h.own.form hn;exact⟨g,cap,rfl,fun e=>h.apart (by rw[←e];rfl)⟩
theorem LsAt.empty{w:World}{base bq oq:Nat}{v:Value}{L:List Int}(h:LsAt w base bq oq v L)(hn:L.length=0):∃ad cap,v=.slice ad 0 cap:=by
 rcases h.own.2 with⟨h1,_⟩ | ⟨g,cap,cur,h1,_⟩
 ·exact⟨none,0,h1⟩
 ·rw[hn] at h1;exact⟨_,_,h1⟩
theorem LsAt.cell{w:World}{base bq oq g n cap:Nat}{L:List Int}(h:LsAt w base bq oq (.slice (some ⟨g,0,none⟩) n cap) L)(i:Nat)(hi:i<L.length):w.cell? ⟨g,i,none⟩=some (iv (it L i)):=by
 obtain⟨h1,h2⟩:=h.own;rcases h2 with⟨h0,_⟩ | ⟨g',cap',cur,h0,hb,hg,hr⟩
 ·cases h0
 ·cases h0;have:=World.ownsRow.cellAt (w:=w) (base:=base) (e:=3) (size:=1) (g:=g) (n:=L.length) (cap:=cap) (xs:=L.map iv) h.own i (by omega);rw[this];simp [it,hi]
theorem LsAt.froz{w:World}{base bq oq g n cap:Nat}{L:List Int}(h:LsAt w base bq oq (.slice (some ⟨g,0,none⟩) n cap) L)(i:Nat):w.frozen? ⟨g,i,none⟩=false:=by
 obtain⟨h1,h2⟩:=h.own;rcases h2 with⟨h0,_⟩ | ⟨g',cap',cur,h0,hb,hg,hr⟩
 ·cases h0
 ·cases h0;exact World.ownsRow.frozenAt (w:=w) (base:=base) (e:=3) (size:=1) (g:=g) (n:=L.length) (cap:=cap) (xs:=L.map iv) h.own i
theorem LsAt.len{w:World}{base bq oq g n cap:Nat}{L:List Int}(h:LsAt w base bq oq (.slice (some ⟨g,0,none⟩) n cap) L):n=L.length∧n≤cap:=by
 rcases h.own.2 with⟨h0,_⟩ | ⟨g',cap',cur,h0,hb,hg,hr,_⟩
 ·cases h0
 ·cases h0;exact⟨rfl,hr⟩
theorem LsAt.store{w:World}{base bq oq g n cap:Nat}{L:List Int}(h:LsAt w base bq oq (.slice (some ⟨g,0,none⟩) n cap) L)(i:Nat)(x:Int):
  LsAt (w.setCell ⟨g,i,none⟩ (iv x)) base bq oq (.slice (some ⟨g,0,none⟩) n cap) (L.set i x)∧QFr bq oq (.slice (some ⟨g,0,none⟩) n cap) (.slice (some ⟨g,0,none⟩) n cap) w (w.setCell ⟨g,i,none⟩ (iv x)):=by
 have hne:g≠bq:=fun e=>h.apart (by rw[←e];rfl)
 obtain⟨hl,hc⟩:=h.len;subst hl;obtain⟨s1,s2⟩:=World.ownsRow.stored h.own i (iv x);refine⟨⟨?_,?_,?_,h.apart⟩,⟨rfl,rfl,rfl,s2.size,fun k hk h1 h2=>s2.block k hk (fun e=>h2 e.symm),fun o ho=>?_,fun o=>?_,.inl rfl⟩⟩
 ·rw[cell_other _ (.inl hne)];exact h.hd
 ·rw[World.frozen?_setCell];exact h.hf
 ·rw[List.length_set,List.map_set];exact s1
 ·exact cell_other _ (.inl hne)
 ·rw[World.frozen?_setCell]
theorem LsAt.swap{w w':World}{base bq oq g n cap:Nat}{L:List Int}(h:LsAt w base bq oq (.slice (some ⟨g,0,none⟩) n cap) L)(i j:Nat)
  (h1:w'.heap=((w.setCell ⟨g,i,none⟩ (iv (it L j))).setCell ⟨g,j,none⟩ (iv (it L i))).heap) (h2:w'.os=w.os) (h3:w'.tape=w.tape) (h4:w'.output=w.output) :
  LsAt w' base bq oq (.slice (some ⟨g,0,none⟩) n cap) (swp L i j)∧QFr bq oq (.slice (some ⟨g,0,none⟩) n cap) (.slice (some ⟨g,0,none⟩) n cap) w w':=by
 obtain⟨a1,a2⟩:=h.store i (it L j);obtain⟨b1,b2⟩:=a1.store j (it L i);have q:=a2.trans b2;have hb:∀k:Nat,w'.heap[k]?=((w.setCell ⟨g,i,none⟩ (iv (it L j))).setCell ⟨g,j,none⟩ (iv (it L i))).heap[k]?:=fun k=>by rw[h1]
 refine⟨⟨(World.cell?_of_block (a:=⟨bq,oq,none⟩) (hb bq)).trans b1.hd,(World.frozen?_of_block (a:=⟨bq,oq,none⟩) (hb bq)).trans b1.hf,ownsRow_of_block b1.own (fun k _=>hb k),h.apart⟩,
  ⟨h2,h3,h4,by rw[h1];exact q.size,fun k hk x y=>(hb k).trans (q.block k hk x y),fun o ho=>(World.cell?_of_block (a:=⟨bq,o,none⟩) (hb bq)).trans (q.hdr o ho),fun o=>(World.frozen?_of_block (a:=⟨bq,o,none⟩) (hb bq)).trans (q.hfr o),.inl rfl⟩⟩
theorem swap_ls(w:World)(base bq oq g n cap i j:Nat)(L:List Int)(h:LsAt w base bq oq (.slice (some ⟨g,0,none⟩) n cap) L)(hi:i<n)(hj:j<n):
  Calls Tryz.prog 171 #[.pointer (some ⟨bq,oq,none⟩),.int .i64 i,.int .i64 j] w fun e w'=>e=.returned (.tuple #[])∧LsAt w' base bq oq (.slice (some ⟨g,0,none⟩) n cap) (swp L i j)∧QFr bq oq (.slice (some ⟨g,0,none⟩) n cap) (.slice (some ⟨g,0,none⟩) n cap) w w':=by
 have hl:=h.len.1;by_cases e:i=j
 ·subst e;refine Calls.mono (swap_eq w bq oq g 0 n cap i (it L i) h.hd (by simpa using h.cell i (by omega)) (by simpa using h.froz i) hi) ?_;intro e w' ⟨r,hh,ho,ht,hout⟩;exact⟨r,h.swap i i (by rw[hh];simp) ho ht hout⟩
 ·refine Calls.mono (swap_ne w bq oq g 0 n cap i j (it L i) (it L j) h.hd (by simpa using h.cell i (by omega)) (by simpa using h.cell j (by omega)) (by simpa using h.froz i) (by simpa using h.froz j) hi hj e) ?_;intro e w' ⟨r,hh,ho,ht,hout⟩;exact⟨r,h.swap i j (by rw[hh];simp) ho ht hout⟩
def fW(y:Wd):List Value:=[iv y.k,iv y.n,iv y.a]
def fP(p:Pr):List Value:=[iv p.key.k,iv p.key.n,iv p.key.a,iv p.val.k,iv p.val.n,iv p.val.a]
def fC(z:Cl×Value):List Value:=[iv z.1.st,iv z.1.kind,iv z.1.weak,iv z.1.last,iv z.1.born,iv z.1.color,iv z.1.to,z.2]
def S7(w:World)(b o:Nat)(c:Cl):Prop:=
 w.cell? ⟨b,o,none⟩=some (iv c.st)∧w.cell? ⟨b,o+1,none⟩=some (iv c.kind)∧w.cell? ⟨b,o+2,none⟩=some (iv c.weak)∧w.cell? ⟨b,o+3,none⟩=some (iv c.last)∧w.cell? ⟨b,o+4,none⟩=some (iv c.born)∧w.cell? ⟨b,o+5,none⟩=some (iv c.color)∧w.cell? ⟨b,o+6,none⟩=some (iv c.to)
theorem S7.of{w w':World}{b o:Nat}{c:Cl}(h:S7 w b o c)(e:∀j,j<7→w'.cell? ⟨b,o+j,none⟩=w.cell? ⟨b,o+j,none⟩):S7 w' b o c:=by
 obtain⟨a0,a1,a2,a3,a4,a5,a6⟩:=h;exact⟨(e 0 (by omega)).trans a0,(e 1 (by omega)).trans a1,(e 2 (by omega)).trans a2,(e 3 (by omega)).trans a3,(e 4 (by omega)).trans a4,(e 5 (by omega)).trans a5,(e 6 (by omega)).trans a6⟩
theorem PrAt.of{w w':World}{b o:Nat}{p:Pr}(h:PrAt w b o p)(e:∀j,j<6→w'.cell? ⟨b,o+j,none⟩=w.cell? ⟨b,o+j,none⟩):PrAt w' b o p:=by
 obtain⟨a0,a1,a2,a3,a4,a5⟩:=h;exact⟨(e 0 (by omega)).trans a0,(e 1 (by omega)).trans a1,(e 2 (by omega)).trans a2,(e 3 (by omega)).trans a3,(e 4 (by omega)).trans a4,(e 5 (by omega)).trans a5⟩
theorem WdAt.of{w w':World}{b o:Nat}{y:Wd}(h:WdAt w b o y)(e:∀j,j<3→w'.cell? ⟨b,o+j,none⟩=w.cell? ⟨b,o+j,none⟩):WdAt w' b o y:=by
 obtain⟨a0,a1,a2⟩:=h;exact⟨(e 0 (by omega)).trans a0,(e 1 (by omega)).trans a1,(e 2 (by omega)).trans a2⟩
structure Nfp(b k:Nat)(w:World):Prop where
 lt:b<w.heap.size
 nf:∀j,w.frozen? ⟨b,j,none⟩=false
 cp:∀j,j<k*6→∃v,w.cell? ⟨b,j,none⟩=some v
theorem Nfp.n1{b k:Nat}{w:World}(h:Nfp b k w):Nf1 b w:=⟨h.1,h.2⟩
theorem nfp_block{w w':World}{b k:Nat}(h:Nfp b k w)(hb:w'.heap[b]?=w.heap[b]?)(hs:w.heap.size≤w'.heap.size):Nfp b k w':=
 ⟨Nat.lt_of_lt_of_le h.1 hs,fun j=>(World.frozen?_of_block (a:=⟨b,j,none⟩) hb).trans (h.2 j),fun j hj=>let ⟨v,hv⟩:=h.3 j hj;⟨v,(World.cell?_of_block (a:=⟨b,j,none⟩) hb).trans hv⟩⟩
theorem Nfp.ext{b k:Nat}{w w':World}(h:Nfp b k w)(e:Ext w w'):Nfp b k w':=nfp_block h (e.block b h.1) e.size
theorem Nfp.set{b k:Nat}{w:World}(h:Nfp b k w)(p:Addr)(u:Value):Nfp b k (w.setCell p u):=⟨(h.n1.set p u).1,(h.n1.set p u).2,fun j hj=>let ⟨_,hv⟩:=h.3 j hj;cell?_setCell_some hv⟩
theorem Nfp.put{b k g:Nat}:∀{vs:List Value} {w:World} {o:Nat},Nfp b k w→Nfp b k (w.setCells g o vs)
 | [],_,_,h=>h
 | _::r,_,_,h=>Nfp.put (vs:=r) (h.set _ _)
theorem nfp_pair{w w':World}{b c k:Nat}{p:Pr}(h:Nfp b c w)(n:Nf1 b w')(hp:PrAt w' b (k*6) p)(ho:∀j,(j<k*6∨k*6+6≤j)→w'.cell? ⟨b,j,none⟩=w.cell? ⟨b,j,none⟩):Nfp b c w':=
 ⟨n.1,n.2,fun j hj=>by
  by_cases e:j<k*6∨k*6+6≤j
  ·rw[ho j e];exact h.3 j hj
  ·obtain⟨h0,h1,h2,h3,h4,h5⟩:=hp;have:j=k*6∨j=k*6+1∨j=k*6+2∨j=k*6+3∨j=k*6+4∨j=k*6+5:=by omega
   rcases this with rfl | rfl | rfl | rfl | rfl | rfl
   ·exact⟨_,h0⟩
   ·exact⟨_,h1⟩
   ·exact⟨_,h2⟩
   ·exact⟨_,h3⟩
   ·exact⟨_,h4⟩
   ·exact⟨_,h5⟩⟩
structure Rws(B:Nat)(w:World)(x:Hp)(br bc:Nat)(pb:Nat→Nat)(pa:Nat→Option Addr)(pk:Nat→Nat):Prop where
 r:∀i (hi:i<x.regs.length),WdAt w br (i*3) x.regs[i]
 s:∀q,q<x.cells.length→S7 w bc (q*8) (x.c q)
 p7:∀q,q<x.cells.length→w.cell? ⟨bc,q*8+7,none⟩=some (.slice (pa q) (x.c q).prs.length (pk q))
 p:∀q,q<x.cells.length→∀k,k<(x.c q).prs.length→PrAt w (pb q) (k*6) ((x.c q).p k)
 pl:∀q,q<x.cells.length→0<pk q→pa q=some ⟨pb q,0,none⟩∧Nfp (pb q) (pk q) w∧(pb q≠br∧pb q≠bc)∧B≤pb q
 nr:0<x.regs.length→Nf1 br w∧B≤br
 nc:0<x.cells.length→Nf1 bc w∧B≤bc
 d:0<x.cells.length→br≠bc
 dp:∀q q',q<x.cells.length→q'<x.cells.length→q≠q'→0<pk q→0<pk q'→pb q≠pb q'
 kp:∀q,q<x.cells.length→(x.c q).prs.length≤pk q
theorem Rws.pw{B:Nat}{w:World}{x:Hp}{br bc:Nat}{pb:Nat→Nat}{pa:Nat→Option Addr}{pk:Nat→Nat}(h:Rws B w x br bc pb pa pk){q:Nat}(hq:q<x.cells.length)(hl:0<(x.c q).prs.length):0<pk q:=Nat.lt_of_lt_of_le hl (h.kp q hq)
theorem nf1_block{w w':World}{b:Nat}(h:Nf1 b w)(hb:w'.heap[b]?=w.heap[b]?)(hs:w.heap.size≤w'.heap.size):Nf1 b w':=
 ⟨Nat.lt_of_lt_of_le h.1 hs,fun j=>(World.frozen?_of_block (a:=⟨b,j,none⟩) hb).trans (h.2 j)⟩
theorem Rws.same{B:Nat}{w w':World}{x:Hp}{br bc:Nat}{pb:Nat→Nat}{pa:Nat→Option Addr}{pk:Nat→Nat}(h:Rws B w x br bc pb pa pk)(hs:w.heap.size≤w'.heap.size)
  (hr:0<x.regs.length→w'.heap[br]?=w.heap[br]?) (hc:0<x.cells.length→w'.heap[bc]?=w.heap[bc]?) (hp:∀q,q<x.cells.length→0<pk q→w'.heap[pb q]?=w.heap[pb q]?):Rws B w' x br bc pb pa pk where
 r:=fun i hi=>(h.r i hi).of fun j _=>World.cell?_of_block (a:=⟨br,_,none⟩) (hr (by omega))
 s:=fun q hq=>(h.s q hq).of fun j _=>World.cell?_of_block (a:=⟨bc,_,none⟩) (hc (by omega))
 p7:=fun q hq=>(World.cell?_of_block (a:=⟨bc,_,none⟩) (hc (by omega))).trans (h.p7 q hq)
 p:=fun q hq k hk=>(h.p q hq k hk).of fun j _=>World.cell?_of_block (a:=⟨pb q,_,none⟩) (hp q hq (h.pw hq (by omega)))
 pl:=fun q hq hl=>let ⟨a,b,c⟩:=h.pl q hq hl;⟨a,nfp_block b (hp q hq hl) hs,c⟩
 nr:=fun hl=>⟨nf1_block (h.nr hl).1 (hr hl) hs,(h.nr hl).2⟩
 nc:=fun hl=>⟨nf1_block (h.nc hl).1 (hc hl) hs,(h.nc hl).2⟩
 d:=h.d
 dp:=h.dp
 kp:=h.kp
theorem Rws.ext{B:Nat}{w w':World}{x:Hp}{br bc:Nat}{pb:Nat→Nat}{pa:Nat→Option Addr}{pk:Nat→Nat}(h:Rws B w x br bc pb pa pk)(e:Ext w w'):Rws B w' x br bc pb pa pk:=
 h.same e.size (fun hl=>e.block _ (h.nr hl).1.1) (fun hl=>e.block _ (h.nc hl).1.1) (fun q hq hl=>e.block _ (h.pl q hq hl).2.1.1)
theorem Rws.only{S:Nat→Prop}{B:Nat}{w w':World}{x:Hp}{br bc:Nat}{pb:Nat→Nat}{pa:Nat→Option Addr}{pk:Nat→Nat}(h:Rws B w x br bc pb pa pk)(e:Only S w w')(hr:0<x.regs.length→¬S br)(hc:0<x.cells.length→¬S bc)(hp:∀q,q<x.cells.length→0<pk q→¬S (pb q)):Rws B w' x br bc pb pa pk:=
 h.same e.size (fun hl=>e.block _ (h.nr hl).1.1 (hr hl)) (fun hl=>e.block _ (h.nc hl).1.1 (hc hl)) (fun q hq hl=>e.block _ (h.pl q hq hl).2.1.1 (hp q hq hl))
theorem Rws.less{B C:Nat}{w:World}{x:Hp}{br bc:Nat}{pb:Nat→Nat}{pa:Nat→Option Addr}{pk:Nat→Nat}(h:Rws B w x br bc pb pa pk)(hc:C≤B):Rws C w x br bc pb pa pk:=
 ⟨h.r,h.s,h.p7,h.p,fun q hq hl=>let ⟨a,b,c,d⟩:=h.pl q hq hl;⟨a,b,c,Nat.le_trans hc d⟩,fun hl=>⟨(h.nr hl).1,Nat.le_trans hc (h.nr hl).2⟩,fun hl=>⟨(h.nc hl).1,Nat.le_trans hc (h.nc hl).2⟩,h.d,h.dp,h.kp⟩
theorem Rws.slW{B:Nat}{w:World}{x:Hp}{br bc:Nat}{pb:Nat→Nat}{pa:Nat→Option Addr}{pk:Nat→Nat}(h:Rws B w x br bc pb pa pk){ad:Option Addr}(kr:Nat)(ha:0<x.regs.length→ad=some ⟨br,0,none⟩)(hl:x.regs.length≤1048576):SlW w (.slice ad x.regs.length kr) x.regs:=
 ⟨_,_,rfl,by omega,fun i hi=>⟨br,0,ha (by omega),by rw[Nat.zero_add];exact h.r i hi⟩⟩
theorem Rws.slC{B:Nat}{w:World}{x:Hp}{br bc:Nat}{pb:Nat→Nat}{pa:Nat→Option Addr}{pk:Nat→Nat}(h:Rws B w x br bc pb pa pk){ad:Option Addr}(kc:Nat)(ha:0<x.cells.length→ad=some ⟨bc,0,none⟩)(hl:x.cells.length≤1048576)(h2:∀q,q<x.cells.length→(x.c q).prs.length≤200):SlC w (.slice ad x.cells.length kc) x.cells:=by
 refine⟨_,_,rfl,by omega,fun i hi=>⟨bc,0,ha (by omega),?_⟩⟩;rw[Nat.zero_add,Hp.c_eq x i hi];obtain⟨a0,a1,a2,a3,a4,a5,a6⟩:=h.s i hi;refine⟨_,a0,a1,a2,a3,a4,a5,a6,h.p7 i hi,_,_,rfl,by have:=h2 i hi;omega,fun k hk=>⟨pb i,0,(h.pl i hi (h.pw hi (by omega))).1,?_⟩⟩;rw[Nat.zero_add,Cl.p_eq _ _ hk];exact h.p i hi k hk
theorem cloneW_any(xs:List Wd)(v:Value)(w:World)(h:SlW w v xs)(hn:xs.length≤1048576):
  Calls Tryz.prog 210 #[v] w fun e w'=>∃v',e=.returned v'∧w'.ownsRow w.heap.size 152 3 v' xs.length (xs.flatMap fW)∧Ext w w':=by
 obtain⟨i0,hi0,hz0,hz1,hz2⟩:=info_parts infoWords;obtain⟨ad,cap,rfl,_,hx⟩:=h;have HX:=hide hx;clear hx;cases ad with
 | none=>
  have hl:xs.length=0:=by
   rcases Nat.eq_zero_or_pos xs.length with h | h
   ·exact h
   ·obtain⟨b,o,e,_⟩:=unhide HX 0 h;cases e
  have hx0:xs=[]:=List.eq_nil_of_length_eq_zero hl;subst hx0;clear HX hl;have hq:∀W,(binOp .eql 30 (.slice none 0 cap) (.slice none 0 0)).run Tryz.prog W=.ok (.bool true) W:=fun _=>by kernel_rfl
  simp only [List.length_nil];go_enter Tryz.func210,Tryz.ntmps210;go_wp2_with fail;go_ret;exact⟨_,rfl,World.ownsRow_nil _ _ _ _,Ext.refl _⟩
 | some ad=>
  have NW:=hide (show ∀W,Ext w W→∀j u,(xs.flatMap fW)[j]?=some u→W.cell? (ad.add j)=some u from fun W e j u hu=>by
   rcases Nat.eq_zero_or_pos xs.length with h | h
   ·rw[List.eq_nil_of_length_eq_zero h] at hu;simp at hu
   ·obtain⟨b,o,e0,_⟩:=unhide HX 0 h;cases e0;refine flat_news fW 3 (by omega) (fun _=>rfl) xs b o (fun i hi j hj=>?_) j u hu;obtain⟨b2,o2,e2,q⟩:=unhide HX i hi;cases e2;have q:=q.ext e;obtain⟨q0,q1,q2⟩:=q
    match j,hj with
    | 0,_=>exact q0
    | 1,_=>exact q1
    | 2,_=>exact q2
   )
  have V1:=hide (show ∀u,u∈xs.flatMap fW→u.oneCell'=true from flat_one fW (fun a u hu=>by simp [fW] at hu;rcases hu with e | e | e <;> subst e <;> rfl) xs);have hq:∀W n k,(binOp .eql 30 (.slice (some ad) n k) (.slice none 0 0)).run Tryz.prog W=.ok (.bool false) W:=fun _ _ _=>by kernel_rfl
  go_enter Tryz.func210,Tryz.ntmps210;go_wp2_with (at_builtin;refine wpList_append_own_at _ rfl _ _ 30 rfl w.heap.size 152 i0 (.agg #[iv 0,iv 0,iv 0]) 3 24 Tryz.underlying30 hi0 hz0 hz1 hz2 rfl (by decide) _ 0 [] rfl (World.ownsRow_made w #[] 0 (Nat.le_refl _) (by unfold maxLen;omega) rfl) ad xs.length cap (xs.flatMap fW) rfl (flat_len fW 3 (fun _=>rfl) xs) (unhide NW _ ((Ext.refl w).alloc _)) (unhide V1) (by unfold maxLen;omega) (by omega) (by simp) ?_);intro v' w' hown hgrow _ _;have FIN:=hide (And.intro hown (grown_ext ((Ext.refl w).alloc _) (World.ownsRow_made (e:=152) (size:=3) w #[] 0 (Nat.le_refl _) (by unfold maxLen;omega) rfl) (Nat.le_refl _) hgrow));clear hown hgrow;go_wp2_with fail;go_ret;exact⟨_,rfl,(unhide FIN).1,(unhide FIN).2⟩
theorem cloneP_any(xs:List Pr)(v:Value)(w:World)(h:SlP w v xs)(hn:xs.length≤1048576):
  Calls Tryz.prog 212 #[v] w fun e w'=>∃v',e=.returned v'∧w'.ownsRow w.heap.size 154 6 v' xs.length (xs.flatMap fP)∧Ext w w':=by
 obtain⟨i0,hi0,hz0,hz1,hz2⟩:=info_parts infoPairs;obtain⟨ad,cap,rfl,_,hx⟩:=h;have HX:=hide hx;clear hx;cases ad with
 | none=>
  have hl:xs.length=0:=by
   rcases Nat.eq_zero_or_pos xs.length with h | h
   ·exact h
   ·obtain⟨b,o,e,_⟩:=unhide HX 0 h;cases e
  have hx0:xs=[]:=List.eq_nil_of_length_eq_zero hl;subst hx0;clear HX hl;have hq:∀W,(binOp .eql 60 (.slice none 0 cap) (.slice none 0 0)).run Tryz.prog W=.ok (.bool true) W:=fun _=>by kernel_rfl
  simp only [List.length_nil];go_enter Tryz.func212,Tryz.ntmps212;go_wp2_with fail;go_ret;exact⟨_,rfl,World.ownsRow_nil _ _ _ _,Ext.refl _⟩
 | some ad=>
  have NW:=hide (show ∀W,Ext w W→∀j u,(xs.flatMap fP)[j]?=some u→W.cell? (ad.add j)=some u from fun W e j u hu=>by
   rcases Nat.eq_zero_or_pos xs.length with h | h
   ·rw[List.eq_nil_of_length_eq_zero h] at hu;simp at hu
   ·obtain⟨b,o,e0,_⟩:=unhide HX 0 h;cases e0;refine flat_news fP 6 (by omega) (fun _=>rfl) xs b o (fun i hi j hj=>?_) j u hu;obtain⟨b2,o2,e2,q⟩:=unhide HX i hi;cases e2;have q:=q.ext e;obtain⟨q0,q1,q2,q3,q4,q5⟩:=q
    match j,hj with
    | 0,_=>exact q0
    | 1,_=>exact q1
    | 2,_=>exact q2
    | 3,_=>exact q3
    | 4,_=>exact q4
    | 5,_=>exact q5
   )
  have V1:=hide (show ∀u,u∈xs.flatMap fP→u.oneCell'=true from flat_one fP (fun a u hu=>by simp [fP] at hu;rcases hu with e | e | e | e | e | e <;> subst e <;> rfl) xs);have hq:∀W n k,(binOp .eql 60 (.slice (some ad) n k) (.slice none 0 0)).run Tryz.prog W=.ok (.bool false) W:=fun _ _ _=>by kernel_rfl
  go_enter Tryz.func212,Tryz.ntmps212;go_wp2_with (at_builtin;refine wpList_append_own_at _ rfl _ _ 60 rfl w.heap.size 154 i0 (.agg #[iv 0,iv 0,iv 0,iv 0,iv 0,iv 0]) 6 48 Tryz.underlying60 hi0 hz0 hz1 hz2 rfl (by decide) _ 0 [] rfl (World.ownsRow_made w #[] 0 (Nat.le_refl _) (by unfold maxLen;omega) rfl) ad xs.length cap (xs.flatMap fP) rfl (flat_len fP 6 (fun _=>rfl) xs) (unhide NW _ ((Ext.refl w).alloc _)) (unhide V1) (by unfold maxLen;omega) (by omega) (by simp) ?_);intro v' w' hown hgrow _ _;have FIN:=hide (And.intro hown (grown_ext ((Ext.refl w).alloc _) (World.ownsRow_made (e:=154) (size:=6) w #[] 0 (Nat.le_refl _) (by unfold maxLen;omega) rfl) (Nat.le_refl _) hgrow));clear hown hgrow;go_wp2_with fail;go_ret;exact⟨_,rfl,(unhide FIN).1,(unhide FIN).2⟩
def CvAt(w:World)(b o:Nat)(z:Cl×Value):Prop:=∀j,j<8→w.cell? ⟨b,o+j,none⟩=(fC z)[j]?
theorem slC_pick{w:World}{v:Value}{xs:List Cl}(h:SlC w v xs):∃L:List (Cl×Value),L.map (·.1)=xs∧SlOf (CvAt w) 8 v L∧∀z,z∈L→SlP w z.2 z.1.prs:=by
 obtain⟨ad,cap,rfl,hl,hx⟩:=h
 have hv:∀i,∃vp,∀(hi:i<xs.length),∃b o,ad=some ⟨b,o,none⟩∧CvAt w b (o+i*8) (xs[i],vp)∧SlP w vp xs[i].prs:=fun i=>by
  by_cases hi:i<xs.length
  ·obtain⟨b,o,e,vp,p0,p1,p2,p3,p4,p5,p6,p7,hP⟩:=hx i hi;refine⟨vp,fun _=>⟨b,o,e,fun j hj=>?_,hP⟩⟩
   match j,hj with
   | 0,_=>exact p0
   | 1,_=>exact p1
   | 2,_=>exact p2
   | 3,_=>exact p3
   | 4,_=>exact p4
   | 5,_=>exact p5
   | 6,_=>exact p6
   | 7,_=>exact p7
  ·exact⟨.slice none 0 0,fun h=>absurd h hi⟩
 have hm:=fun i=>Classical.choose_spec (hv i)
 refine⟨(List.range xs.length).map (fun i=>(xs.getD i Cl0,Classical.choose (hv i))),?_,⟨ad,cap,by simp,by simpa using hl,fun i hi=>?_⟩,fun z hz=>?_⟩
 ·refine List.ext_getElem (by simp) (fun i h1 h2=>?_);simp [h2]
 ·have hi':i<xs.length:=by simpa using hi
  obtain⟨b,o,e,c,_⟩:=hm i hi';refine⟨b,o,e,?_⟩;simp only [List.getElem_map,List.getElem_range];have e2:xs.getD i Cl0=xs[i]:=by simp [hi']
  rw[e2];exact c
 ·obtain⟨i,hi,rfl⟩:=List.mem_map.1 hz;have hi':i<xs.length:=by simpa using hi
  obtain⟨b,o,e,_,c⟩:=hm i hi';have e2:xs.getD i Cl0=xs[i]:=by simp [hi']
  simp only [e2];exact c
theorem slP_one{w:World}{v:Value}{xs:List Pr}(h:SlP w v xs):v.oneCell'=true:=by obtain⟨ad,cap,rfl,_⟩:=h;rfl
theorem cloneC_any(L:List (Cl×Value))(v:Value)(w:World)(h:SlOf (CvAt w) 8 v L)(h1:∀z,z∈L→z.2.oneCell'=true)(hn:L.length≤1048576):
  Calls Tryz.prog 211 #[v] w fun e w'=>∃v',e=.returned v'∧w'.ownsRow w.heap.size 62 8 v' L.length (L.flatMap fC)∧Ext w w':=by
 obtain⟨i0,hi0,hz0,hz1,hz2⟩:=info_parts infoCells;obtain⟨ad,cap,rfl,_,hx⟩:=h;have HX:=hide hx
 have V1:=hide (show ∀u,u∈L.flatMap fC→u.oneCell'=true from fun u hu=>by
  obtain⟨a,h2,hu⟩:=List.mem_flatMap.1 hu;simp [fC] at hu;rcases hu with e | e | e | e | e | e | e | e <;> subst e <;> first | rfl | exact h1 a h2)
 clear hx h1;cases ad with
 | none=>
  have hl:L.length=0:=by
   rcases Nat.eq_zero_or_pos L.length with h | h
   ·exact h
   ·obtain⟨b,o,e,_⟩:=unhide HX 0 h;cases e
  have hx0:L=[]:=List.eq_nil_of_length_eq_zero hl;subst hx0;clear HX hl V1;have hq:∀W,(binOp .eql 31 (.slice none 0 cap) (.slice none 0 0)).run Tryz.prog W=.ok (.bool true) W:=fun _=>by kernel_rfl
  simp only [List.length_nil];go_enter Tryz.func211,Tryz.ntmps211;go_wp2_with fail;go_ret;exact⟨_,rfl,World.ownsRow_nil _ _ _ _,Ext.refl _⟩
 | some ad=>
  have NW:=hide (show ∀W,Ext w W→∀j u,(L.flatMap fC)[j]?=some u→W.cell? (ad.add j)=some u from fun W e j u hu=>by
   rcases Nat.eq_zero_or_pos L.length with h | h
   ·rw[List.eq_nil_of_length_eq_zero h] at hu;simp at hu
   ·obtain⟨b,o,e0,_⟩:=unhide HX 0 h;cases e0;refine flat_news fC 8 (by omega) (fun _=>rfl) L b o (fun i hi j hj=>?_) j u hu;obtain⟨b2,o2,e2,q⟩:=unhide HX i hi;cases e2;have:=q j hj;rw[←this];cases hc:w.cell? ⟨b,o+i*8+j,none⟩ with
    | none=>rw[this] at hc;match j,hj with | 0,_ | 1,_ | 2,_ | 3,_ | 4,_ | 5,_ | 6,_ | 7,_=>simp [fC] at hc
    | some y=>exact e.keep hc)
  have hq:∀W n k,(binOp .eql 31 (.slice (some ad) n k) (.slice none 0 0)).run Tryz.prog W=.ok (.bool false) W:=fun _ _ _=>by kernel_rfl
  go_enter Tryz.func211,Tryz.ntmps211;go_wp2_with (at_builtin;refine wpList_append_own_at _ rfl _ _ 31 rfl w.heap.size 62 i0 (.agg #[iv 0,iv 0,iv 0,iv 0,iv 0,iv 0,iv 0,.slice none 0 0]) 8 80 Tryz.underlying31 hi0 hz0 hz1 hz2 rfl (by decide) _ 0 [] rfl (World.ownsRow_made w #[] 0 (Nat.le_refl _) (by unfold maxLen;omega) rfl) ad L.length cap (L.flatMap fC) rfl (flat_len fC 8 (fun _=>rfl) L) (unhide NW _ ((Ext.refl w).alloc _)) (unhide V1) (by unfold maxLen;omega) (by omega) (by simp) ?_);intro v' w' hown hgrow _ _;have FIN:=hide (And.intro hown (grown_ext ((Ext.refl w).alloc _) (World.ownsRow_made (e:=62) (size:=8) w #[] 0 (Nat.le_refl _) (by unfold maxLen;omega) rfl) (Nat.le_refl _) hgrow));clear hown hgrow;go_wp2_with fail;go_ret;exact⟨_,rfl,(unhide FIN).1,(unhide FIN).2⟩
def vaddr:Value→Option Addr
 | .slice a _ _=>a
 | _=>none
def vcap:Value→Nat
 | .slice _ _ k=>k
 | _=>0
def vblk(v:Value):Nat:=v.ownBlock.getD 0
theorem own_form{w:World}{B:Nat}{t:TypeId}{c n:Nat}{v:Value}{xs:List Value}(h:w.ownsRow B t c v n xs):v=.slice (vaddr v) n (vcap v)∧(0<n→vaddr v=some ⟨vblk v,0,none⟩∧v.ownBlock=some (vblk v)):=by
 rcases h.2 with⟨rfl,rfl⟩ | ⟨g,cap,cur,rfl,_⟩
 ·exact⟨rfl,fun h=>by omega⟩
 ·exact⟨rfl,fun _=>⟨rfl,rfl⟩⟩
theorem own_nf{w:World}{B:Nat}{t:TypeId}{c n:Nat}{v:Value}{xs:List Value}(h:w.ownsRow B t c v n xs)(hn:0<n):Nf1 (vblk v) w∧B≤vblk v:=by
 obtain⟨e,h2⟩:=own_form h;obtain⟨h3,h4⟩:=h2 hn;refine⟨⟨(h.lt _ h4).2,fun j=>?_⟩,(h.lt _ h4).1⟩;rw[e,h3] at h;exact World.ownsRow.frozenAt h j
theorem own_at{w:World}{B:Nat}{t:TypeId}{c:Nat}{v:Value}{α:Type}{f:α→List Value}(hc:∀a,(f a).length=c){L:List α}(h:w.ownsRow B t c v L.length (L.flatMap f))(i:Nat)(hi:i<L.length)(j:Nat)(hj:j<c):w.cell? ⟨vblk v,i*c+j,none⟩=(f L[i])[j]?:=by
 obtain⟨e,h2⟩:=own_form h;obtain⟨h3,h4⟩:=h2 (by omega);obtain⟨ad,cap,e2,_,hx⟩:=own_cells hc h;obtain⟨g,e3,_,_,q⟩:=hx i hi;have:vblk v=g:=by rw[e2,e3];rfl
 rw[this];have:=q j hj
 rwa [Nat.zero_add] at this
theorem own_kp{w:World}{B:Nat}{t sz:Nat}{v:Value}{n:Nat}{xs:List Value}(h:w.ownsRow B t sz v n xs):n≤vcap v:=by
 rcases h.2 with⟨rfl,h1⟩ | ⟨g,cap,cur,rfl,_,_,hn,_⟩
 ·omega
 ·exact hn
theorem own_kw{w:World}{B:Nat}{t c:Nat}{v:Value}{n:Nat}{xs:List Value}(h:w.ownsRow B t c v n xs)(hk:0<vcap v):vaddr v=some ⟨vblk v,0,none⟩∧v.ownBlock=some (vblk v)∧Nf1 (vblk v) w∧(∀j,j<vcap v*c→∃u,w.cell? ⟨vblk v,j,none⟩=some u)∧B≤vblk v:=by
 rcases h.2 with⟨rfl,h1⟩ | ⟨g,cap,cur,rfl,hb,hg,hn,_,hs,_⟩
 ·simp [vcap] at hk
 ·refine⟨rfl,rfl,⟨(Array.getElem?_eq_some_iff.1 hg).1,fun j=>World.ownsRow.frozenAt h j⟩,fun j hj=>?_,hb⟩;have hj':j<cur.size:=by rw[hs];exact hj
  exact⟨cur[j],by rw[show vblk (.slice (some ⟨g,0,none⟩) n cap)=g from rfl,cell_of_row w g j cur _ _ hg];exact Array.getElem?_eq_getElem hj'⟩
theorem own_pw{w:World}{B:Nat}{v:Value}{n:Nat}{xs:List Value}(h:w.ownsRow B 154 6 v n xs)(hk:0<vcap v):vaddr v=some ⟨vblk v,0,none⟩∧v.ownBlock=some (vblk v)∧Nfp (vblk v) (vcap v) w∧B≤vblk v:=by
 rcases h.2 with⟨rfl,h1⟩ | ⟨g,cap,cur,rfl,hb,hg,hn,_,hs,_⟩
 ·simp [vcap] at hk
 ·refine⟨rfl,rfl,⟨(Array.getElem?_eq_some_iff.1 hg).1,fun j=>?_,fun j hj=>?_⟩,hb⟩
  ·exact World.ownsRow.frozenAt h j
  ·have hj':j<cur.size:=by rw[hs];exact hj
   exact⟨cur[j],by rw[show vblk (.slice (some ⟨g,0,none⟩) n cap)=g from rfl,cell_of_row w g j cur _ _ hg];exact Array.getElem?_eq_getElem hj'⟩
theorem Rws.of{B:Nat}{w:World}{x:Hp}{bc:Nat}{vr:Value}{pv:Nat→Value}(hr:w.ownsRow B 152 3 vr x.regs.length (x.regs.flatMap fW))(hs:∀q,q<x.cells.length→S7 w bc (q*8) (x.c q))(h7:∀q,q<x.cells.length→w.cell? ⟨bc,q*8+7,none⟩=some (pv q))(hc:0<x.cells.length→Nf1 bc w∧B≤bc)(hd:0<x.cells.length→vblk vr≠bc)
  (hp:∀q,q<x.cells.length→w.ownsRow B 154 6 (pv q) (x.c q).prs.length ((x.c q).prs.flatMap fP)∧∀b,(pv q).ownBlock=some b→b≠vblk vr∧b≠bc) (hdp:∀q q',q<x.cells.length→q'<x.cells.length→q≠q'→∀b,(pv q).ownBlock=some b→(pv q').ownBlock≠some b) :
  Rws B w x (vblk vr) bc (fun q=>vblk (pv q)) (fun q=>vaddr (pv q)) (fun q=>vcap (pv q)) where
 r:=fun i hi=>⟨own_at (f:=fW) (fun _=>rfl) hr i hi 0 (by omega),own_at (f:=fW) (fun _=>rfl) hr i hi 1 (by omega),own_at (f:=fW) (fun _=>rfl) hr i hi 2 (by omega)⟩
 s:=hs
 p7:=fun q hq=>by rw[h7 q hq,←(own_form (hp q hq).1).1]
 p:=fun q hq k hk=>by
  have:=own_at (f:=fP) (fun _=>rfl) (hp q hq).1 k hk;rw[Cl.p_eq _ _ hk] at this;exact⟨this 0 (by omega),this 1 (by omega),this 2 (by omega),this 3 (by omega),this 4 (by omega),this 5 (by omega)⟩
 pl:=fun q hq hl=>by
  obtain⟨h1,h2,h3,h4⟩:=own_pw (hp q hq).1 hl;exact⟨h1,h3,(hp q hq).2 _ h2,h4⟩
 nr:=fun hl=>own_nf hr hl
 nc:=hc
 d:=hd
 dp:=fun q q' hq hq' hne hl hl' e=>by
  have h1:=(own_pw (hp q hq).1 hl).2.1;have h2:=(own_pw (hp q' hq').1 hl').2.1;exact hdp q q' hq hq' hne _ h1 (by rw[h2,e])
 kp:=fun q hq=>own_kp (hp q hq).1
structure FAt(w:World)(b:Nat)(x:Hp)(base:Nat)(vf:Value)(F:List Int):Prop where
 L:LsAt w base b 14 vf F
 O:Ho F
 P:F.Perm (frees x x.cells.length)
theorem FAt.ext{w w':World}{b:Nat}{x:Hp}{base:Nat}{vf:Value}{F:List Int}(h:FAt w b x base vf F)(e:Ext w w'):FAt w' b x base vf F:=⟨h.L.ext e,h.O,h.P⟩
theorem frees_mem(x:Hp)(k:Nat)(z:Int):z∈frees x k↔∃i,i<k∧(x.c i).st=0∧(i:Int)=z:=by
 unfold frees;rw[valsTo_mem];simp [isSt,castI]
def Grw(w:World)(B:Nat)(v:Value)(G:List Int):Prop:=
 (v=.slice none 0 0∧G=[])∨∃gb go cap cur,v=.slice (some ⟨gb,go,none⟩) G.length cap∧B≤gb∧w.heap[gb]?=some (.cells cur 3 (0,0))∧G.length≤cap∧go+cap≤cur.size∧(cur.toList.drop go).take G.length=G.map iv
theorem Grw.lt{w:World}{B:Nat}{v:Value}{G:List Int}(h:Grw w B v G):∀k,v.ownBlock=some k→B≤k∧k<w.heap.size:=by
 intro k hk;rcases h with⟨rfl,_⟩ | ⟨gb,go,cap,cur,rfl,hb,hg,_⟩
 ·simp [Value.ownBlock] at hk
 ·simp [Value.ownBlock] at hk;subst hk;exact⟨hb,(Array.getElem?_eq_some_iff.1 hg).1⟩
theorem Grw.block{w w':World}{B:Nat}{v:Value}{G:List Int}(h:Grw w B v G)(hb:∀k,v.ownBlock=some k→w'.heap[k]?=w.heap[k]?):Grw w' B v G:=by
 rcases h with h | ⟨gb,go,cap,cur,rfl,h1,hg,h2⟩
 ·exact .inl h
 ·exact .inr ⟨gb,go,cap,cur,rfl,h1,by rw[hb gb rfl];exact hg,h2⟩
theorem Grw.form{w:World}{B:Nat}{v:Value}{G:List Int}(h:Grw w B v G):∃a k,v=.slice a G.length k:=by
 rcases h with⟨rfl,rfl⟩ | ⟨gb,go,cap,cur,rfl,_⟩
 ·exact⟨none,0,rfl⟩
 ·exact⟨_,_,rfl⟩
theorem Grw.of{w:World}{B:Nat}{v:Value}{G:List Int}(h:w.ownsRow B 3 1 v G.length (G.map iv)):Grw w B v G:=by
 rcases h.2 with⟨h0,h1⟩ | ⟨g,cap,cur,h0,hb,hg,hn,_,hs,ht⟩
 ·exact .inl ⟨h0,List.eq_nil_of_length_eq_zero h1⟩
 ·exact .inr ⟨g,0,cap,cur,h0,hb,hg,hn,by omega,by simpa using ht⟩
theorem Grw.at{w:World}{B:Nat}{a:Option Addr}{k:Nat}{G:List Int}(h:Grw w B (.slice a G.length k) G)(i:Nat)(hi:i<G.length):∃gb go,a=some ⟨gb,go,none⟩∧w.cell? ⟨gb,go+i,none⟩=some (iv G[i])∧B≤gb:=by
 rcases h with⟨_,rfl⟩ | ⟨gb,go,cap,cur,e,hb,hg,hn,hs,ht⟩
 ·simp at hi
 ·simp only [Value.slice.injEq] at e;refine⟨gb,go,e.1,?_,hb⟩;rw[cell_of_row w gb (go+i) cur _ _ hg,←Array.getElem?_toList];have h1:((cur.toList.drop go).take G.length)[i]?=(G.map iv)[i]?:=by rw[ht]
  rw[List.getElem?_take_of_lt hi,List.getElem?_drop] at h1;rw[h1];simp [hi]
structure CS(x:Hp)(w3 w6 wr:World)(vr vc vg:Value)(k:Nat)(L:List (Cl×Value)):Prop where
 own:wr.ownsRow w6.heap.size 62 8 vc k (L.flatMap fC)
 eq:L.map (·.1)=x.cells.take k
 prs:∀z,z∈L→wr.ownsRow w6.heap.size 154 6 z.2 z.1.prs.length (z.1.prs.flatMap fP)∧∀q,z.2.ownBlock=some q→vc.ownBlock≠some q
 dis:∀i j (hi:i<L.length) (hj:j<L.length),i≠j→∀q,L[i].2.ownBlock=some q→L[j].2.ownBlock≠some q
 bx:HBox wr w3.heap.size x vr vc vg
 fz:∀o,wr.frozen? ⟨w3.heap.size,o,none⟩=false
 on:Only (fun q=>q=w3.heap.size) w6 wr
 ex:Ext w3 wr
 lt:w3.heap.size<w6.heap.size
theorem CS.ext{x:Hp}{w3 w6 wr w':World}{vr vc vg:Value}{k:Nat}{L:List (Cl×Value)}(h:CS x w3 w6 wr vr vc vg k L)(e:Ext wr w'):CS x w3 w6 w' vr vc vg k L where
 own:=ownsRow_of_block h.own (fun q hq=>e.block q (h.own.lt q hq).2)
 eq:=h.eq
 prs:=fun z hz=>⟨ownsRow_of_block (h.prs z hz).1 (fun q hq=>e.block q ((h.prs z hz).1.lt q hq).2),(h.prs z hz).2⟩
 dis:=h.dis
 bx:=h.bx.ext e
 fz:=fun o=>((bcell e).2 _ o (Nat.lt_of_lt_of_le h.lt h.on.size)).trans (h.fz o)
 on:=h.on.trans ⟨e.os,e.tape,e.output,e.size,fun q hq _=>e.block q hq⟩
 ex:=h.ex.trans e
 lt:=h.lt
theorem CS.len{x:Hp}{w3 w6 wr:World}{vr vc vg:Value}{k:Nat}{L:List (Cl×Value)}(h:CS x w3 w6 wr vr vc vg k L)(hk:k≤x.cells.length):L.length=k:=by
 have:=congrArg List.length h.eq
 simpa [Nat.min_eq_left hk] using this
theorem CS.push{x:Hp}{w3 w6 W w5:World}{vr vc vg v':Value}{k B7 g:Nat}{L:List (Cl×Value)}{z:Cl×Value}(h:CS x w3 w6 W vr vc vg k L)(hk:k<x.cells.length)(hz:z.1=x.cells[k])(hg:W.grownBy w5 vc.ownBlock)(h5:w5.ownsRow w6.heap.size 62 8 v' (k+1) (L.flatMap fC++fC z))
  (hv':v'.ownBlock=some g) (hat:vc.ownBlock=some g∨g=W.heap.size) (hp:W.ownsRow B7 154 6 z.2 z.1.prs.length (z.1.prs.flatMap fP)) (h7:w6.heap.size≤B7) (hvn:∀q,vc.ownBlock=some q→q<B7) (hvp:∀y,y∈L→∀q,y.2.ownBlock=some q→q<B7) :
  CS x w3 w6 (w5.setCell ⟨w3.heap.size,4,none⟩ v') vr v' vg (k+1) (L++[z]):=by
 have hbW:w3.heap.size<W.heap.size:=Nat.lt_of_lt_of_le h.lt h.on.size;obtain⟨b1,b2,b3,b4,b5,b6⟩:=box_push (o:=4) (u:=v') (bg:=w3.heap.size) h.lt h.ex h.own (Nat.le_refl _) hbW hg h5
 have key:∀y,y∈L++[z]→W.ownsRow w6.heap.size 154 6 y.2 y.1.prs.length (y.1.prs.flatMap fP)∧∀q,y.2.ownBlock=some q→vc.ownBlock≠some q:=fun y hy=>by
  rcases List.mem_append.1 hy with q | q
  ·exact h.prs y q
  ·rw[List.mem_singleton] at q;subst q;exact⟨own_less hp h7,fun q e e'=>by have:=(hp.lt q e).1;have:=hvn q e';omega⟩
 have hb:HBox w5 w3.heap.size x vr vc vg:=h.bx.block (hg.block w3.heap.size hbW (fun e=>by have:=(h.own.lt _ e.symm).1;have:=h.lt;omega));refine⟨by simpa using b1,?_,fun y hy=>?_,fun i j hi hj hne q e e'=>?_,hb.set4 v',fun o=>(b4 o).trans (h.fz o),?_,b2,h.lt⟩
 ·rw[List.map_append,h.eq,List.take_succ_eq_append_getElem hk];simp [hz]
 ·have kk:=key y hy;refine⟨ownsRow_of_block kk.1 (fun q hq=>b6 q (kk.1.lt q hq).2 (fun e=>by have:=(kk.1.lt q hq).1;have:=h.lt;omega) (kk.2 q hq)),fun q e e'=>?_⟩;rw[hv'] at e'
  injection e' with e'
  subst e';rcases hat with r | r
  ·exact kk.2 g e r
  ·have:=(kk.1.lt g e).2;omega
 ·simp only [List.getElem_append] at e e';simp at hi hj;by_cases hi':i<L.length <;> by_cases hj':j<L.length
  ·simp only [hi',hj',dite_true] at e e';exact h.dis i j hi' hj' hne q e e'
  ·simp only [hi',hj',dite_true,dite_false,List.getElem_singleton] at e e';have:=hvp _ (List.getElem_mem hi') q e;have:=(hp.lt q e').1;omega
  ·simp only [hi',hj',dite_true,dite_false,List.getElem_singleton] at e e';have:=hvp _ (List.getElem_mem hj') q e';have:=(hp.lt q e).1;omega
  ·omega
 ·exact⟨hg.os.trans h.on.os,hg.tape.trans h.on.tape,hg.output.trans h.on.output,by have:=hg.size;have:=h.on.size;simp only [World.setCell,Array.size_modify];omega,fun q hq hne=>(b6 q (Nat.lt_of_lt_of_le hq h.on.size) hne (fun e=>by have:=(h.own.lt q e).1;omega)).trans (h.on.block q hq hne)⟩
structure CB(wr W:World)(c:Cl)(ap:Option Addr)(kp:Nat)(v:Value):Prop where
 p7:W.cell? ⟨wr.heap.size,7,none⟩=some (.slice ap c.prs.length kp)
 n:S7 W (wr.heap.size+1) 0 c
 n7:W.cell? ⟨wr.heap.size+1,7,none⟩=some v
 f:∀o,W.frozen? ⟨wr.heap.size+1,o,none⟩=false
 ex:Ext wr W
theorem CB.ext{wr W W':World}{c:Cl}{ap:Option Addr}{kp:Nat}{v:Value}(h:CB wr W c ap kp v)(e:Ext W W'):CB wr W' c ap kp v:=
 ⟨e.keep h.p7,h.n.of fun _ _=>e.cell (p:=⟨wr.heap.size+1,_,none⟩) (show wr.heap.size+1<W.heap.size from cell_lt h.n7),e.keep h.n7,fun o=>((bcell e).2 _ o (cell_lt h.n7)).trans (h.f o),h.ex.trans e⟩
theorem CB.push{wr W w5:World}{c:Cl}{ap:Option Addr}{kp:Nat}{v v':Value}{B7 n n':Nat}{xs ys:List Value}(h:CB wr W c ap kp v)(hW:W.ownsRow B7 154 6 v n xs)(h7:wr.heap.size+1<B7)(hg:W.grownBy w5 v.ownBlock)(h5:w5.ownsRow B7 154 6 v' n' ys):
  (w5.setCell ⟨wr.heap.size+1,7,none⟩ v').ownsRow B7 154 6 v' n' ys∧CB wr (w5.setCell ⟨wr.heap.size+1,7,none⟩ v') c ap kp v':=by
 obtain⟨b1,b2,b3,b4,b5,b6⟩:=box_push (o:=7) (u:=v') (bg:=wr.heap.size+1) h7 h.ex hW (Nat.le_succ _) (cell_lt h.n7) hg h5;refine⟨b1,?_,h.n.of fun j hj=>b3 _ (by omega),b5 _ h.n7,fun o=>(b4 o).trans (h.f o),b2⟩;exact(World.cell?_of_block (a:=⟨wr.heap.size,7,none⟩) (b6 wr.heap.size (cell_lt h.p7) (by omega) (fun e=>by have:=(hW.lt _ e).1;omega))).trans h.p7
theorem CB.start(wr:World)(c:Cl)(ap:Option Addr)(kp:Nat)(t1 t2:TypeId):CB wr ((wr.alloc (.cells #[iv c.st,iv c.kind,iv c.weak,iv c.last,iv c.born,iv c.color,iv c.to,.slice ap c.prs.length kp] t1)).alloc (.cells #[iv c.st,iv c.kind,iv c.weak,iv c.last,iv c.born,iv c.color,iv c.to,.slice none 0 0] t2)) c ap kp (.slice none 0 0):=
 ⟨by simp [go_sem],⟨by simp [go_sem],by simp [go_sem],by simp [go_sem],by simp [go_sem],by simp [go_sem],by simp [go_sem],by simp [go_sem]⟩,by simp [go_sem],fun o=>by simp [go_sem],((Ext.refl wr).alloc _).alloc _⟩
theorem own_cap{w:World}{B:Nat}{t sz:Nat}{a:Option Addr}{n k:Nat}{xs:List Value}(h:w.ownsRow B t sz (.slice a n k) n xs):n≤k:=by
 rcases h.2 with⟨h0,h1⟩ | ⟨g,cap,cur,h0,_,_,hn,_⟩
 ·omega
 ·simp only [Value.slice.injEq] at h0;omega
structure GSep(x:Hp)(role:Nat→Nat)(g br bc:Nat)(pb pk:Nat→Nat)(vg:Value):Prop where
 g:role g=0
 r:0<x.regs.length→role br=2
 c:0<x.cells.length→role bc=3
 y:∀q,vg.ownBlock=some q→role q=4
 p:∀q,q<x.cells.length→0<pk q→role (pb q)=6+q
structure Ccp(B:Nat)(w:World)(ac:Option Addr)(bc kc:Nat)(role:Nat→Nat):Prop where
 ad:ac=some ⟨bc,0,none⟩
 ro:role bc=3
 nf:Nf1 bc w
 cp:∀j,j<kc*8→∃v,w.cell? ⟨bc,j,none⟩=some v
 lo:B≤bc
theorem Ccp.cells{B:Nat}{w w':World}{ac:Option Addr}{bc kc:Nat}{role role':Nat→Nat}(h:Ccp B w ac bc kc role)(hr:role' bc=role bc)(n:Nf1 bc w')(c:∀j v,j<kc*8→w.cell? ⟨bc,j,none⟩=some v→∃u,w'.cell? ⟨bc,j,none⟩=some u):Ccp B w' ac bc kc role':=
 ⟨h.ad,hr.trans h.ro,n,fun j hj=>let ⟨v,hv⟩:=h.cp j hj;c j v hj hv,h.lo⟩
theorem Ccp.block{B:Nat}{w w':World}{ac:Option Addr}{bc kc:Nat}{role role':Nat→Nat}(h:Ccp B w ac bc kc role)(hr:role' bc=role bc)(hb:w'.heap[bc]?=w.heap[bc]?)(hs:w.heap.size≤w'.heap.size):Ccp B w' ac bc kc role':=
 h.cells hr (nf1_block h.nf hb hs) (fun j v _ hv=>⟨v,(World.cell?_of_block (a:=⟨bc,j,none⟩) hb).trans hv⟩)
theorem S7.some{w:World}{b o:Nat}{c:Cl}(h:S7 w b o c)(j:Nat)(hj:j<7):∃v,w.cell? ⟨b,o+j,none⟩=some v:=by
 obtain⟨h0,h1,h2,h3,h4,h5,h6⟩:=h
 match j,hj with
 | 0,_=>exact⟨_,h0⟩
 | 1,_=>exact⟨_,h1⟩
 | 2,_=>exact⟨_,h2⟩
 | 3,_=>exact⟨_,h3⟩
 | 4,_=>exact⟨_,h4⟩
 | 5,_=>exact⟨_,h5⟩
 | 6,_=>exact⟨_,h6⟩
structure GAt[Inhabited ProtD](B:Nat)(w:World)(g:Nat)(x:Hp)(ar:Option Addr)(kr:Nat)(ac:Option Addr)(kc:Nat)(vg:Value)(br bc:Nat)(pb:Nat→Nat)(pa:Nat→Option Addr)(pk:Nat→Nat)(role:Nat→Nat):Prop where
 bx:HBox w g x (.slice ar x.regs.length kr) (.slice ac x.cells.length kc) vg
 nf:Nf1 g w
 lo:B≤g
 ha:0<x.regs.length→ar=some ⟨br,0,none⟩
 hc:0<x.cells.length→ac=some ⟨bc,0,none⟩
 rw:Rws B w x br bc pb pa pk
 gr:Grw w B vg x.gray
 sp:GSep x role g br bc pb pk vg
 kl:x.cells.length≤kc
 pr:Prt w role
 cc:0<kc→Ccp B w ac bc kc role
theorem GAt.ext[Inhabited ProtD]{B:Nat}{w w':World}{g:Nat}{x:Hp}{ar:Option Addr}{kr:Nat}{ac:Option Addr}{kc:Nat}{vg:Value}{br bc:Nat}{pb:Nat→Nat}{pa:Nat→Option Addr}{pk:Nat→Nat}{role:Nat→Nat}(h:GAt B w g x ar kr ac kc vg br bc pb pa pk role)(e:Ext w w'):GAt B w' g x ar kr ac kc vg br bc pb pa pk role:=
 ⟨h.bx.ext e,h.nf.ext e,h.lo,h.ha,h.hc,h.rw.ext e,h.gr.block (fun q hq=>e.block q (h.gr.lt q hq).2),h.sp,h.kl,h.pr.of (fun q hq _=>e.block q hq) (fun _ _ h=>h),fun hk=>(h.cc hk).block rfl (e.block bc (h.cc hk).nf.1) e.size⟩
theorem GAt.start[Inhabited ProtD](hz:∀q,(default:ProtD).z q=none){x:Hp}{w3 w6 wr w7:World}{B:Nat}{ar:Option Addr}{kr:Nat}{ac:Option Addr}{kc:Nat}{vg0 vg:Value}{L:List (Cl×Value)}(h:CS x w3 w6 wr (.slice ar x.regs.length kr) (.slice ac x.cells.length kc) vg0 x.cells.length L)(hr:wr.ownsRow (w3.heap.size+1) 152 3 (.slice ar x.regs.length kr) x.regs.length (x.regs.flatMap fW))(hr6:∀q,(Value.slice ar x.regs.length kr).ownBlock=some q→q<w6.heap.size)
  (h0:0<x.regs.length) (hB:B≤w3.heap.size) (o7:Only (fun q=>q=w3.heap.size) wr w7) (hb7:HBox w7 w3.heap.size x (.slice ar x.regs.length kr) (.slice ac x.cells.length kc) vg) (f7:Nf1 w3.heap.size w7) (hg:w7.ownsRow wr.heap.size 3 1 vg x.gray.length (x.gray.map iv)) :
  ∃br bc pb pa pk role,GAt B w7 w3.heap.size x ar kr ac kc vg br bc pb pa pk role:=by
 have hll:L.length=x.cells.length:=h.len (Nat.le_refl _);have eL:L.map (·.1)=x.cells:=by rw[h.eq,List.take_length]
 have hlt:=h.lt;have hon:=h.on.size
 have l1:∀q (hq:q<x.cells.length),(L.getD q (Cl0,.slice none 0 0))∈L∧(L.getD q (Cl0,.slice none 0 0)).1=x.c q∧(L.getD q (Cl0,.slice none 0 0))=L[q]'(by omega):=fun q hq=>by
  have e0:L.getD q (Cl0,.slice none 0 0)=L[q]'(by omega):=by simp [hll,hq]
  refine⟨by rw[e0];exact List.getElem_mem _,?_,e0⟩;have e:x.cells[q]=(L.map (·.1))[q]'(by simpa [hll] using hq):=by simp [eL]
  rw[←Hp.c_eq x q hq,e,e0];simp
 have own8:0<x.cells.length→Nf1 (vblk (.slice ac x.cells.length kc)) wr∧w6.heap.size≤vblk (.slice ac x.cells.length kc):=fun hn=>own_nf h.own hn
 have cell8:∀q,q<x.cells.length→∀j,j<8→wr.cell? ⟨vblk (.slice ac x.cells.length kc),q*8+j,none⟩=(fC (L.getD q (Cl0,.slice none 0 0)))[j]?:=fun q hq j hj=>by
  have:=own_at (f:=fC) (fun _=>rfl) (L:=L) (by rw[hll];exact h.own) q (by omega) j hj;rw[this,(l1 q hq).2.2]
 have hbr:=own_nf hr h0;have hbr6:vblk (.slice ar x.regs.length kr)<w6.heap.size:=hr6 _ ((own_form hr).2 h0).2
 have prs:∀q,q<x.cells.length→wr.ownsRow w6.heap.size 154 6 (L.getD q (Cl0,.slice none 0 0)).2 (x.c q).prs.length ((x.c q).prs.flatMap fP)∧∀b,(L.getD q (Cl0,.slice none 0 0)).2.ownBlock=some b→(Value.slice ac x.cells.length kc).ownBlock≠some b:=fun q hq=>by
  have:=h.prs _ (l1 q hq).1;rw[(l1 q hq).2.1] at this;exact this
 have dis:∀q q',q<x.cells.length→q'<x.cells.length→q≠q'→∀b,(L.getD q (Cl0,.slice none 0 0)).2.ownBlock=some b→(L.getD q' (Cl0,.slice none 0 0)).2.ownBlock≠some b:=fun q q' hq hq' hne b hb=>by
  rw[(l1 q hq).2.2] at hb;rw[(l1 q' hq').2.2];exact h.dis q q' (by omega) (by omega) hne b hb
 have RW:=Rws.of (B:=w3.heap.size+1) (w:=wr) (x:=x) (vr:=.slice ar x.regs.length kr) (bc:=vblk (.slice ac x.cells.length kc)) (pv:=fun q=>(L.getD q (Cl0,.slice none 0 0)).2) hr (fun q hq=>by
   rw[←(l1 q hq).2.1];have:=cell8 q hq
   exact⟨this 0 (by omega),this 1 (by omega),this 2 (by omega),this 3 (by omega),this 4 (by omega),this 5 (by omega),this 6 (by omega)⟩) (fun q hq=>cell8 q hq 7 (by omega)) (fun hn=>⟨(own8 hn).1,by have:=(own8 hn).2;omega⟩) (fun hn=>by have:=(own8 hn).2;omega) (fun q hq=>⟨own_less (prs q hq).1 (by omega),fun b hb=>⟨by have:=((prs q hq).1.lt b hb).1;omega,fun e=>by
    have hn:0<x.cells.length:=by omega
    exact(prs q hq).2 b hb (by rw[((own_form h.own).2 hn).2,e])⟩⟩) dis
 have RW7:=RW.only o7 (fun hl e=>by have:=(RW.nr hl).2;omega) (fun hl e=>by have:=(RW.nc hl).2;omega) (fun q hq hl e=>by have:=(RW.pl q hq hl).2.2.2;omega)
 refine⟨_,_,_,_,_,fun q=>if q=w3.heap.size then 0 else if wr.heap.size≤q then 4 else if q=vblk (.slice ar x.regs.length kr) then 2 else if 0<kc∧q=vblk (.slice ac x.cells.length kc) then 3 else
  (open Classical in if h:∃i,i<x.cells.length∧0<vcap (L.getD i (Cl0,.slice none 0 0)).2∧vblk (L.getD i (Cl0,.slice none 0 0)).2=q then 6+Classical.choose h else 5),hb7,f7,hB,fun h=>((own_form hr).2 h).1,fun hn=>((own_form h.own).2 hn).1,RW7.less (by omega),Grw.of (own_less hg (by omega)),⟨if_pos rfl,fun hl=>?_,fun hl=>?_,fun q hq=>?_,fun q hq hl=>?_⟩,own_cap h.own,fun q o h=>(by rw[hz q] at h;cases h),fun hk=>?_⟩
 ·have:=(RW.nr hl).2;have:=(RW.nr hl).1.1;rw[if_neg (by omega),if_neg (by omega),if_pos rfl]
 ·have:=(RW.nc hl).2;have:=(RW.nc hl).1.1;rw[if_neg (by omega),if_neg (by omega),if_neg (fun e=>RW.d hl e.symm),if_pos ⟨Nat.lt_of_lt_of_le hl (own_cap h.own),rfl⟩]
 ·have:=(hg.lt q hq).1;rw[if_neg (by omega),if_pos (by omega)]
 ·have l2:=RW.pl q hq hl;have:=l2.2.2.2;have:=l2.2.1.1;have hex:∃i,i<x.cells.length∧0<vcap (L.getD i (Cl0,.slice none 0 0)).2∧vblk (L.getD i (Cl0,.slice none 0 0)).2=vblk (L.getD q (Cl0,.slice none 0 0)).2:=⟨q,hq,hl,rfl⟩;rw[if_neg (by omega),if_neg (by omega),if_neg l2.2.2.1.1,if_neg (fun e=>l2.2.2.1.2 e.2),dif_pos hex];have sp:=Classical.choose_spec hex
  have:Classical.choose hex=q:=by
   rcases Nat.decEq (Classical.choose hex) q with h | h
   ·exact absurd sp.2.2 (RW.dp _ q sp.1 hq h sp.2.1 hl)
   ·exact h
  rw[this]
 ·have hk2:0<vcap (.slice ac x.cells.length kc):=hk;obtain⟨k1,k2,k3,k4,k5⟩:=own_kw h.own hk2;have e7:=o7.block (vblk (.slice ac x.cells.length kc)) k3.1 (fun e=>by omega);refine⟨k1,?_,nf1_block k3 e7 o7.size,fun j hj=>?_,by omega⟩
  ·have:=k3.1;rw[if_neg (by omega),if_neg (by omega),if_neg (by omega),if_pos ⟨hk,rfl⟩]
  ·obtain⟨u,hu⟩:=k4 j hj;exact⟨u,(World.cell?_of_block (a:=⟨_,j,none⟩) e7).trans hu⟩
def GOk[Inhabited ProtD](B:Nat)(w:World)(g:Nat)(x:Hp):Prop:=∃ar kr ac kc vg br bc pb pa pk role,GAt B w g x ar kr ac kc vg br bc pb pa pk role
theorem GOk.ext[Inhabited ProtD]{B:Nat}{w w':World}{g:Nat}{x:Hp}(h:GOk B w g x)(e:Ext w w'):GOk B w' g x:=by
 obtain⟨ar,kr,ac,kc,vg,br,bc,pb,pa,pk,role,h⟩:=h;exact⟨ar,kr,ac,kc,vg,br,bc,pb,pa,pk,role,h.ext e⟩
theorem GAt.boxed[Inhabited ProtD]{B:Nat}{w w':World}{g:Nat}{x x':Hp}{ar:Option Addr}{kr:Nat}{ac:Option Addr}{kc:Nat}{vg:Value}{br bc:Nat}{pb:Nat→Nat}{pa:Nat→Option Addr}{pk:Nat→Nat}{role:Nat→Nat}(h:GAt B w g x ar kr ac kc vg br bc pb pa pk role)(o:Only (fun q=>q=g) w w')(nf:Nf1 g w')(hr:x'.regs=x.regs)(hc:x'.cells=x.cells)(hg:x'.gray=x.gray)(bx:HBox w' g x' (.slice ar x.regs.length kr) (.slice ac x.cells.length kc) vg):GAt B w' g x' ar kr ac kc vg br bc pb pa pk role:=by
 have far:∀q,q<w.heap.size→role q≠0→w'.heap[q]?=w.heap[q]?:=fun q hq hn=>o.block q hq (fun e=>hn (by rw[e];exact h.sp.g))
 have cc:∀q,x'.c q=x.c q:=fun q=>by simp only [Hp.c,hc]
 have rw2:=h.rw.same o.size (fun hl=>far br (h.rw.nr hl).1.1 (by rw[h.sp.r hl];omega)) (fun hl=>far bc (h.rw.nc hl).1.1 (by rw[h.sp.c hl];omega)) (fun q hq hl=>far (pb q) (h.rw.pl q hq hl).2.1.1 (by rw[h.sp.p q hq hl];omega));refine⟨by rw[hr,hc];exact bx,nf,h.lo,by rw[hr];exact h.ha,by rw[hc];exact h.hc,?_,by rw[hg];exact h.gr.block (fun q hq=>far q (h.gr.lt q hq).2 (by rw[h.sp.y q hq];omega)),?_,by rw[hc];exact h.kl,h.pr.of (fun q hq h1=>far q hq (by rw[h1];omega)) (fun _ _ h=>h),fun hk=>(h.cc hk).block rfl (far bc (h.cc hk).nf.1 (by rw[(h.cc hk).ro];omega)) o.size⟩
 ·refine⟨fun i hi=>?_,fun q hq=>?_,fun q hq=>?_,fun q hq k hk=>?_,fun q hq hl=>?_,?_,?_,?_,fun q q' hq hq' hne h1 h2=>?_,fun q hq=>?_⟩
  ·have hi2:i<x.regs.length:=by rw[←hr];exact hi
   have e2:x'.regs[i]=x.regs[i]:=by simp [hr]
   rw[e2];exact rw2.r i hi2
  ·rw[hc] at hq;rw[cc];exact rw2.s q hq
  ·rw[hc] at hq;rw[cc];exact rw2.p7 q hq
  ·rw[hc] at hq;rw[cc] at hk ⊢;exact rw2.p q hq k hk
  ·rw[hc] at hq;exact rw2.pl q hq hl
  ·rw[hr];exact rw2.nr
  ·rw[hc];exact rw2.nc
  ·rw[hc];exact rw2.d
  ·rw[hc] at hq hq';exact rw2.dp q q' hq hq' hne h1 h2
  ·rw[hc] at hq;rw[cc];exact rw2.kp q hq
 ·refine⟨h.sp.g,by rw[hr];exact h.sp.r,by rw[hc];exact h.sp.c,h.sp.y,fun q hq hl=>?_⟩;rw[hc] at hq;exact h.sp.p q hq hl
theorem GOk.box[Inhabited ProtD]{B:Nat}{w:World}{g:Nat}{x:Hp}(h:GOk B w g x):w.cell? ⟨g,6,none⟩=some (iv x.hand)∧w.cell? ⟨g,7,none⟩=some (iv x.sub)∧w.cell? ⟨g,5,none⟩=some (iv x.phase)∧(∀o,w.frozen? ⟨g,o,none⟩=false)∧B≤g∧g<w.heap.size:=by
 obtain⟨ar,kr,ac,kc,vg,br,bc,pb,pa,pk,role,h⟩:=h;exact⟨h.bx.2.2.2.2.2.2.1,h.bx.2.2.2.2.2.2.2.1,h.bx.2.2.2.2.2.1,h.nf.2,h.lo,h.nf.1⟩
theorem infoNodes:(Tryz.prog.info? 124).map (fun i=>(i.zero,i.size,i.bytes))=some (some (.agg #[iv 0,.pointer none]),2,16):=by kernel_rfl
theorem mkNodes(n:Nat)(hn:n≤1048576)(w:World):∃z,(Instr.makeSlice 117 (.int .i64 n) (.int .i64 n)).run Tryz.prog w=.ok (.slice (some ⟨w.heap.size,0,none⟩) n n) (w.alloc (.cells (madeCells z (n*2)) 124)):=by
 obtain⟨i0,hi,hz0,hz1,hz2⟩:=info_parts infoNodes;have h:=run_make (P:=Tryz.prog) w 117 124 i0 _ Tryz.underlying117 hi hz0 .i64 .i64 n n (by omega) (Int.le_refl _) (by rw[hz2];omega) (by omega);rw[hz1] at h;simp only [Int.toNat_natCast] at h;exact⟨_,h⟩
theorem hat_of(x:Hp)(w:World)(b:Nat){ar:Option Addr}{kr:Nat}{ac:Option Addr}{kc:Nat}{ag:Option Addr}{kg:Nat}
  (hc:∀o v,#[iv x.room,iv x.used,iv x.born,.slice ar x.regs.length kr,.slice ac x.cells.length kc,iv x.phase,iv x.hand,iv x.sub,.slice ag x.gray.length kg,iv x.per,iv x.start,iv x.rounds,iv x.forced][o]?=some v→w.cell? ⟨b,o,none⟩=some v)
  (hR:SlW w (.slice ar x.regs.length kr) x.regs) (hC:SlC w (.slice ac x.cells.length kc) x.cells) (hG:SlI w (.slice ag x.gray.length kg) x.gray):HAt w b x ar kr ac kc ag kg:=by
 obtain⟨a1,k1,v1,l1,R⟩:=hR;obtain⟨a2,k2,v2,l2,C⟩:=hC;obtain⟨a3,k3,v3,l3,G⟩:=hG;simp only [Value.slice.injEq] at v1 v2 v3;obtain⟨rfl,_,rfl⟩:=v1;obtain⟨rfl,_,rfl⟩:=v2;obtain⟨rfl,_,rfl⟩:=v3;refine⟨hc 0 _ rfl,hc 1 _ rfl,hc 2 _ rfl,hc 3 _ rfl,hc 4 _ rfl,hc 5 _ rfl,hc 6 _ rfl,hc 7 _ rfl,hc 8 _ rfl,hc 9 _ rfl,hc 10 _ rfl,hc 11 _ rfl,hc 12 _ rfl,l1,l2,l3,R,?_,G⟩;intro i hi;obtain⟨b',o,a,p⟩:=C i hi;rw[Hp.c_eq] at p;exact⟨b',o,a,p⟩
structure Opn(w wr:World)(x:Hp)(bx b bn k j:Nat)(ar:Option Addr)(kr:Nat)(ac:Option Addr)(kc:Nat)(ag:Option Addr)(kg:Nat)(vf:Value)(F:List Int):Prop where
 e:Ext w wr
 hb:w.heap.size≤bx∧bx<b∧b<bn∧bn<wr.heap.size
 x4:wr.cell? ⟨bx,4,none⟩=some (.slice ac x.cells.length kc)
 c:∀o v,#[iv x.room,iv x.used,iv x.born,.slice ar x.regs.length kr,.slice ac x.cells.length kc,iv x.phase,iv x.hand,iv x.sub,.slice ag x.gray.length kg,iv x.per,iv x.start,iv x.rounds,iv x.forced][o]?=some v→wr.cell? ⟨b,o,none⟩=some v
 n13:wr.cell? ⟨b,13,none⟩=some (.slice (some ⟨bn,0,none⟩) x.cells.length x.cells.length)
 n:∀i,i<k→∃bc oc,ac=some ⟨bc,oc,none⟩∧wr.cell? ⟨bn,i*2,none⟩=some (iv i)∧wr.cell? ⟨bn,i*2+1,none⟩=some (.pointer (some ⟨bc,oc+i*8,none⟩))
 o:∀j,j<x.cells.length*2→Open wr bn j
 f:LsAt wr (bn+1) b 14 vf F
 fo:Ho F
 fp:F.Perm (frees x j)
theorem Opn.len{w wr:World}{x:Hp}{bx b bn k j:Nat}{ar:Option Addr}{kr:Nat}{ac:Option Addr}{kc:Nat}{ag:Option Addr}{kg:Nat}{vf:Value}{F:List Int}(h:Opn w wr x bx b bn k j ar kr ac kc ag kg vf F):F.length≤j:=by
 rw[h.fp.length_eq];exact valsTo_len _ _ _
theorem Opn.same{w wr w':World}{x:Hp}{bx b bn k j:Nat}{ar:Option Addr}{kr:Nat}{ac:Option Addr}{kc:Nat}{ag:Option Addr}{kg:Nat}{vf:Value}{F:List Int}(h:Opn w wr x bx b bn k j ar kr ac kc ag kg vf F)(h1:w'.heap=wr.heap)(h2:w'.os=wr.os)(h3:w'.tape=wr.tape)(h4:w'.output=wr.output):
  Opn w w' x bx b bn k j ar kr ac kc ag kg vf F:=by
 have e:Ext wr w':=⟨h2,h3,h4,by rw[h1];exact Nat.le_refl _,fun k _=>by rw[h1]⟩;exact⟨h.e.trans e,⟨h.hb.1,h.hb.2.1,h.hb.2.2.1,by rw[h1];exact h.hb.2.2.2⟩,e.keep h.x4,fun o v q=>e.keep (h.c o v q),e.keep h.n13,fun i hi=>let ⟨bc,oc,a,p,q⟩:=h.n i hi;⟨bc,oc,a,e.keep p,e.keep q⟩,fun j hj=>(h.o j hj).ext e,h.f.ext e,h.fo,h.fp⟩
theorem Opn.lay{w wr:World}{x:Hp}{bx b bn k:Nat}{ar:Option Addr}{kr:Nat}{ac:Option Addr}{kc:Nat}{ag:Option Addr}{kg:Nat}{vf:Value}{F:List Int}{bc oc:Nat}(h:Opn w wr x bx b bn k k ar kr ac kc ag kg vf F)(hac:ac=some ⟨bc,oc,none⟩)(hk:k<x.cells.length):
  Opn w ((wr.setCell ⟨bn,k*2,none⟩ (iv k)).setCell ⟨bn,k*2+1,none⟩ (.pointer (some ⟨bc,oc+k*8,none⟩))) x bx b bn (k+1) k ar kr ac kc ag kg vf F:=by
 obtain⟨hb1,hb2,hb3,hb4⟩:=h.hb;have o1:=h.o (k*2) (by omega);have o2:=h.o (k*2+1) (by omega)
 have far:∀B O,B≠bn→((wr.setCell ⟨bn,k*2,none⟩ (iv k)).setCell ⟨bn,k*2+1,none⟩ (.pointer (some ⟨bc,oc+k*8,none⟩))).cell? ⟨B,O,none⟩=wr.cell? ⟨B,O,none⟩:=fun B O hB=>by
  rw[cell_other _ (.inl (fun e=>hB e.symm)),cell_other _ (.inl (fun e=>hB e.symm))]
 have farb:∀B:Nat,B≠bn→((wr.setCell ⟨bn,k*2,none⟩ (iv k)).setCell ⟨bn,k*2+1,none⟩ (.pointer (some ⟨bc,oc+k*8,none⟩))).heap[B]?=wr.heap[B]?:=fun B hB=>by
  rw[Below.heap_setCell _ _ _ _ (show B≠bn from hB),Below.heap_setCell _ _ _ _ (show B≠bn from hB)]
 refine⟨(h.e.setCell (by show w.heap.size≤bn;omega) _).setCell (by show w.heap.size≤bn;omega) _,⟨hb1,hb2,hb3,by simpa [World.setCell] using hb4⟩,by rw[far _ _ (by omega)];exact h.x4,fun o v q=>by rw[far _ _ (by omega)];exact h.c o v q,by rw[far _ _ (by omega)];exact h.n13,fun i hi=>?_,fun j hj=>((h.o j hj).set _ _).set _ _,⟨by rw[far _ _ (by omega)];exact h.f.hd,?_,?_,h.f.apart⟩,h.fo,h.fp⟩
 ·by_cases e:i=k
  ·subst e;refine⟨bc,oc,hac,?_,(o2.set _ _).same _⟩;rw[cell_other _ (.inr (by omega))];exact o1.same _
  ·obtain⟨bc',oc',a,p,q⟩:=h.n i (by omega);refine⟨bc',oc',a,?_,?_⟩
   ·rw[cell_other _ (.inr (by omega)),cell_other _ (.inr (by omega))];exact p
   ·rw[cell_other _ (.inr (by omega)),cell_other _ (.inr (by omega))];exact q
 ·rw[World.frozen?_setCell,World.frozen?_setCell];exact h.f.hf
 ·exact ownsRow_of_block h.f.own (fun B hB=>farb B (by have:=(h.f.rlt B hB).1;omega))
theorem Opn.skip{w wr:World}{x:Hp}{bx b bn k:Nat}{ar:Option Addr}{kr:Nat}{ac:Option Addr}{kc:Nat}{ag:Option Addr}{kg:Nat}{vf:Value}{F:List Int}(h:Opn w wr x bx b bn (k+1) k ar kr ac kc ag kg vf F)(hs:isSt x 0 k=false):
  Opn w wr x bx b bn (k+1) (k+1) ar kr ac kc ag kg vf F:=
 ⟨h.e,h.hb,h.x4,h.c,h.n13,h.n,h.o,h.f,h.fo,by unfold frees;rw[valsTo_no _ _ _ hs];exact h.fp⟩
theorem Opn.put{w wr w':World}{x:Hp}{bx b bn k:Nat}{ar:Option Addr}{kr:Nat}{ac:Option Addr}{kc:Nat}{ag:Option Addr}{kg:Nat}{vf v':Value}{F F':List Int}(h:Opn w wr x bx b bn (k+1) k ar kr ac kc ag kg vf F)(hs:isSt x 0 k=true)
  (l:LsAt w' (bn+1) b 14 v' F') (o:Ho F') (p:F'.Perm ((k:Int)::F)) (q:QFr b 14 vf v' wr w'):Opn w w' x bx b bn (k+1) (k+1) ar kr ac kc ag kg v' F':=by
 obtain⟨hb1,hb2,hb3,hb4⟩:=h.hb;have hv:∀B,B≤bn→vf.ownBlock≠some B:=fun B hB e=>by have:=(h.f.rlt B e).1;omega
 refine⟨q.ext h.e (by omega) (fun B hB=>by have:=(h.f.rlt B hB).1;omega),⟨hb1,hb2,hb3,Nat.lt_of_lt_of_le hb4 q.size⟩,q.cells h.x4 (by omega) (hv _ (by omega)),fun o v hq=>?_,by rw[q.hdr 13 (by omega)];exact h.n13,fun i hi=>?_,fun j hj=>?_,l,o,?_⟩
 ·have ho:o<13:=by
   rcases Nat.lt_or_ge o 13 with h' | h'
   ·exact h'
   ·rw[Array.getElem?_eq_none (by simpa using h')] at hq;cases hq
  rw[q.hdr o (by omega)];exact h.c o v hq
 ·obtain⟨bc,oc,a,p1,p2⟩:=h.n i hi;exact⟨bc,oc,a,q.cells p1 (by omega) (hv _ (by omega)),q.cells p2 (by omega) (hv _ (by omega))⟩
 ·obtain⟨⟨v,h1⟩,h2⟩:=h.o j hj;refine⟨⟨v,q.cells h1 (by omega) (hv _ (by omega))⟩,?_⟩;rw[World.frozen?_of_block (w:=wr) (a:=⟨bn,j,none⟩) (q.block bn hb4 (by omega) (hv _ (by omega)))];exact h2
 ·unfold frees;rw[valsTo_yes _ _ _ hs];exact(p.trans (h.fp.cons _)).trans (List.perm_append_singleton _ _).symm
theorem Opn.done{w wr:World}{x:Hp}{bx b bn:Nat}{ar:Option Addr}{kr:Nat}{ac:Option Addr}{kc:Nat}{ag:Option Addr}{kg:Nat}{vf:Value}{F:List Int}(h:Opn w wr x bx b bn x.cells.length x.cells.length ar kr ac kc ag kg vf F)
  (hR:SlW w (.slice ar x.regs.length kr) x.regs) (hC:SlC w (.slice ac x.cells.length kc) x.cells) (hG:SlI w (.slice ag x.gray.length kg) x.gray) :
  VAt wr b x ar kr ac kc ag kg (some ⟨bn,0,none⟩) x.cells.length∧FAt wr b x (bn+1) vf F:=
 ⟨⟨hat_of x wr b h.c (SlW.ext h.e hR) (SlC.ext h.e hC) (SlI.ext h.e hG),h.n13,fun i hi=>let ⟨bc,oc,a,p,q⟩:=h.n i hi;⟨bn,0,bc,oc,rfl,a,by simpa using p,by simpa using q⟩⟩,h.f,h.fo,h.fp⟩
def CapAt(w:World)(x:Hp)(ac:Option Addr):Prop:=∀i,i<x.cells.length→∀bc oc ad l c,ac=some ⟨bc,oc,none⟩→w.cell? ⟨bc,oc+i*8+7,none⟩=some (.slice ad l c)→l≤c∨l=0
theorem CapAt.ext{w w':World}{x:Hp}{ac:Option Addr}{b:Nat}{ar:Option Addr}{kr kc:Nat}{ag:Option Addr}{kg:Nat}(h:CapAt w x ac)(hh:HAt w b x ar kr ac kc ag kg)(e:Ext w w'):CapAt w' x ac:=fun i hi bc oc ad l c ha hc=>by
 obtain⟨b2,o2,ap,kp,e2,C⟩:=hh.cell i hi;rw[ha] at e2;cases e2;have:=(C.ext e).p7;rw[this] at hc;cases hc;exact h i hi _ _ _ _ _ ha C.p7
theorem speaks_used{x:Hp}(r2:R2 x)(i:Nat)(hi:i<x.cells.length)(h:Speaks (x.c i)):(x.c i).st=1:=by
 have:=r2.1 i hi;unfold Speaks at h;unfold CellOk MovedOk Bare at this;omega
end Go.Proofs.YtddkhnclmeikfaaGreat
