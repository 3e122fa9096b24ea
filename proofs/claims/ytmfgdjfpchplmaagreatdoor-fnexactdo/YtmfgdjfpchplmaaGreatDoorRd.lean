import Derived.Test.YtmfgdjfpchplmaaGreatDoorHx
import Derived.Test.YtmfgdjfpchplmaaGreatDoorRd0
namespace Go.Proofs.YtmfgdjfpchplmaaGreatDoor
open Go.RowKit Go.Deep
section
variable {H : Type} {enc : TypeId × Value → H} {w : World} {base : Nat} {spare : Nat → Bool} {held : Bool}
theorem c1s:Tryz.prog.cellsOf 94=3:=by kernel_rfl
theorem d7q:Tryz.prog.cellsOf 170=6:=by kernel_rfl
theorem d7r:Tryz.prog.cellsOf 73=8:=by kernel_rfl
theorem cellsH:Tryz.prog.cellsOf 26=13:=by kernel_rfl
theorem cellsSW:Tryz.prog.cellsOf 22=1:=by kernel_rfl
theorem cellsSP:Tryz.prog.cellsOf 71=1:=by kernel_rfl
theorem cellsSC:Tryz.prog.cellsOf 23=1:=by kernel_rfl
theorem cellsSI:Tryz.prog.cellsOf 24=1:=by kernel_rfl
theorem bytesW:Tryz.prog.bytesOf 94=24:=by kernel_rfl
theorem bytesP:Tryz.prog.bytesOf 170=48:=by kernel_rfl
theorem bytesC:Tryz.prog.bytesOf 73=80:=by kernel_rfl
theorem bytesI:Tryz.prog.bytesOf 3=8:=by kernel_rfl
theorem len6{α:Type}{l:List α}(h:l.length=6):∃a b c d e f,l=[a,b,c,d,e,f]:=by
 obtain⟨a,r1,rfl,h1⟩:=b3e h;obtain⟨b,c,d,e,f,rfl⟩:=len5 h1;exact⟨a,b,c,d,e,f,rfl⟩
theorem len8{α:Type}{l:List α}(h:l.length=8):∃a b c d e f g i,l=[a,b,c,d,e,f,g,i]:=by
 obtain⟨a,r1,rfl,h1⟩:=b3e h;obtain⟨b,r2,rfl,h2⟩:=b3e h1;obtain⟨c,d,e,f,g,i,rfl⟩:=len6 h2;exact⟨a,b,c,d,e,f,g,i,rfl⟩
theorem len13{α:Type}{l:List α}(h:l.length=13):∃a b c d e f g i j k m n o,l=[a,b,c,d,e,f,g,i,j,k,m,n,o]:=by
 obtain⟨a,r1,rfl,h1⟩:=b3e h;obtain⟨b,r2,rfl,h2⟩:=b3e h1;obtain⟨c,r3,rfl,h3⟩:=b3e h2;obtain⟨d,r4,rfl,h4⟩:=b3e h3;obtain⟨e,r5,rfl,h5⟩:=b3e h4;obtain⟨f,g,i,j,k,m,n,o,rfl⟩:=len8 h5;exact⟨a,b,c,d,e,f,g,i,j,k,m,n,o,rfl⟩
theorem c1t{fuel:Nat}{cs:List Value}{x:DataW H×List MemPlace}(h:DataW.trod enc Tryz.prog w base spare held fuel 94 cs=some x):∃y:Wd,cs=[iv y.k,iv y.n,iv y.a]:=by
 have⟨xs,n,_,_,hl,hs,hf⟩:=DataW.trod_struct Tryz.underlying94 h;rw[c1s] at hl;obtain⟨a,b,c,rfl⟩:=len3 hl;have⟨_,f0,_⟩:=dH hs hf 0 3 0 1 rfl zL;have⟨_,f1,_⟩:=dH hs hf 1 2 1 1 rfl d7p;have⟨_,f2,_⟩:=dH hs hf 2 3 2 1 rfl zL;have⟨k,e0⟩:=zN f0;have⟨m,e1⟩:=c5y f1;have⟨p,e2⟩:=zN f2;simp at e0 e1 e2;exact⟨⟨k,m,p⟩,by rw[e0,e1,e2]⟩
theorem rd_pair{fuel:Nat}{cs:List Value}{x:DataW H×List MemPlace}(h:DataW.trod enc Tryz.prog w base spare held fuel 170 cs=some x):∃y:Pr,cs=[iv y.key.k,iv y.key.n,iv y.key.a,iv y.val.k,iv y.val.n,iv y.val.a]:=by
 have⟨xs,n,_,_,hl,hs,hf⟩:=DataW.trod_struct Tryz.underlying170 h;rw[d7q] at hl;obtain⟨a,b,c,d,e,f,rfl⟩:=len6 hl;have⟨_,f0,_⟩:=dH hs hf 0 94 0 3 rfl c1s;have⟨_,f1,_⟩:=dH hs hf 1 94 3 3 rfl c1s;have⟨k,e0⟩:=c1t f0;have⟨v,e1⟩:=c1t f1;simp at e0 e1;obtain⟨rfl,rfl,rfl⟩:=e0;obtain⟨rfl,rfl,rfl⟩:=e1;exact⟨⟨k,v⟩,rfl⟩
theorem d7s{fuel:Nat}{cs:List Value}{x:DataW H×List MemPlace}(h:DataW.trod enc Tryz.prog w base (λ_=>true) held fuel 22 cs=some x)(hw:∀n∈x.1.weights Tryz.prog 22,n<=reachBytes):∃(v:Value)(xs:List Wd),cs=[v]/\SlW w v xs:=
 b1s (at_:=yN w) ⟨0,0,0⟩ Tryz.underlying22 c1s (by omega) bytesW (by omega) h hw λ_ _ _ h _ b o hc=>by
  obtain⟨y,rfl⟩:=c1t h;exact⟨y,hc 0 (by omega),hc 1 (by omega),hc 2 (by omega)⟩
theorem d7t{fuel:Nat}{cs:List Value}{x:DataW H×List MemPlace}(h:DataW.trod enc Tryz.prog w base (λ_=>true) held fuel 71 cs=some x)(hw:∀n∈x.1.weights Tryz.prog 71,n<=reachBytes):∃(v:Value)(xs:List Pr),cs=[v]/\SlP w v xs:=
 b1s (at_:=qH w) ⟨⟨0,0,0⟩,⟨0,0,0⟩⟩ Tryz.underlying71 d7q (by omega) bytesP (by omega) h hw λ_ _ _ h _ b o hc=>by
  obtain⟨y,rfl⟩:=rd_pair h;exact⟨y,hc 0 (by omega),hc 1 (by omega),hc 2 (by omega),hc 3 (by omega),hc 4 (by omega),hc 5 (by omega)⟩
theorem rd_ints{fuel:Nat}{cs:List Value}{x:DataW H×List MemPlace}(h:DataW.trod enc Tryz.prog w base (λ_=>true) held fuel 24 cs=some x)(hw:∀n∈x.1.weights Tryz.prog 24,n<=reachBytes):∃(v:Value)(xs:List Int),cs=[v]/\SlI w v xs:=
 b1s (at_:=a5f w) 0 Tryz.underlying24 zL (by omega) bytesI (by omega) h hw λ_ _ _ h _ b o hc=>by
  obtain⟨y,rfl⟩:=zN h;exact⟨y,hc 0 (by omega)⟩
theorem a3a{fs:Array Field}{t:TypeId}{xs:List (DataW H×List MemPlace)}(ht:Tryz.prog.underlying t=some (.struct fs))(i ty off:Nat)(h:(fs[i]?).map (λf=>(f.type,f.offset))=some (ty,off)){y:DataW H×List MemPlace}(hy:xs[i]?=some y)
  (hw:∀n∈(DataW.agg (xs.map (·.1))).weights Tryz.prog t,n<=reachBytes):∀n∈y.1.weights Tryz.prog ty,n<=reachBytes:=λn hn=>by
 refine hw n ?_;simp only [DataW.weights,ht];have⟨f,h1,h2⟩:=Option.map_eq_some_iff.1 h;cases h2;exact DataW.weights_mem_each (j:=i) (by simp [h1]) (by simp [hy]) n hn
theorem rd_cell{fuel:Nat}{cs:List Value}{x:DataW H×List MemPlace}(h:DataW.trod enc Tryz.prog w base (λ_=>true) held fuel 73 cs=some x)(hw:∀n∈x.1.weights Tryz.prog 73,n<=reachBytes):
  ∃(y:Cl)(vp:Value),cs=[iv y.st,iv y.kind,iv y.T,iv y.U,iv y.born,iv y.J,iv y.to,vp]/\SlP w vp y.F:=by
 obtain⟨xs,n,_,rfl,hl,hs,hf⟩:=DataW.trod_struct Tryz.underlying73 h;rw[d7r] at hl;obtain⟨a,b,c,d,e,f,g,i,rfl⟩:=len8 hl;have⟨_,f0,_⟩:=dH hs hf 0 3 0 1 rfl zL;have⟨_,f1,_⟩:=dH hs hf 1 3 1 1 rfl zL;have⟨_,f2,_⟩:=dH hs hf 2 3 2 1 rfl zL;have⟨_,f3,_⟩:=dH hs hf 3 3 3 1 rfl zL;have⟨_,f4,_⟩:=dH hs hf 4 3 4 1 rfl zL;have⟨_,f5,_⟩:=dH hs hf 5 3 5 1 rfl zL;have⟨_,f6,_⟩:=dH hs hf 6 3 6 1 rfl zL;have⟨_,f7,g7⟩:=dH hs hf 7 71 7 1 rfl cellsSP;have⟨n0,e0⟩:=zN f0;have⟨n1,e1⟩:=zN f1;have⟨n2,e2⟩:=zN f2;have⟨n3,e3⟩:=zN f3;have⟨n4,e4⟩:=zN f4;have⟨n5,e5⟩:=zN f5;have⟨n6,e6⟩:=zN f6;have⟨vp,ps,e7,hp⟩:=d7t f7 (a3a Tryz.underlying73 7 71 7 rfl g7 hw);simp at e0 e1 e2 e3 e4 e5 e6 e7;exact⟨⟨n0,n1,n2,n3,n4,n5,n6,ps⟩,vp,by rw[e0,e1,e2,e3,e4,e5,e6,e7],hp⟩
theorem d7u{fuel:Nat}{cs:List Value}{x:DataW H×List MemPlace}(h:DataW.trod enc Tryz.prog w base (λ_=>true) held fuel 23 cs=some x)(hw:∀n∈x.1.weights Tryz.prog 23,n<=reachBytes):∃(v:Value)(xs:List Cl),cs=[v]/\SlC w v xs:=
 b1s (at_:=b7g w) Cl0 Tryz.underlying23 d7r (by omega) bytesC (by omega) h hw λ_ _ _ h hw b o hc=>by
  obtain⟨y,vp,rfl,hp⟩:=rd_cell h hw;exact⟨y,vp,hc 0 (by omega),hc 1 (by omega),hc 2 (by omega),hc 3 (by omega),hc 4 (by omega),hc 5 (by omega),hc 6 (by omega),hc 7 (by omega),hp⟩
theorem rd_heap{fuel:Nat}{cs:List Value}{x:DataW H×List MemPlace}(h:DataW.trod enc Tryz.prog w base (λ_=>true) held fuel 26 cs=some x)(hw:∀n∈x.1.weights Tryz.prog 26,n<=reachBytes):
  ∃(y:Hp)(vr vc vg:Value),cs=[iv y.M,iv y.K,iv y.born,vr,vc,iv y.E,iv y.I,iv y.sub,vg,iv y.per,iv y.V,iv y.Q,iv y.S]/\SlW w vr y.B/\SlC w vc y.A/\SlI w vg y.D:=by
 obtain⟨xs,n,_,rfl,hl,hs,hf⟩:=DataW.trod_struct Tryz.underlying26 h;rw[cellsH] at hl;obtain⟨a0,a1,a2,a3,a4,a5,a6,a7,a8,a9,a10,a11,a12,rfl⟩:=len13 hl;have⟨_,f0,_⟩:=dH hs hf 0 3 0 1 rfl zL;have⟨_,f1,_⟩:=dH hs hf 1 3 1 1 rfl zL;have⟨_,f2,_⟩:=dH hs hf 2 3 2 1 rfl zL;have⟨_,f3,g3⟩:=dH hs hf 3 22 3 1 rfl cellsSW;have⟨_,f4,g4⟩:=dH hs hf 4 23 4 1 rfl cellsSC;have⟨_,f5,_⟩:=dH hs hf 5 3 5 1 rfl zL;have⟨_,f6,_⟩:=dH hs hf 6 3 6 1 rfl zL;have⟨_,f7,_⟩:=dH hs hf 7 3 7 1 rfl zL;have⟨_,f8,g8⟩:=dH hs hf 8 24 8 1 rfl cellsSI;have⟨_,f9,_⟩:=dH hs hf 9 3 9 1 rfl zL;have⟨_,f10,_⟩:=dH hs hf 10 3 10 1 rfl zL;have⟨_,f11,_⟩:=dH hs hf 11 3 11 1 rfl zL;have⟨_,f12,_⟩:=dH hs hf 12 3 12 1 rfl zL;have⟨n0,e0⟩:=zN f0;have⟨n1,e1⟩:=zN f1;have⟨n2,e2⟩:=zN f2;have⟨n5,e5⟩:=zN f5;have⟨n6,e6⟩:=zN f6;have⟨n7,e7⟩:=zN f7;have⟨n9,e9⟩:=zN f9;have⟨n10,e10⟩:=zN f10;have⟨n11,e11⟩:=zN f11;have⟨n12,e12⟩:=zN f12;have⟨vr,rs,e3,hr⟩:=d7s f3 (a3a Tryz.underlying26 3 22 3 rfl g3 hw);have⟨vc,ks,e4,hc⟩:=d7u f4 (a3a Tryz.underlying26 4 23 4 rfl g4 hw);have⟨vg,gs,e8,hg⟩:=rd_ints f8 (a3a Tryz.underlying26 8 24 8 rfl g8 hw);simp at e0 e1 e2 e3 e4 e5 e6 e7 e8 e9 e10 e11 e12;exact⟨⟨n0,n1,n2,rs,ks,n5,n6,n7,gs,n9,n10,n11,n12⟩,vr,vc,vg,by rw[e0,e1,e2,e3,e4,e5,e6,e7,e8,e9,e10,e11,e12],hr,hc,hg⟩
end
end Go.Proofs.YtmfgdjfpchplmaaGreatDoor
