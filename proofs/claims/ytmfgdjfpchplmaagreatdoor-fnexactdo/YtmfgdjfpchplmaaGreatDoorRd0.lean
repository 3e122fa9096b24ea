import Derived.Test.YtmfgdjfpchplmaaGreatDoorBase
import Derived.Deep.Slices
import Derived.OpenShut
import Derived.SizedLaws
namespace Go.Proofs.YtmfgdjfpchplmaaGreatDoor
open Go.RowKit Go.Deep
section
variable {H : Type} {enc : TypeId × Value → H} {w : World} {base : Nat} {spare : Nat → Bool} {held : Bool}
theorem zL:Tryz.prog.cellsOf 3=1:=by kernel_rfl
theorem d7p:Tryz.prog.cellsOf 2=1:=by kernel_rfl
theorem zN{fuel:Nat}{cs:List Value}{x:DataW H×List MemPlace}(h:DataW.trod enc Tryz.prog w base spare held fuel 3 cs=some x):∃n:Int,cs=[iv n]:=by
 have⟨n,e,_⟩:=DataW.trod_int Tryz.underlying3 h;exact⟨n,e⟩
theorem c5y{fuel:Nat}{cs:List Value}{x:DataW H×List MemPlace}(h:DataW.trod enc Tryz.prog w base spare held fuel 2 cs=some x):∃n:Int,cs=[iv n]:=by
 have⟨n,e,_⟩:=DataW.trod_int Tryz.underlying2 h;exact⟨n,e⟩
theorem dH{n:Nat}{fs:Array Field}{cs:List Value}{xs:List (DataW H×List MemPlace)}(l:xs.length=fs.size)(j:∀(i:Nat)(f:Field),fs[i]?=some f->DataW.trod enc Tryz.prog w base spare held n f.type ((cs.drop f.offset).take (Tryz.prog.cellsOf f.type))=xs[i]?)
  (i b a d:Nat) (h:(fs[i]?).map (λf=>(f.type,f.offset))=some (b,a)) (g:Tryz.prog.cellsOf b=d):∃y,DataW.trod enc Tryz.prog w base spare held n b ((cs.drop a).take d)=some y/\xs[i]?=some y:=by
 have⟨f,c,e⟩:=Option.map_eq_some_iff.1 h;cases e;have:=j i f c;rw[g] at this;have k:i<fs.size:=(mz.1 c).1;exact⟨xs[i],by rw[this];simp,by simp⟩
theorem b3e{α:Type}{l:List α}{n:Nat}(h:l.length=n+1):∃a r,l=a::r/\r.length=n:=by
 cases l with
 | nil=>simp at h
 | cons a r=>exact⟨a,r,rfl,by simpa using h⟩
theorem len3{α:Type}{l:List α}(h:l.length=3):∃a b c,l=[a,b,c]:=by
 obtain⟨a,g,rfl,d⟩:=b3e h;obtain⟨b,j,rfl,f⟩:=b3e d;obtain⟨c,i,rfl,e⟩:=b3e f;exact⟨a,b,c,by rw[nF.1 e]⟩
theorem len5{α:Type}{l:List α}(h:l.length=5):∃a b c d e,l=[a,b,c,d,e]:=by
 obtain⟨a,i,rfl,f⟩:=b3e h;obtain⟨b,j,rfl,g⟩:=b3e f;obtain⟨c,d,e,rfl⟩:=len3 g;exact⟨a,b,c,d,e,rfl⟩
theorem a8b{P:Program}{e:TypeId}:∀{l:List (DataW H)} {d:DataW H} {k:Nat},d∈l->k∈d.weights P e->k∈DataW.weightsAll P e l
 | a::r,d,k,hd,hk=>by
  simp only [DataW.weightsAll,List.mem_append];rcases nN.1 hd with rfl|h
  ·exact .inl hk
  ·exact .inr (a8b h hk)
theorem c5z{α:Type}(b:α){n:Nat}{q:Nat->α->Prop}(h:∀i,i<n->∃z,q i z):∃f:Nat->α,∀i,i<n->q i (f i):=
 ⟨λi=>if a:i<n then Classical.choose (h i a) else b,λi a=>by simp only [dif_pos a];exact Classical.choose_spec (h i a)⟩
theorem b1s{α:Type}(Y:α){t e sz by_:Nat}{at_:Nat->Nat->α->Prop}{fuel:Nat}{cs:List Value}{x:DataW H×List MemPlace}(I:Tryz.prog.underlying t=some (.slice e))(r:Tryz.prog.cellsOf e=sz)(s:0<sz)(G:Tryz.prog.bytesOf e=by_)(F:8<=by_)
  (h:DataW.trod enc Tryz.prog w base (λ_=>true) held fuel t cs=some x) (M:∀n∈x.1.weights Tryz.prog t,n<=reachBytes)
  (X:∀fuel cs y,DataW.trod enc Tryz.prog w base (λ_=>true) held fuel e cs=some y->(∀n∈y.1.weights Tryz.prog e,n<=reachBytes)->∀b o,(∀i,i<sz->w.cell? (aA b (o+i))=cs[i]?)->∃z:α,at_ b o z) :
  ∃(v:Value)(xs:List α),cs=[v]/\tX at_ sz v xs:=by
 rcases open_slice I h with⟨rfl,_⟩|⟨a,len,cap,m,n,D,Pl,rfl,_,hlc,_,hm,rfl,hx⟩
 ·exact⟨_,[],rfl,tX.nil⟩
 simp only [if_true] at hm;subst hm;have q:len<=35184372088832:=by
  have:=M ((((List.range len).map D).length+((List.range (m-len)).map λj=>D (len+j)).length)*Tryz.prog.bytesOf e) (by simp [DataW.weights,I]);rw[G] at this;simp at this;unfold reachBytes at this;have L:len*8<=(len+(m-len))*by_:=Nat.mul_le_mul (by omega) F;omega
 have C:∀i,i<len->∀n∈(D i).weights Tryz.prog e,n<=reachBytes:=λi g k U=>by
  refine M k ?_;simp only [DataW.weights,I];refine mY _ (mp _ ?_);exact a8b (mX.2 ⟨i,by simpa using g,rfl⟩) U
 have u:∀i,i<len->∃(z:α),∃b o,a=(aA b o)/\at_ b (o+i*sz) z:=λi g=>by
  have⟨l,P,L⟩:=hx i (by omega);have⟨_,B,d⟩:=World.cells?_some P;rw[r] at d B;obtain⟨b,o,p⟩:=a;have Z:=d 0 s;have c:p=none:=by
   have⟨K,O⟩:∃K,l[0]?=some K:=⟨_,mQ (by omega)⟩;have⟨E,V,_⟩:=hx 0 (by omega);have⟨_,S,J⟩:=World.cells?_some V;rw[r] at S J;have⟨u0,A⟩:∃u0,E[0]?=some u0:=⟨_,mQ (by omega)⟩;have:=J 0 s;rw[A] at this;simpa [Addr.add] using World.cell?_spot this
  subst c;have⟨z,T⟩:=X n l (D i,Pl i) L (C i g) b (o+i*sz) (λj W=>by
   have:=d j W;rw[Go.WideShapes.add_plain,Go.WideShapes.add_plain] at this;rw[<-this])
  exact⟨z,b,o,rfl,T⟩
 have⟨f,Q⟩:=c5z Y u;refine⟨_,(List.range len).map f,rfl,some a,m,by simp,by simpa using q,λi g=>?_⟩;simp at g;have⟨b,o,R,N⟩:=Q i g;exact⟨b,o,by rw[R],by simpa using N⟩
end
end Go.Proofs.YtmfgdjfpchplmaaGreatDoor
