import Derived.Test.YtddkhnclmeikfaaGreatNb6
import Derived.Test.YtddkhnclmeikfaaGreatL2u
set_option maxRecDepth 100000
set_option maxHeartbeats 2000000
namespace Go.Proofs.YtddkhnclmeikfaaGreat
open Go.RowKit Go.Proofs.Tryz
attribute [local go_sem ↓] Go.wp_at_zero Go.wp_at_succ
variable{ar ac ag:Option Addr}{kr kc kg:Nat}
theorem b9c(x:Hp)(w:World)(k:SlW w (.slice ar x.B.length kr) x.B)(i:SlC w (.slice ac x.A.length kc) x.A)(j:SlI w (.slice ag x.D.length kg) x.D):
  Calls prog 27 #[x.v (.slice ar x.B.length kr) (.slice ac x.A.length kc) (.slice ag x.D.length kg)] w λe w'=>∃r:Nat,Hid (e=.returned (iv (r:Int)))/\a1z x r/\Ext w w':=by
 have c:=(Ext.refl w).alloc (.cells #[iv x.M,iv x.K,iv x.born,.slice ar x.B.length kr,.slice ac x.A.length kc,iv x.E,iv x.I,iv x.sub,.slice ag x.D.length kg,iv x.per,iv x.V,iv x.Q,iv x.S] 34);have l:=uU (SlW.ext c k);have q:=uU (SlC.ext c i);have m:=uU (SlI.ext c j);have s:=uU (b3z x w k i j);go_enter func27,ntmps27;go_wp2_with fail;refine(a4e x _ l q m).mono ?_;rintro e z ⟨n,rfl,b,f⟩;have g:=c.trans f;have a:=uU b;have u:=uU (s.ext f);cases t:(n == 0)
 ·have y:(n != 0)=true:=by simpa using t
  have N:=uU (show a1z x 0 from .inr ⟨λh=>by have:=dX.uniq h a;simp at t;omega,rfl⟩);go_wp2;go_ret;exact⟨0,rfl,N,g⟩
 ·have y:(n != 0)=false:=by simpa using t
  have Y:=uU (show dX x 0 by have:=uH a;simp at t;rw[t] at this;exact this);go_wp2_with fail;refine(b5g x w.heap.size _ u Y).mono ?_;rintro e A ⟨r,rfl,p,d⟩;have o:=g.trans d;go_wp2;go_ret;exact⟨r,rfl,p,o⟩
theorem a9f(x:Hp)(w:World)(S:SlW w (.slice ar x.B.length kr) x.B)(D:SlC w (.slice ac x.A.length kc) x.A)(R:SlI w (.slice ag x.D.length kg) x.D)(p:a2p w x ac):
  Calls prog 21 #[x.v (.slice ar x.B.length kr) (.slice ac x.A.length kc) (.slice ag x.D.length kg)] w λe w'=>∃vr vn,Hid (e=.returned (.agg #[vr,vn]))/\Hid (IAns x w.heap.size w' vr vn)/\Ext w w':=by
 have l:=((Ext.refl w).alloc (.cells #[iv x.M,iv x.K,iv x.born,.slice ar x.B.length kr,.slice ac x.A.length kc,iv x.E,iv x.I,iv x.sub,.slice ag x.D.length kg,iv x.per,iv x.V,iv x.Q,iv x.S] 34)).alloc (.cells #[.slice none 0 0,.slice none 0 0] 44);have H:=uU (SlW.ext l S);have L:=uU (SlC.ext l D);have J:=uU (SlI.ext l R);have E:=uU (p.extS D l);go_enter func21,ntmps21;go_wp2_with fail;refine(a3w x _ H L J E).mono ?_;rintro e t ⟨c,z⟩;have u:=l.trans c;have d:=c.keep (b:=w.heap.size+1) (o:=0) (v:=.slice none 0 0) (by simp [go_sem]);have r:=c.keep (b:=w.heap.size+1) (o:=1) (v:=.slice none 0 0) (by simp [go_sem]);have i:t.frozen? (aA (w.heap.size+1) 0)=false:=((uK c).2 (w.heap.size+1) 0 (by simp)).trans (by simp [go_sem]);have k:t.frozen? (aA (w.heap.size+1) 1)=false:=((uK c).2 (w.heap.size+1) 1 (by simp)).trans (by simp [go_sem]);have C:w.heap.size+1<t.heap.size:=uL d;rcases uH z with⟨hn,rfl⟩ | ⟨hok,b,an,kn,rfl,hv,han⟩
 ·have N:=uU hn;go_wp2;refine bodyPost_ret (v:=.agg #[.slice none 0 0,.slice none 0 0]) (by simp [results,results21,go_sem,d,r]) rfl ⟨_,_,rfl,.inl ⟨N,rfl,rfl⟩,?_⟩
  repeat (first | exact u | refine Ext.setCell ?_ (by show w.heap.size<=w.heap.size+1;omega) _)
 ·obtain⟨I,M,rfl⟩:=uH han;have B:=uU hok;have V:=uU hv;go_wp2_with fail;refine(c9m x b _ I M V.vn B).mono ?_;rintro e s ⟨vr,vn,rfl,A,a⟩;have K:=u.trans a;have y:=uU (show ∀W,uX (λq=>q=w.heap.size+1) s W->IAns x w.heap.size W vr vn from λW Q=>.inr ⟨B,(A.only Q (λq h e=>by omega)).less u.size⟩)
  obtain⟨j,g,m,n,rfl,rfl⟩:∃j g m n,vr=sS j g g/\vn=sS m n n:=by
   obtain⟨N,O,j,m,U,f,T,Y,X,P,G,_⟩:=A;exact⟨j,_,m,_,P,G⟩
  have d:=a.keep d;have r:=a.keep r;have i:s.frozen? (aA (w.heap.size+1) 0)=false:=((uK a).2 (w.heap.size+1) 0 C).trans i;have k:s.frozen? (aA (w.heap.size+1) 1)=false:=((uK a).2 (w.heap.size+1) 1 C).trans k;go_wp2;refine bodyPost_ret (v:=.agg #[sS j g g,sS m n n]) (by simp [results,results21,go_sem,d,r]) rfl ⟨_,_,rfl,?_⟩;refine(λ(F:uX (λq=>q=w.heap.size+1) s _)=>⟨uH y _ F,F.ext K (λq c e=>by omega)⟩) ?_
  repeat (first | refine uX.setCell ?_ (by simp) _ | exact uX.refl _ _)
theorem b7g(x:Hp)(w:World)(D:SlW w (.slice ar x.B.length kr) x.B)(B:SlC w (.slice ac x.A.length kc) x.A)(C:SlI w (.slice ag x.D.length kg) x.D):
  Calls prog 26 #[x.v (.slice ar x.B.length kr) (.slice ac x.A.length kc) (.slice ag x.D.length kg)] w λe w'=>∃vr vn,Hid (e=.returned (.agg #[vr,vn]))/\Hid (SAns x w' vr vn)/\Ext w w':=by
 have p:=((Ext.refl w).alloc (.cells #[iv x.M,iv x.K,iv x.born,.slice ar x.B.length kr,.slice ac x.A.length kc,iv x.E,iv x.I,iv x.sub,.slice ag x.D.length kg,iv x.per,iv x.V,iv x.Q,iv x.S] 34)).alloc (.cells #[.slice none 0 0,.slice none 0 0] 44);have G:=uU (SlW.ext p D);have L:=uU (SlC.ext p B);have H:=uU (SlI.ext p C);have M:=uU (b3z x w D B C);go_enter func26,ntmps26;go_wp2_with fail;refine(a4e x _ G L H).mono ?_;rintro e r ⟨n,rfl,i,c⟩;have z:=p.trans c;have j:=c.keep (b:=w.heap.size+1) (o:=0) (v:=.slice none 0 0) (by simp [go_sem]);have m:=c.keep (b:=w.heap.size+1) (o:=1) (v:=.slice none 0 0) (by simp [go_sem]);have k:r.frozen? (aA (w.heap.size+1) 0)=false:=((uK c).2 (w.heap.size+1) 0 (by simp)).trans (by simp [go_sem]);have l:r.frozen? (aA (w.heap.size+1) 1)=false:=((uK c).2 (w.heap.size+1) 1 (by simp)).trans (by simp [go_sem]);have A:w.heap.size+1<r.heap.size:=uL j;have g:=uU i;have O:=uU ((M.ext ((Ext.refl _).alloc (.cells #[.slice none 0 0,.slice none 0 0] 44))).ext c);cases t:(n == 0)
 ·have P:(n != 0)=true:=by simpa using t
  have N:=uU (show ¬dX x 0 from λh=>by have:=dX.uniq h g;simp at t;omega);go_wp2;refine bodyPost_ret (v:=.agg #[.slice none 0 0,.slice none 0 0]) (by simp [results,results26,go_sem,j,m]) rfl ⟨_,_,rfl,.inl ⟨N,rfl,rfl⟩,?_⟩
  repeat (first | exact z | refine Ext.setCell ?_ (by show w.heap.size<=w.heap.size+1;omega) _)
 ·have P:(n != 0)=false:=by simpa using t
  have Y:=uU (show dX x 0 by have:=uH g;simp at t;rw[t] at this;exact this);go_wp2_with fail;refine(c3a x w.heap.size _ O Y).mono ?_;rintro e f ⟨vr,vn,rfl,E,a⟩;have I:=z.trans a;obtain⟨N,Q,d⟩:=uH E;have u:=uU (show ∀W,uX (λq=>q=w.heap.size+1) f W->SAns x W vr vn from λW R=>.inr ⟨Y,N,Q,d W (R.mono (λq e=>by omega))⟩);obtain⟨y,J,rfl,_,_⟩:=(d f (uX.refl _ _)).1;obtain⟨s,K,rfl,_,_⟩:=(d f (uX.refl _ _)).2;have j:=a.keep j;have m:=a.keep m;have k:f.frozen? (aA (w.heap.size+1) 0)=false:=((uK a).2 (w.heap.size+1) 0 A).trans k;have l:f.frozen? (aA (w.heap.size+1) 1)=false:=((uK a).2 (w.heap.size+1) 1 A).trans l;go_wp2;refine bodyPost_ret (v:=.agg #[.slice y (gR x N).length J,.slice s (gL x N).length K]) (by simp [results,results26,go_sem,j,m]) rfl ⟨_,_,rfl,?_⟩;refine(λ(F:uX (λq=>q=w.heap.size+1) f _)=>⟨uH u _ F,F.ext I (λq c e=>by omega)⟩) ?_
  repeat (first | refine uX.setCell ?_ (by simp) _ | exact uX.refl _ _)
theorem b1e(x:Hp)(w:World)(I:SlW w (.slice ar x.B.length kr) x.B)(n:SlC w (.slice ac x.A.length kc) x.A)(H:SlI w (.slice ag x.D.length kg) x.D)(f:a2p w x ac):
  Calls prog 24 #[x.v (.slice ar x.B.length kr) (.slice ac x.A.length kc) (.slice ag x.D.length kg)] w λe w'=>∃r:Nat,Hid (e=.returned (iv (r:Int)))/\a1z x r/\Ext w w':=by
 have c:=(Ext.refl w).alloc (.cells #[iv x.M,iv x.K,iv x.born,.slice ar x.B.length kr,.slice ac x.A.length kc,iv x.E,iv x.I,iv x.sub,.slice ag x.D.length kg,iv x.per,iv x.V,iv x.Q,iv x.S] 34);have t:=uU (SlW.ext c I);have A:=uU (SlC.ext c n);have y:=uU (SlI.ext c H);have o:=uU (f.extS n c);go_enter func24,ntmps24;go_wp2_with fail;refine(a3w x _ t A y o).mono ?_;rintro e p ⟨s,k⟩;have m:=c.trans s;rcases uH k with⟨hn,rfl⟩ | ⟨hok,b,an,kn,rfl,hv,han⟩
 ·have N:=uU (show a1z x 0 from .inr ⟨hn,rfl⟩);go_wp2;go_ret;exact⟨0,rfl,N,m⟩
 ·obtain⟨h,j,rfl⟩:=uH han;have a:=uU hok;have V:=uU hv;go_wp2_with fail;refine(c1g x b _ h j V.vn a.all.2.1 a.all.2.2.2 a.n8 a.p200 (λF B=>b0r x b F h j B a.n8)).mono ?_;rintro e K ⟨rfl,G,q,g,D,d⟩;have z:=m.trans d;have M:=uU q;go_wp2_with fail;refine(c6m x b p.heap.size G _ h j (V.ext d).vn M g a.n8 a.p200).mono ?_;rintro e J ⟨u,rfl,C,l⟩;have E:=z.trans l;go_wp2;go_ret;exact⟨u,rfl,.inl ⟨a,_,λi=>by simpa using uH D i,C⟩,E⟩
end Go.Proofs.YtddkhnclmeikfaaGreat
