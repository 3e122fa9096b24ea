import Derived.Test.YtgkpaibbdkggiaaGreatDoorAd
set_option maxRecDepth 100000
set_option maxHeartbeats 4000000
namespace Go.Proofs.YtgkpaibbdkggiaaGreatDoor
open Go.RowKit Tryz
attribute [local go_sem ↓] Go.wp_at_zero Go.wp_at_succ
theorem b2k{a w:World}(h:Ext a w)(n:Nat):Ext a (w.drewN n):=⟨h.os,h.tape,h.output,h.size,λk b=>h.block k b⟩
theorem b0x(w:World)(p:Addr)(v:Value)(h:w.cell? p=some v):w.setCell p v=w:=by
 have a:(w.setCell p v).heap=w.heap:=by
  unfold World.cell? at h;unfold World.setCell;apply Array.ext_getElem?;intro i;rw[Array.getElem?_modify];by_cases e:p.block=i;subst e;rw[if_pos rfl];cases j:w.heap[p.block]? with
  | none=>rfl
  | some o=>
   rw[j]at h;cases o with
   | cells c t f=>
    simp only at h;by_cases b:p.spot.isSome=true;simp[b]at h;simp only[b]at h;simp only[Option.map_some,b];congr 1;have g:c.setIfInBounds p.off v=c:=by
     apply Array.ext_getElem?;intro k;rw[nC];by_cases d:p.off=k;subst d;rw[if_pos rfl];have:=(nU.1 h).1;rw[if_pos this];exact h.symm;rw[if_neg d]
    simp[g]
   | _=>simp at h
  rw[if_neg e]
 unfold World.setCell at a ⊢;simp only at a;rw[a]
theorem c3j(k:Nat)(a b c n:Int)(w:World)(h1:1<=k)(h2:k<=24)(B:(n != 0)=false\/((n != 0)=true/\((k:Int) != 2)=false))(r:Bool)(hr:(decide (0<=a/\a<=a6y k) && (decide (0<=b/\b<=kJ k) && decide (0<=c/\c<=gH k)))=r):Calls prog 110 #[yU k a b c n] w λe w'=>e=.returned (.tuple #[.agg #[iv (a6y k),iv (kJ k),iv (gH k),.func (.func (wayF k)) #[] #[]],.bool r])/\Ext w w':=by
 have QO:=uU (λW=>a4g k 1 24 true (by simp[cH];omega) W);have H:=uU (wayL_at k h1 h2);have k0:=i0N k;have k1:(k:Int)<25:=by omega
 obtain⟨g,N⟩:∃v,v=a6y k:=⟨_,rfl⟩;obtain⟨i,U⟩:∃v,v=kJ k:=⟨_,rfl⟩;obtain⟨s,S⟩:∃v,v=gH k:=⟨_,rfl⟩;obtain⟨G,ef⟩:∃v,v=wayF k:=⟨_,rfl⟩;rw[<-N,<-U,<-S,<-ef]at H;rw[<-N,<-U,<-S]at hr;rw[<-N,<-U,<-S,<-ef];have I:=uU hr;clear N U S ef hr h1 h2;go_in;go_wp21;refine b2j _ _ _ _ _ b6z (by kernel_rfl) (a5y _ _ _ _) (by kernel_rfl) (by kernel_rfl) ?_;intro W4 M;have T:=c3i.of _ _ _ _ _ _ _ _ _ _ _ M;clear M;obtain⟨a0,O,Y,Z,a4,Q,P,V,v3,R,J,ex⟩:=T;have t0:=(J (k*4)).trans H.1;have t1:=(J (k*4+1)).trans H.2.1;have t2:=(J (k*4+2)).trans H.2.2.1;have t3:=(J (k*4+3)).trans H.2.2.2;have X:=uU ex;clear J ex H;simp only[Oper.upon];rcases B with B|B
 focus have q2:=B
 rotate_left
 focus
  have q2:=B.1;have q1:=B.2
 all_goals
  clear B;go_wp2_with (go_at_call 30;refine(QO _).mono ?_;rintro e w2 ⟨rfl,o⟩;rw[o];clear o w2);obtain⟨f,d⟩:∃W,W=((((W4.setCell (aA (w.heap.size+1) 0) (iv g)).setCell (aA (w.heap.size+1) 1) (iv i)).setCell (aA (w.heap.size+1) 2) (iv s)).setCell (aA (w.heap.size+1) 3) (.func (.func G) #[] #[])):=⟨_,rfl⟩;have A:f.cell? (aA (w.heap.size+1) 0)=some (iv g):=by rw[d];simp[go_sem,Q]
  have y:f.cell? (aA (w.heap.size+1) 1)=some (iv i):=by rw[d];simp[go_sem,P]
  have z:f.cell? (aA (w.heap.size+1) 2)=some (iv s):=by rw[d];simp[go_sem,V]
  have u:f.cell? (aA (w.heap.size+1) 3)=some (.func (.func G) #[] #[]):=by rw[d];simp[go_sem,v3]
  have b1:f.cell? (aA w.heap.size 1)=some (iv a):=by rw[d];simp[go_sem,O]
  have b2:f.cell? (aA w.heap.size 2)=some (iv b):=by rw[d];simp[go_sem,Y]
  have b3:f.cell? (aA w.heap.size 3)=some (iv c):=by rw[d];simp[go_sem,Z]
  have f5:∀j,f.frozen? (aA (w.heap.size+1) j)=false:=λj=>by rw[d];simp[go_sem,R]
  have E:=uU (show Ext w f by rw[d];exact(((X.sc (w.heap.size+1) 0 (mS _) _).sc (w.heap.size+1) 1 (mS _) _).sc (w.heap.size+1) 2 (mS _) _).sc (w.heap.size+1) 3 (mS _) _);rw[<-d];clear d a0 O Y Z a4 Q P V v3 R t0 t1 t2 t3 X;have C:=uU (show ∀m,((((f.drewN m).setCell (aA (w.heap.size+1) 0) (iv g)).setCell (aA (w.heap.size+1) 1) (iv i)).setCell (aA (w.heap.size+1) 2) (iv s)).setCell (aA (w.heap.size+1) 3) (.func (.func G) #[] #[])=f.drewN m from λm=>by
   have k:=b2k (hO f) m;rw[b0x _ _ _ (k.keep A),b0x _ _ _ (k.keep y),b0x _ _ _ (k.keep z),b0x _ _ _ (k.keep u)])
  cases q:cH a 0 g
  ·have t:=uU (λW=>a4g a 0 g false q W);have l:=uU (show false=r by rw[<-uH I];have e:decide (0<=a/\a<=g)=false:=q;rw[e];rfl);refine wp_region_quiet_lit (by kernel_rfl) (by kernel_rfl) ?_
   repeat (quiet_step (first|(go_at_call_of 30 (a);exact Calls.quiet_of_same (t _))))
   refine wpQuiet_step (λK h=>?_);go_simp;refine⟨⟨undef,λm=>⟨uH C m,rfl⟩⟩,h _ ?_⟩;clear h K
   repeat (quiet_step (fail))
   refine wpQuiet_nil ?_;rintro _ ⟨L,rfl⟩;go_wp21;refine bodyPost_ret (by rw[results_cell_tmp rfl];simp[go_sem,loadVar,A,y,z,u];rfl) rfl ?_;exact⟨by rw[<-uH l],b2k E _⟩
  ·have t:=uU (λW=>a4g a 0 g true q W);cases x:cH b 0 i
   focus
    have D:=uU (λW=>a4g b 0 i false x W);have l:=uU (show false=r by rw[<-uH I];have F:decide (0<=a/\a<=g)=true:=q;have e:decide (0<=b/\b<=i)=false:=x;rw[F,e];rfl);refine wp_region_quiet_lit (by kernel_rfl) (by kernel_rfl) ?_
    repeat (quiet_step (first|(go_at_call_of 30 (a);exact Calls.quiet_of_same (t _))|(go_at_call_of 30 (b);exact Calls.quiet_of_same (D _))))
   rotate_left
   focus
    have D:=uU (λW=>a4g b 0 i true x W);have QC:=uU (λW=>a8p c 0 s W);have l:=uU (show cH c 0 s=r by rw[<-uH I];have F:decide (0<=a/\a<=g)=true:=q;have e:decide (0<=b/\b<=i)=true:=x;rw[F,e];rfl);refine wp_region_quiet_lit (by kernel_rfl) (by kernel_rfl) ?_
    repeat (quiet_step (first|(go_at_call_of 30 (a);exact Calls.quiet_of_same (t _))|(go_at_call_of 30 (b);exact Calls.quiet_of_same (D _))|(go_at_call_of 30 (c);exact Calls.quiet_of_same (QC _))))
   all_goals
    refine wpQuiet_step (λK h=>?_);go_simp;refine⟨⟨undef,λm=>⟨uH C m,rfl⟩⟩,h _ ?_⟩;clear h K
    repeat (quiet_step (fail))
    refine wpQuiet_nil ?_;rintro _ ⟨L,rfl⟩;go_wp21;refine bodyPost_ret (by rw[results_cell_tmp rfl];simp[go_sem,loadVar,A,y,z,u];rfl) rfl ?_;exact⟨by rw[<-uH l],b2k E _⟩
