import Derived.Test.YtddkhnclmeikfaaGreatEk
import Derived.Test.YtddkhnclmeikfaaGreatEi
set_option maxRecDepth 100000
set_option maxHeartbeats 1000000
namespace Go.Proofs.YtddkhnclmeikfaaGreat
open Go.RowKit
attribute [local go_sem ↓] Go.wp_at_zero Go.wp_at_succ
theorem l5do_7[p:Inhabited uN](B g:Nat)(x:Hp)(a b c:Nat)(n:Int)(w:World)(h:GOk B w g x)(s:Snd x)(ok:dU 7 a b c n=true)(ha:a<16)(hb:b<16)(v:World)(hv:v.heap.size<=B)(hx:Ext v w):
  Calls Tryz.prog 234 #[.pointer (some ⟨g,0,none⟩),qZ 7 a b c n] w λe w'=>dC B g x a b c n 7 v e w':=by
 obtain⟨p1,o1,g1⟩:=GOk.enter h (w0:=doW w 7 a b c n) (((Ext.refl w).alloc _).alloc _);have HG:=uU g1;have S:=uU s;have O1:=uU o1;have QA:=uU (λW=>hE 7 a b c n W);rw[ok] at QA;have V0:=uU (show v.heap.size<=w.heap.size+1 by have:=hx.size;omega);have XD:=uU (show Ext v (doW w 7 a b c n) from(hx.alloc _).alloc _);have BX:=uU (eQ.new w 7 a b c n);clear h s o1 g1;go_enter Tryz.func234,Tryz.ntmps234;go_wp2_with fail;refine(QA _).mono ?_;rintro e w1 ⟨rfl,x1⟩;have X1:=uU (XD.trans x1);have BX1:=uU (BX.ext x1);obtain⟨t0,t1,t2,t3,t4,t5,t6,t7⟩:=uH BX1;have hw1:w.heap.size+1<w1.heap.size:=uL t5;have hw0:w.heap.size<w1.heap.size:=uL t0;have G1:=uU (HG.ext x1);have QP:=uU (show Calls Tryz.prog 252 #[.pointer (some ⟨g,0,none⟩),qZ 7 a b c n] w1 λe w'=>dC B g x a b c n 7 v e w' from c6c B g x a b c n w1 G1 S ha hb v hv X1);clear x1 QA BX1 BX XD HG;go_wp2_with fail;refine QP.mono ?_;rintro e w3 ⟨y,cd,nm,he,dr,g3,x3⟩;have e2:=uH he;subst e2;have G3:=uU g3;have X3:=uU x3;clear he g3 x3 QP;obtain⟨u0,u1,u2,u3,u4,u5,u6,u7⟩:=G3.boxes O1;have hw3:w.heap.size+1<w3.heap.size:=uL u5;clear t0 t1 t2 t3 t4 t5 t6 t7;go_wp2_with fail;refine bodyPost_ret (v:=eY cd nm) (by simp [results,Tryz.results234,go_sem,u5,u6]) rfl ?_;exact⟨y,cd,nm,rfl,dr,GOk.done O1 G3 cd nm,uW X3 V0 cd nm⟩
end Go.Proofs.YtddkhnclmeikfaaGreat
