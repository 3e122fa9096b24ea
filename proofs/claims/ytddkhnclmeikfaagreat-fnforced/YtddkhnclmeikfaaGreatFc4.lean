import Derived.Test.YtddkhnclmeikfaaGreatGs3
import Derived.Test.YtddkhnclmeikfaaGreatFc3
import Derived.Test.YtddkhnclmeikfaaGreatFb8
import Derived.Test.YtddkhnclmeikfaaGreatFc1
set_option linter.unusedSimpArgs false
set_option maxRecDepth 100000
set_option maxHeartbeats 8000000
namespace Go.Proofs.YtddkhnclmeikfaaGreat
open Go.RowKit
attribute [local go_sem ↓] Go.wp_at_zero Go.wp_at_succ
def gC(T:List (List Pr))(i:Nat):Cl:=⟨1,0,0,0,i+1,0,0,tI T i⟩
def gX(g:List Wd)(T:List (List Pr)):Hp:=⟨0,0,0,g,(List.range T.length).map (gC T),0,0,0,[],0,0,0,0⟩
def fG(T:List (List Pr))(pb:Nat→Nat)(i:Nat):List Value:=fC (gC T i,.slice (some ⟨pb i,0,none⟩) (tI T i).length (tI T i).length)
theorem gX_n(g:List Wd)(T:List (List Pr)):(gX g T).cells.length=T.length:=by simp [gX]
theorem gX_c(g:List Wd)(T:List (List Pr))(i:Nat)(h:i<T.length):(gX g T).c i=gC T i:=by unfold Hp.c gX;simp [h]
theorem gX_r2(g:List Wd)(T:List (List Pr))(hl:∀i,i<T.length→(tI T i).length≤200):R2w (gX g T):=by
 refine⟨fun i hi=>?_,fun i hi _ k hk e=>?_⟩
 ·rw[gX_n] at hi;unfold CellW;rw[gX_c g T i hi];have:=hl i hi;exact .inr (.inr ⟨rfl,⟨by simp [gC],by simp [gC]⟩,⟨by simp [gC],by simp [gC]⟩,⟨by simp [gC],by simp [gC]⟩,⟨by simp only [gC];omega,by simp [gC]⟩,⟨by simp [gC],by simp [gC]⟩,rfl,this⟩)
 ·rw[gX_n] at hi;rw[gX_c g T i hi,gX_c g T k (by omega)] at e;have:=e.2.1;simp only [gC] at this;omega
theorem gX_leads(g:List Wd)(T:List (List Pr))(u:Wd)(h:Formed u T.length)(m:Prop):Leads (gX g T) u m:=by
 refine⟨by rw[gX_n];exact h,fun k=>.inr ?_⟩;have:u.a.toNat<T.length:=by unfold Formed at h;omega
 rw[gX_c g T _ this];exact⟨rfl,fun d=>by have:=d.1;simp [gX] at this⟩
theorem gX_r4(g:List Wd)(T:List (List Pr))(n:g.length=16)(fr:∀i,i<16→Formed (rI g i) T.length)(fp:∀i,i<T.length→∀k,k<(tI T i).length→Formed (pI (tI T i) k).key T.length∧Formed (pI (tI T i) k).val T.length):R4 (gX g T):=by
 refine⟨fun i h=>?_,fun i hi=>⟨fun d=>by have:=d.1.1;simp [gX] at this,fun k hk=>?_⟩⟩
 ·have l:i<g.length:=h;have e:(gX g T).regs[i]=rI g i:=by unfold rI;rw[List.getD_eq_getElem?_getD,List.getElem?_eq_getElem l];rfl
  have q:=gX_leads g T _ (fr i (by omega)) False;rw[←e] at q;exact q
 ·rw[gX_n] at hi;rw[gX_c g T i hi] at hk ⊢;obtain⟨a,b⟩:=fp i hi k hk;exact⟨fun d=>by have:=d.1;simp [gX] at this,fun _=>⟨gX_leads g T _ a _,gX_leads g T _ b _⟩⟩
structure GI(w wr:World)(br bg k:Nat)(T:List (List Pr))(pb:Nat→Nat)(vc:Value):Prop where
 e:Ext w wr
 c:∀j,j<13→j≠3→j≠4→j≠8→wr.cell? ⟨bg,j,none⟩=some (iv 0)
 c3:wr.cell? ⟨bg,3,none⟩=some (.slice (some ⟨br,0,none⟩) 16 16)
 c4:wr.cell? ⟨bg,4,none⟩=some vc
 c8:wr.cell? ⟨bg,8,none⟩=some (.slice none 0 0)
 nf:Nf1 bg wr
 ow:wr.ownsRow (w.heap.size+2) 62 8 vc k ((List.range k).flatMap (fG T pb))
 g0:wr.cell? ⟨w.heap.size,0,none⟩=some (.slice none 0 0)
 g1:wr.cell? ⟨w.heap.size,1,none⟩=some (.slice none 0 0)
 gf:∀j,wr.frozen? ⟨w.heap.size,j,none⟩=false
theorem infoCl:(Tryz.prog.info? 62).map (fun i=>(i.zero,i.size,i.bytes))=some (some (.agg #[iv 0,iv 0,iv 0,iv 0,iv 0,iv 0,iv 0,.slice none 0 0]),8,80):=by kernel_rfl
abbrev gW(w:World)(br:Nat):World:=(w.alloc (.cells #[.slice none 0 0,.slice none 0 0] 44)).alloc (.cells #[iv 0,iv 0,iv 0,.slice (some ⟨br,0,none⟩) 16 16,.slice none 0 0,iv 0,iv 0,iv 0,.slice none 0 0,iv 0,iv 0,iv 0,iv 0] 34)
theorem GI.start(w:World)(br:Nat)(T:List (List Pr))(pb:Nat→Nat):GI w (gW w br) br (w.heap.size+1) 0 T pb (.slice none 0 0):=by
 refine⟨((Ext.refl w).alloc _).alloc _,fun j hj h3 h4 h8=>?_,by simp [go_sem],by simp [go_sem],by simp [go_sem],⟨by simp,fun j=>by simp [go_sem]⟩,by simpa using World.ownsRow_nil _ _ _ _,by simp [go_sem],by simp [go_sem],fun j=>by simp [go_sem]⟩;have:j=0∨j=1∨j=2∨j=5∨j=6∨j=7∨j=9∨j=10∨j=11∨j=12:=by omega
 rcases this with rfl | rfl | rfl | rfl | rfl | rfl | rfl | rfl | rfl | rfl <;> simp [go_sem]
theorem GI.push{w wr W w5:World}{br bg k gb cap:Nat}{T:List (List Pr)}{pb:Nat→Nat}{vc:Value}(h:GI w wr br bg k T pb vc)(hb:bg=w.heap.size+1)(x:Ext wr W)(how:w5.ownsRow (w.heap.size+2) 62 8 (.slice (some ⟨gb,0,none⟩) (k+1) cap) (k+1) ((List.range k).flatMap (fG T pb)++fG T pb k))(hgr:W.grownBy w5 vc.ownBlock):GI w (w5.setCell ⟨bg,4,none⟩ (.slice (some ⟨gb,0,none⟩) (k+1) cap)) br bg (k+1) T pb (.slice (some ⟨gb,0,none⟩) (k+1) cap):=by
 have ow:=ownsRow_of_block h.ow (fun q hq=>x.block q (h.ow.lt q hq).2);have bl:bg<W.heap.size:=Nat.lt_of_lt_of_le h.nf.1 x.size;obtain⟨a,b,c,d,e,f⟩:=box_push (o:=4) (u:=.slice (some ⟨gb,0,none⟩) (k+1) cap) (bg:=bg) (base:=w.heap.size+2) (by omega) (h.e.trans x) ow (by omega) bl hgr how;have gl:w.heap.size<W.heap.size:=Nat.lt_of_lt_of_le (cell_lt h.g0) x.size;have gb':=f w.heap.size gl (by omega) (fun e=>by have:=(ow.lt _ e).1;omega);have gk:∀j u,W.cell? ⟨w.heap.size,j,none⟩=some u→(w5.setCell ⟨bg,4,none⟩ (.slice (some ⟨gb,0,none⟩) (k+1) cap)).cell? ⟨w.heap.size,j,none⟩=some u:=fun j u e=>(World.cell?_of_block (a:=⟨w.heap.size,j,none⟩) gb').trans e
 refine⟨b,fun j hj h3 h4 h8=>(c j h4).trans (x.keep (h.c j hj h3 h4 h8)),(c 3 (by omega)).trans (x.keep h.c3),e vc (x.keep h.c4),(c 8 (by omega)).trans (x.keep h.c8),⟨Nat.lt_of_lt_of_le bl (by simpa [World.setCell] using hgr.size),fun j=>(d j).trans (((bcell x).2 bg j h.nf.1).trans (h.nf.2 j))⟩,?_,gk _ _ (x.keep h.g0),gk _ _ (x.keep h.g1),fun j=>(World.frozen?_of_block (a:=⟨w.heap.size,j,none⟩) gb').trans (((bcell x).2 _ j (cell_lt h.g0)).trans (h.gf j))⟩;rw[List.range_succ,List.flatMap_append]
 simpa using a
theorem GI.hat{N s:Nat}{R:Int}{g:List Wd}{T:List (List Pr)}{w wr:World}{br bg:Nat}{ad:Option Addr}{kt:Nat}{pb:Nat→Nat}{vc:Value}(h:GI w wr br bg T.length T pb vc)(i:IR N w s R g T br ad kt pb)(hg:g.length=16)(hT:T.length≤2000)(hl:∀i,i<T.length→(tI T i).length≤200):∃ac kc,HAt wr bg (gX g T) (some ⟨br,0,none⟩) 16 ac kc none 0:=by
 obtain⟨ac,kc,e,_,q⟩:=own_cells (f:=fG T pb) (c:=8) (fun _=>rfl) (L:=List.range T.length) (by simpa using h.ow);simp only [List.length_range] at e q;have c:=fun j a b d f=>h.c j a b d f
 refine⟨ac,kc,c 0 (by omega) (by omega) (by omega) (by omega),c 1 (by omega) (by omega) (by omega) (by omega),c 2 (by omega) (by omega) (by omega) (by omega),by rw[show(gX g T).regs.length=16 from hg];exact h.c3,by rw[gX_n,←e];exact h.c4,c 5 (by omega) (by omega) (by omega) (by omega),c 6 (by omega) (by omega) (by omega) (by omega),c 7 (by omega) (by omega) (by omega) (by omega),h.c8,c 9 (by omega) (by omega) (by omega) (by omega),c 10 (by omega) (by omega) (by omega) (by omega),c 11 (by omega) (by omega) (by omega) (by omega),c 12 (by omega) (by omega) (by omega) (by omega),by rw[show(gX g T).regs.length=16 from hg];omega,by rw[gX_n];omega,by simp [gX],fun j hj=>⟨br,0,rfl,?_⟩,fun j hj=>?_,fun j hj=>by simp [gX] at hj⟩
 ·have l:j<g.length:=hj;have er:(gX g T).regs[j]=rI g j:=by unfold rI;rw[List.getD_eq_getElem?_getD,List.getElem?_eq_getElem l];rfl
  have z:=(i.rg j (by omega)).ext h.e;rw[←er] at z;rw[Nat.zero_add];exact z
 ·rw[gX_n] at hj;rw[gX_c g T j hj];obtain⟨b,e1,_,_,z⟩:=q j hj;obtain⟨_,_,nd⟩:=i.th j hj;simp only [List.getElem_range] at z;refine⟨b,0,e1,.slice (some ⟨pb j,0,none⟩) (tI T j).length (tI T j).length,z 0 (by omega),z 1 (by omega),z 2 (by omega),z 3 (by omega),z 4 (by omega),z 5 (by omega),z 6 (by omega),z 7 (by omega),⟨_,_,rfl,by have:=hl j hj;show(tI T j).length≤_;omega,fun k hk=>⟨pb j,0,rfl,?_⟩⟩⟩;have hk:k<(tI T j).length:=hk;have p:=(nd.pr k hk).ext h.e;have ep:(gC T j).prs[k]=pI (tI T j) k:=by unfold pI;rw[List.getD_eq_getElem?_getD,List.getElem?_eq_getElem hk];rfl
  rw[←ep] at p;rw[Nat.zero_add];exact p
structure AppG(B:Nat)(W:World)(vc:Value)(k:Nat)(T:List (List Pr))(pb:Nat→Nat)(q cap:Nat)(w':World):Prop where
 ow:w'.ownsRow B 62 8 (.slice (some ⟨q,0,none⟩) (k+1) cap) (k+1) ((List.range k).flatMap (fG T pb)++fG T pb k)
 gr:W.grownBy w' vc.ownBlock
theorem step_appG{ops:Array Oper}{o:Oper}{a:Act}{K:Act→World→Prop}{Q:Exit→Act→World→Prop}{E:Prop}(W:World)(hgd:o.guard=none)(s0 y:Operand)
  (ho:o.op=.call { callee:=.builtin .append,args:=#[s0,y],argTypes:=#[31,31] })
  {B k:Nat} {T:List (List Pr)} {pb:Nat→Nat} {vc:Value} (ow:W.ownsRow B 62 8 vc k ((List.range k).flatMap (fG T pb))) (hk:k≤2000) (hB:B≤W.heap.size) (ad:Addr) (hs:a.eval s0=vc) (hy:a.eval y=.slice (some ad) 1 1) (hn:∀j u,(fG T pb k)[j]?=some u→W.cell? (ad.add j)=some u)
  (hK:∀q cap w',AppG B W vc k T pb q cap w'→K (a.put o.dst (.slice (some ⟨q,0,none⟩) (k+1) cap)) w') :
  if Region.wanted o (yielded ops a.tmps)=true then Oper.wp Tryz.prog o a W K Q else E:=by
 obtain⟨i0,hi0,hz0,hz1,hz2⟩:=info_parts infoCl;refine step_append_lies (w:=W) hgd s0 y 31 ho B 62 i0 (.agg #[iv 0,iv 0,iv 0,iv 0,iv 0,iv 0,iv 0,.slice none 0 0]) 8 80 Tryz.underlying31 hi0 hz0 hz1 hz2 rfl (by decide) vc k _ hs ow ad 1 1 (fG T pb k) hy rfl hn (fun u hu=>?_) (by decide) (by unfold maxLen;omega) (by omega) hB _ rfl (fun q cap w' how hgr _ _=>hK q cap w' ⟨how,hgr⟩);simp only [fG,fC,List.mem_cons,List.not_mem_nil,or_false] at hu;rcases hu with e | e | e | e | e | e | e | e <;> subst e <;> rfl
theorem AppG.cf{B k q cap bg:Nat}{W Wx w':World}{vc v:Value}{T:List (List Pr)}{pb:Nat→Nat}(h:AppG B Wx vc k T pb q cap w')(ow:W.ownsRow B 62 8 vc k ((List.range k).flatMap (fG T pb)))(hb:bg<B)(x:Ext W Wx)(c:W.cell? ⟨bg,4,none⟩=some v)(f:W.frozen? ⟨bg,4,none⟩=false):w'.cell? ⟨bg,4,none⟩=some v∧w'.frozen? ⟨bg,4,none⟩=false∧bg<w'.heap.size:=by
 have l:bg<W.heap.size:=cell_lt c;have l2:bg<Wx.heap.size:=Nat.lt_of_lt_of_le l x.size;have e:=h.gr.block bg l2 (fun e=>by have:=(ow.lt bg e.symm).1;omega);exact⟨(World.cell?_of_block (a:=⟨bg,4,none⟩) e).trans (x.keep c),(World.frozen?_of_block (a:=⟨bg,4,none⟩) e).trans (((bcell x).2 bg 4 l).trans f),Nat.lt_of_lt_of_le l2 h.gr.size⟩
theorem GI.ext{w wr W:World}{br bg k:Nat}{T:List (List Pr)}{pb:Nat→Nat}{vc:Value}(h:GI w wr br bg k T pb vc)(x:Ext wr W):GI w W br bg k T pb vc:=⟨h.e.trans x,fun j a b c d=>x.keep (h.c j a b c d),x.keep h.c3,x.keep h.c4,x.keep h.c8,⟨Nat.lt_of_lt_of_le h.nf.1 x.size,fun j=>((bcell x).2 bg j h.nf.1).trans (h.nf.2 j)⟩,ownsRow_of_block h.ow (fun q hq=>x.block q (h.ow.lt q hq).2),x.keep h.g0,x.keep h.g1,fun j=>((bcell x).2 _ j (cell_lt h.g0)).trans (h.gf j)⟩
theorem graph_any(N s:Nat)(R:Int)(g:List Wd)(T:List (List Pr))(w:World){br:Nat}{ad:Option Addr}{kt:Nat}{pb:Nat→Nat}(h:IR N w s R g T br ad kt pb)(hN:N≤w.heap.size)(hg:g.length=16)(hT:T.length≤2000)(hl:∀i,i<T.length→(tI T i).length≤200)(r2:R2w (gX g T))(r4:R4 (gX g T)):
  Calls Tryz.prog 62 #[.pointer (some ⟨s,0,none⟩)] w fun e w'=>∃ar nr cr an nn cn,Hid (e=.returned (.agg #[.slice ar nr cr,.slice an nn cn]))∧Ext w w':=by
 have HI:=hide h;have c1:=h.c1;have c2:=h.c2;have hs:s<w.heap.size:=by have:=h.lt;omega
 have I0:=hide (GI.start w br T pb);have R2':=hide r2;have R4':=hide r4;obtain⟨i0,hi0,hz0,hz1,hz2⟩:=info_parts infoCl;clear h r2 r4;go_enter Tryz.func62,Tryz.ntmps62;go_wp2_with fail;go_loopw [17] (fun i wr=>∃(k:Nat) (vc:Value),k≤T.length∧i=.int .i64 k∧Hid (GI w wr br (w.heap.size+1) k T pb vc)) (fun i _=>T.length-(intOf i).toNat)
 case atStart=>exact⟨0,_,Nat.zero_le _,rfl,I0⟩
 case round=>
  clear I0 c1 c2;obtain⟨k,vc,hk,rfl,hi⟩:=hrel;by_cases hlt:k<T.length
  ·obtain⟨b,rfl,nd⟩:=(unhide HI).th k hlt;have n0:=(unhide hi).e.keep nd.c0;have n1:=(unhide hi).e.keep nd.c1;have n2:=(unhide hi).e.keep nd.c2;have n3:=(unhide hi).e.keep nd.c3;have n4:=(unhide hi).e.keep nd.c4;have hk0:(0:Int)≤(k:Int):=by omega
   have hk1:(k:Int)<(T.length:Int):=by omega
   have b4:=(unhide hi).c4;have bf:=(unhide hi).nf.2 4;have hbg:w.heap.size+1<wr.heap.size:=(unhide hi).nf.1;have hbw:b<wr.heap.size:=cell_lt n0;have nq:¬wr.heap.size=w.heap.size+1:=by omega
   have xa:=(Ext.refl wr).alloc (.cells #[iv 0,iv 0,iv 0,iv 0,.slice (some ⟨pb k,0,none⟩) (tI T k).length (tI T k).length] 99);obtain⟨W,hW⟩:∃W,W=wr.alloc (.cells #[iv 0,iv 0,iv 0,iv 0,.slice (some ⟨pb k,0,none⟩) (tI T k).length (tI T k).length] 99):=⟨_,rfl⟩;have t0:W.cell? ⟨wr.heap.size,0,none⟩=some (iv 0):=by rw[hW];simp [go_sem]
   have t1:W.cell? ⟨wr.heap.size,1,none⟩=some (iv 0):=by rw[hW];simp [go_sem]
   have t2:W.cell? ⟨wr.heap.size,2,none⟩=some (iv 0):=by rw[hW];simp [go_sem]
   have t4:W.cell? ⟨wr.heap.size,4,none⟩=some (.slice (some ⟨pb k,0,none⟩) (tI T k).length (tI T k).length):=by rw[hW];simp [go_sem]
   go_upto_region 5 with(fail)
   rw[←hW] at xa ⊢;have b4:=xa.keep b4;have bf:=((bcell xa).2 _ 4 hbg).trans bf;have hbg:w.heap.size+1<W.heap.size:=cell_lt b4;have hwr:wr.heap.size<W.heap.size:=cell_lt t0;have OW:=hide (ownsRow_of_block (unhide hi).ow (fun q hq=>xa.block q ((unhide hi).ow.lt q hq).2));have XA:=hide xa;have hwk:IntKind.i64.wrap ((k:Int)+1)=(k:Int)+1:=by rw[IntKind.wrap_i64];omega
   have OWD:=hide (ownsRow_of_block (w':=W.drew) (unhide OW) (fun _ _=>rfl));clear n0 n1 n2 n3 n4 nd hW xa;have HFB:=hide (heap_alloc_new W (.cells #[iv 1,iv 0,iv 0,iv 0,iv ((k:Int)+1),iv 0,iv 0,.slice (some ⟨pb k,0,none⟩) (tI T k).length (tI T k).length] 62));refine wp_region_held_drew (S:=fun W'=>W'.cell? ⟨wr.heap.size,0,none⟩=some (iv 0)∧W'.cell? ⟨wr.heap.size,1,none⟩=some (iv 0)∧W'.cell? ⟨wr.heap.size,2,none⟩=some (iv 0)∧W'.cell? ⟨wr.heap.size,4,none⟩=some (.slice (some ⟨pb k,0,none⟩) (tI T k).length (tI T k).length)) (by kernel_rfl) ⟨t0,t1,t2,t4⟩ (fun hHeld=>?_);refine wpAnyH_take (i:=0) (v:=?_) rfl (by kernel_rfl) (by kernel_rfl) (by kernel_rfl) (fun _ _ _ h=>h) (Or.inl ⟨by rfl,?_⟩) hHeld ?_;rotate_left
   ·(intro w' hSw;(try dsimp only at hSw);go_simp;try with_reducible rfl)
   try simp only [Act.put,List.setIfInBounds_toArray,List.set_cons_zero,List.set_cons_succ]
   refine wpAnyH_take (i:=1) (v:=?_) rfl (by kernel_rfl) (by kernel_rfl) (by kernel_rfl) (fun _ _ _ h=>h) (Or.inl ⟨by rfl,?_⟩) hHeld ?_;rotate_left
   ·(intro w' hSw;(try dsimp only at hSw);go_simp;try with_reducible rfl)
   try simp only [Act.put,List.setIfInBounds_toArray,List.set_cons_zero,List.set_cons_succ]
   refine wpAnyH_take (i:=2) (v:=?_) rfl (by kernel_rfl) (by kernel_rfl) (by kernel_rfl) (fun _ _ _ h=>h) (Or.inl ⟨by rfl,?_⟩) hHeld ?_;rotate_left
   ·(intro w' hSw;(try dsimp only at hSw);go_simp;try with_reducible rfl)
   try simp only [Act.put,List.setIfInBounds_toArray,List.set_cons_zero,List.set_cons_succ]
   refine wpAnyH_take (i:=3) (v:=?_) rfl (by kernel_rfl) (by kernel_rfl) (by kernel_rfl) (fun _ _ _ h=>h) (Or.inl ⟨by rfl,?_⟩) hHeld ?_;rotate_left
   ·(intro w' hSw;(try dsimp only at hSw);go_simp;try with_reducible rfl)
   try simp only [Act.put,List.setIfInBounds_toArray,List.set_cons_zero,List.set_cons_succ]
   refine wpAnyH_take (i:=5) (v:=?_) rfl (by kernel_rfl) (by kernel_rfl) (by kernel_rfl) (fun _ _ _ h=>h) (Or.inl ⟨by rfl,?_⟩) hHeld ?_;rotate_left
   ·(intro w' hSw;(try dsimp only at hSw);go_simp;try with_reducible rfl)
   try simp only [Act.put,List.setIfInBounds_toArray,List.set_cons_zero,List.set_cons_succ]
   refine wpAnyH_take (i:=6) (v:=?_) rfl (by kernel_rfl) (by kernel_rfl) (by kernel_rfl) (fun _ _ _ h=>h) (Or.inl ⟨by rfl,?_⟩) hHeld ?_;rotate_left
   ·(intro w' hSw;(try dsimp only at hSw);go_simp;try with_reducible rfl)
   try simp only [Act.put,List.setIfInBounds_toArray,List.set_cons_zero,List.set_cons_succ]
   refine wpAnyH_take (i:=7) (v:=?_) rfl (by kernel_rfl) (by kernel_rfl) (by kernel_rfl) (fun _ _ _ h=>h) (Or.inl ⟨by rfl,?_⟩) hHeld ?_;rotate_left
   ·(intro w' hSw;(try dsimp only at hSw);go_simp;try with_reducible rfl)
   try simp only [Act.put,List.setIfInBounds_toArray,List.set_cons_zero,List.set_cons_succ]
   refine wpAnyH_take (i:=8) (v:=?_) rfl (by kernel_rfl) (by kernel_rfl) (by kernel_rfl) (fun _ _ _ h=>h) (Or.inl ⟨by rfl,?_⟩) hHeld ?_;rotate_left
   ·(intro w' hSw;(try dsimp only at hSw);go_simp;try with_reducible rfl)
   try simp only [Act.put,List.setIfInBounds_toArray,List.set_cons_zero,List.set_cons_succ]
   refine wpAnyH_take (i:=9) (v:=?_) rfl (by kernel_rfl) (by kernel_rfl) (by kernel_rfl) (fun _ _ _ h=>h) (Or.inl ⟨by rfl,?_⟩) hHeld ?_;rotate_left
   ·(intro w' hSw;(try dsimp only at hSw);go_simp;try with_reducible rfl)
   try simp only [Act.put,List.setIfInBounds_toArray,List.set_cons_zero,List.set_cons_succ]
   refine wpAnyH_take (i:=10) (v:=?_) rfl (by kernel_rfl) (by kernel_rfl) (by kernel_rfl) (fun _ _ _ h=>h) (Or.inl ⟨by rfl,?_⟩) hHeld ?_;rotate_left
   ·(intro w' hSw;(try dsimp only at hSw);go_simp;try with_reducible rfl)
   try simp only [Act.put,List.setIfInBounds_toArray,List.set_cons_zero,List.set_cons_succ]
   refine wpAnyH_take (i:=11) (v:=?_) rfl (by kernel_rfl) (by kernel_rfl) (by kernel_rfl) (fun _ _ _ h=>h) (Or.inl ⟨by rfl,?_⟩) hHeld ?_;rotate_left
   ·(intro w' hSw;(try dsimp only at hSw);go_simp;try with_reducible rfl)
   try simp only [Act.put,List.setIfInBounds_toArray,List.set_cons_zero,List.set_cons_succ]
   refine wpAnyH_take (i:=12) (v:=?_) rfl (by kernel_rfl) (by kernel_rfl) (by kernel_rfl) (fun _ _ _ h=>h) (Or.inl ⟨by rfl,?_⟩) hHeld ?_;rotate_left
   ·(intro w' hSw;(try dsimp only at hSw);go_simp;try with_reducible rfl)
   try simp only [Act.put,List.setIfInBounds_toArray,List.set_cons_zero,List.set_cons_succ]
   refine wpAnyH_take (i:=13) (v:=?_) rfl (by kernel_rfl) (by kernel_rfl) (by kernel_rfl) (fun _ _ _ h=>h) (Or.inl ⟨by rfl,?_⟩) hHeld ?_;rotate_left
   ·(intro w' hSw;(try dsimp only at hSw);go_simp;try with_reducible rfl)
   try simp only [Act.put,List.setIfInBounds_toArray,List.set_cons_zero,List.set_cons_succ]
   refine wpAnyH_take (i:=14) (v:=?_) rfl (by kernel_rfl) (by kernel_rfl) (by kernel_rfl) (fun _ _ _ h=>h) (Or.inl ⟨by rfl,?_⟩) hHeld ?_;rotate_left
   ·(intro w' hSw;(try dsimp only at hSw);go_simp;try with_reducible rfl)
   try simp only [Act.put,List.setIfInBounds_toArray,List.set_cons_zero,List.set_cons_succ]
   refine wpAnyH_take (i:=15) (v:=?_) rfl (by kernel_rfl) (by kernel_rfl) (by kernel_rfl) (fun _ _ _ h=>h) (Or.inl ⟨by rfl,?_⟩) hHeld ?_;rotate_left
   ·(intro w' hSw;(try dsimp only at hSw);go_simp;try with_reducible rfl)
   try simp only [Act.put,List.setIfInBounds_toArray,List.set_cons_zero,List.set_cons_succ]
   have SA:∀(V:World) (o:Obj),(V.cell? ⟨wr.heap.size,0,none⟩=some (iv 0)∧V.cell? ⟨wr.heap.size,1,none⟩=some (iv 0)∧V.cell? ⟨wr.heap.size,2,none⟩=some (iv 0)∧V.cell? ⟨wr.heap.size,4,none⟩=some (.slice (some ⟨pb k,0,none⟩) (tI T k).length (tI T k).length))→((V.alloc o).cell? ⟨wr.heap.size,0,none⟩=some (iv 0)∧(V.alloc o).cell? ⟨wr.heap.size,1,none⟩=some (iv 0)∧(V.alloc o).cell? ⟨wr.heap.size,2,none⟩=some (iv 0)∧(V.alloc o).cell? ⟨wr.heap.size,4,none⟩=some (.slice (some ⟨pb k,0,none⟩) (tI T k).length (tI T k).length)):=fun V o h=>⟨((Ext.refl V).alloc o).keep h.1,((Ext.refl V).alloc o).keep h.2.1,((Ext.refl V).alloc o).keep h.2.2.1,((Ext.refl V).alloc o).keep h.2.2.2⟩
   have SH:=hide SA;clear SA;have XD:=hide (((Ext.refl W).alloc (.cells #[iv 1,iv 0,iv 0,iv 0,iv ((k:Int)+1),iv 0,iv 0,.slice (some ⟨pb k,0,none⟩) (tI T k).length (tI T k).length] 62)).drew);have VB:=hide (show vc.ownBlock≠some wr.heap.size from fun e=>by have:=((unhide hi).ow.lt _ e).2;omega);refine wpAnyH_ready (rs:=[4,16]) (by kernel_rfl) (by simp) ?_;refine AllReadyH.cons rfl (fun K hK=>?_) (AllReadyH.cons rfl (fun K hK=>?_) AllReadyH.nil)
   ·go_simp
    refine hK.out _ _ (by assumption) (fun hHeld=>?_);clear hK K;refine wpAnyH_ready (rs:=[16]) (by kernel_rfl) (by simp) ?_;refine AllReadyH.cons rfl (fun K hK=>?_) AllReadyH.nil
    go_simp
    refine hK.out _ _ (unhide SH _ _ hHeld) (fun hHeld=>?_);clear hK K;refine wpAnyH_ready (rs:=[17]) (by kernel_rfl) (by simp) ?_;refine AllReadyH.cons rfl (fun K hK=>?_) AllReadyH.nil;refine step_appG _ rfl _ _ rfl (B:=w.heap.size+2) (k:=k) (T:=T) (pb:=pb) (vc:=vc) (ownsRow_of_block (unhide OW) (fun q hq=>(unhide XD).block q ((unhide OW).lt q hq).2)) (by omega) (Nat.le_trans (show w.heap.size+2≤W.heap.size by omega) (unhide XD).size) ⟨W.heap.size,0,none⟩ (by first | rfl | simp [Act.eval,Act.put]) (by first | rfl | (simp [Act.eval,Act.put];rfl)) (World.news_of_block (cs:=#[iv 1,iv 0,iv 0,iv 0,iv ((k:Int)+1),iv 0,iv 0,.slice (some ⟨pb k,0,none⟩) (tI T k).length (tI T k).length]) (unhide HFB)) ?_;intro gb cap5 w5 hap;obtain⟨b4',bf',hb5⟩:=hap.cf (unhide OW) (show w.heap.size+1<w.heap.size+2 by omega) (unhide XD) b4 bf;have PB:=hide ((unhide hi).push rfl ((unhide XA).trans (unhide XD)) hap.ow hap.gr);have S5:=hide (fun(j:Nat) (u:Value) (h:(W.alloc (.cells #[iv 1,iv 0,iv 0,iv 0,iv ((k:Int)+1),iv 0,iv 0,.slice (some ⟨pb k,0,none⟩) (tI T k).length (tI T k).length] 62)).drew.cell? ⟨wr.heap.size,j,none⟩=some u)=>(World.cell?_of_block (a:=⟨wr.heap.size,j,none⟩) (hap.gr.block wr.heap.size (cell_lt h) (fun e=>unhide VB e.symm))).trans h);refine hK.out _ _ ⟨unhide S5 _ _ hHeld.1,unhide S5 _ _ hHeld.2.1,unhide S5 _ _ hHeld.2.2.1,unhide S5 _ _ hHeld.2.2.2⟩ (fun hHeld=>?_);clear hK K hap S5
    try simp only [Act.put,List.setIfInBounds_toArray,List.set_cons_zero,List.set_cons_succ]
    refine wpAnyH_take (i:=18) (v:=?_) rfl (by kernel_rfl) (by kernel_rfl) (by kernel_rfl) (fun _ _ _ h=>h) (Or.inl ⟨by rfl,?_⟩) hHeld ?_;rotate_left
    ·(intro w' hSw;(try dsimp only at hSw);go_simp;try with_reducible rfl)
    try simp only [Act.put,List.setIfInBounds_toArray,List.set_cons_zero,List.set_cons_succ]
    refine wpAnyH_take (i:=19) (v:=?_) rfl (by kernel_rfl) (by kernel_rfl) (by kernel_rfl) (fun _ _ _ h=>h) (Or.inl ⟨by rfl,?_⟩) hHeld ?_;rotate_left
    ·(intro w' hSw;(try dsimp only at hSw);go_simp;try with_reducible rfl)
    try simp only [Act.put,List.setIfInBounds_toArray,List.set_cons_zero,List.set_cons_succ]
    refine wpAnyH_ready (rs:=[20]) (by kernel_rfl) (by simp) ?_;refine AllReadyH.cons rfl (fun K hK=>?_) AllReadyH.nil
    go_simp
    refine hK.out _ _ ⟨(cell_other _ (.inl (fun e=>nq e.symm))).trans hHeld.1,(cell_other _ (.inl (fun e=>nq e.symm))).trans hHeld.2.1,(cell_other _ (.inl (fun e=>nq e.symm))).trans hHeld.2.2.1,(cell_other _ (.inl (fun e=>nq e.symm))).trans hHeld.2.2.2⟩ (fun hHeld=>?_);clear hK K;refine wpAnyH_done (by kernel_rfl) ?_ _;go_wp2_with fail;go_roundw
    case rel=>exact⟨k+1,_,hlt,by go_num,PB⟩
    case measure=>simp [intOf];omega
   ·go_simp
    refine hK.out _ _ (unhide SH _ _ hHeld) (fun hHeld=>?_);clear hK K;refine wpAnyH_ready (rs:=[4]) (by kernel_rfl) (by simp) ?_;refine AllReadyH.cons rfl (fun K hK=>?_) AllReadyH.nil
    go_simp
    refine hK.out _ _ (by assumption) (fun hHeld=>?_);clear hK K;refine wpAnyH_ready (rs:=[17]) (by kernel_rfl) (by simp) ?_;refine AllReadyH.cons rfl (fun K hK=>?_) AllReadyH.nil;refine step_appG _ rfl _ _ rfl (B:=w.heap.size+2) (k:=k) (T:=T) (pb:=pb) (vc:=vc) (ownsRow_of_block (unhide OW) (fun q hq=>(unhide XD).block q ((unhide OW).lt q hq).2)) (by omega) (Nat.le_trans (show w.heap.size+2≤W.heap.size by omega) (unhide XD).size) ⟨W.heap.size,0,none⟩ (by first | rfl | simp [Act.eval,Act.put]) (by first | rfl | (simp [Act.eval,Act.put];rfl)) (World.news_of_block (cs:=#[iv 1,iv 0,iv 0,iv 0,iv ((k:Int)+1),iv 0,iv 0,.slice (some ⟨pb k,0,none⟩) (tI T k).length (tI T k).length]) (unhide HFB)) ?_;intro gb cap5 w5 hap;obtain⟨b4',bf',hb5⟩:=hap.cf (unhide OW) (show w.heap.size+1<w.heap.size+2 by omega) (unhide XD) b4 bf;have PB:=hide ((unhide hi).push rfl ((unhide XA).trans (unhide XD)) hap.ow hap.gr);have S5:=hide (fun(j:Nat) (u:Value) (h:(W.alloc (.cells #[iv 1,iv 0,iv 0,iv 0,iv ((k:Int)+1),iv 0,iv 0,.slice (some ⟨pb k,0,none⟩) (tI T k).length (tI T k).length] 62)).drew.cell? ⟨wr.heap.size,j,none⟩=some u)=>(World.cell?_of_block (a:=⟨wr.heap.size,j,none⟩) (hap.gr.block wr.heap.size (cell_lt h) (fun e=>unhide VB e.symm))).trans h);refine hK.out _ _ ⟨unhide S5 _ _ hHeld.1,unhide S5 _ _ hHeld.2.1,unhide S5 _ _ hHeld.2.2.1,unhide S5 _ _ hHeld.2.2.2⟩ (fun hHeld=>?_);clear hK K hap S5
    try simp only [Act.put,List.setIfInBounds_toArray,List.set_cons_zero,List.set_cons_succ]
    refine wpAnyH_take (i:=18) (v:=?_) rfl (by kernel_rfl) (by kernel_rfl) (by kernel_rfl) (fun _ _ _ h=>h) (Or.inl ⟨by rfl,?_⟩) hHeld ?_;rotate_left
    ·(intro w' hSw;(try dsimp only at hSw);go_simp;try with_reducible rfl)
    try simp only [Act.put,List.setIfInBounds_toArray,List.set_cons_zero,List.set_cons_succ]
    refine wpAnyH_take (i:=19) (v:=?_) rfl (by kernel_rfl) (by kernel_rfl) (by kernel_rfl) (fun _ _ _ h=>h) (Or.inl ⟨by rfl,?_⟩) hHeld ?_;rotate_left
    ·(intro w' hSw;(try dsimp only at hSw);go_simp;try with_reducible rfl)
    try simp only [Act.put,List.setIfInBounds_toArray,List.set_cons_zero,List.set_cons_succ]
    refine wpAnyH_ready (rs:=[20]) (by kernel_rfl) (by simp) ?_;refine AllReadyH.cons rfl (fun K hK=>?_) AllReadyH.nil
    go_simp
    refine hK.out _ _ ⟨(cell_other _ (.inl (fun e=>nq e.symm))).trans hHeld.1,(cell_other _ (.inl (fun e=>nq e.symm))).trans hHeld.2.1,(cell_other _ (.inl (fun e=>nq e.symm))).trans hHeld.2.2.1,(cell_other _ (.inl (fun e=>nq e.symm))).trans hHeld.2.2.2⟩ (fun hHeld=>?_);clear hK K;refine wpAnyH_done (by kernel_rfl) ?_ _;go_wp2_with fail;go_roundw
    case rel=>exact⟨k+1,_,hlt,by go_num,PB⟩
    case measure=>simp [intOf];omega
  ·have ek:k=T.length:=by omega
   subst ek;obtain⟨ac,kc,hh⟩:=(unhide hi).hat (unhide HI) hg hT hl;have QS:=hide (l2shape_r (gX g T) (w.heap.size+1) wr hh (unhide R2') (unhide R4') (by rw[gX_n];omega) (fun j hj=>by rw[gX_n] at hj;rw[gX_c g T j hj];exact hl j hj) (by rw[show(gX g T).regs.length=16 from hg];omega));have EX:=(unhide hi).e;clear hh;go_wp2_with fail;refine(unhide QS).mono ?_;rintro e w6 ⟨vr,vn,he,hsh,x6⟩;have e2:=unhide he;subst e2;obtain⟨N',_,hq⟩:=unhide hsh;obtain⟨⟨ar,cr,er,_,_⟩,⟨an,cn,en,_,_⟩⟩:=hq w6 (Only.refl _ _);subst er en;clear hq hsh;have g0:=x6.keep (unhide hi).g0;have g1:=x6.keep (unhide hi).g1;have gf:=fun j=>((bcell x6).2 w.heap.size j (cell_lt (unhide hi).g0)).trans ((unhide hi).gf j)
   have gl:w.heap.size<w6.heap.size:=cell_lt g0;have X6:=hide (EX.trans x6);clear he QS;go_wp2_with fail;refine bodyPost_ret (v:=.agg #[.slice ar (gR (gX g T) N').length cr,.slice an (gL (gX g T) N').length cn]) (by simp [results,Tryz.results62,go_sem,g0,g1]) rfl ?_;exact⟨_,_,_,_,_,_,rfl,((unhide X6).setCell (p:=⟨w.heap.size,0,none⟩) (Nat.le_refl _) _).setCell (p:=⟨w.heap.size,1,none⟩) (Nat.le_refl _) _⟩
theorem ideally_any(R:Nat)(h1:1≤R)(h2:R≤4000)(L:List Ak)(gF:List Wd)(TF:List (List Pr))(t l:Nat)(va:Value)(w:World)(hS:SlA w va L)(hn:L.length≤1000)(run:Rni R g0I [] L gF TF)(j:Ji gF TF t l)(hT:TF.length≤2000):
  Calls Tryz.prog 18 #[.int .i64 R,va] w fun e w'=>∃am cm ar nr cr an nn cn n,Hid (e=.returned (.agg #[.bool true,.slice am L.length cm,.slice ar nr cr,.slice an nn cn,iv n]))∧Hid (SlM w' (.slice am L.length cm) (List.replicate L.length 0))∧Ext w w':=by
 have HJ:=hide j;obtain⟨ad,cap,hva⟩:=slA_form hS;subst hva;have xb:=(Ext.refl w).alloc (.cells #[.bool false,.slice none 0 0,.slice none 0 0,.slice none 0 0,iv 0] 46);have QI:=hide (l6ideally_any R L gF TF _ _ (SlA.ext xb hS) hn (by omega) run);clear hS run j;go_enter Tryz.func18,Tryz.ntmps18;go_wp2_with fail;refine(l1in_in R 1 4000 _ (by omega) (by omega)).mono ?_;rintro e w1 ⟨rfl,rfl⟩;have hn':¬((L.length:Int) > 1000):=by omega
 go_wp2_with fail;refine(unhide QI).mono ?_;rintro e w2 ⟨s,br,vo,he,hli⟩;have e2:=unhide he;subst e2;obtain⟨g1,T1,vt,pb,hrn,hiw⟩:=(unhide hli).ex;rw[List.drop_length] at hrn;obtain⟨q1,q2⟩:=hrn;subst q1 q2;obtain⟨ad2,kt,hvt,hir⟩:=hiw.form;have SM:=hide (ownZ (by simpa using (unhide hli).ow) (by simp;omega):SlM w2 vo (List.replicate L.length 0));obtain⟨am,cm,hvo,_,_⟩:=unhide SM;subst hvo;simp only [List.length_replicate] at SM he hli ⊢
 have SMF:=hide (fun(W5:World) (o:Only (fun q=>q=w.heap.size) w2 W5)=>(ownZ (by
  have ow:=(unhide hli).ow;simp only [List.length_replicate];exact ownsRow_of_block ow (fun q hq=>o.block q (ow.lt q hq).2 (fun e=>by have:=(ow.lt q hq).1;simp at this;omega))) (by simp;omega):SlM W5 (.slice am L.length cm) (List.replicate L.length 0)))
 have X2:=hide (unhide hli).e;have HR:=hide hir;have c2:=hir.c2;have hs2:s<w2.heap.size:=hir.lt.1;have QG:=hide (fun W (e:Ext w2 W)=>graph_any _ s R gF TF W (hir.below (e.mono (Nat.le_refl _))) e.size (unhide HJ).n hT (unhide HJ).ln (gX_r2 gF TF (unhide HJ).ln) (gX_r4 gF TF (unhide HJ).n (unhide HJ).fr (unhide HJ).fp));clear he hli hiw hir QI
 have BX:=hide (show(∀j,j<5→∃u,w2.cell? ⟨w.heap.size,j,none⟩=some u)∧(∀j,w2.frozen? ⟨w.heap.size,j,none⟩=false) from⟨fun j hj=>by
  have:j=0∨j=1∨j=2∨j=3∨j=4:=by omega
  rcases this with rfl | rfl | rfl | rfl | rfl <;> exact⟨_,(unhide X2).keep (by simp [go_sem];rfl)⟩,fun j=>((bcell (unhide X2)).2 w.heap.size j (by simp)).trans (by simp [go_sem])⟩)
 obtain⟨u0,d0⟩:=(unhide BX).1 0 (by omega);obtain⟨u1,d1⟩:=(unhide BX).1 1 (by omega);obtain⟨u2,d2⟩:=(unhide BX).1 2 (by omega);obtain⟨u3,d3⟩:=(unhide BX).1 3 (by omega);obtain⟨u4,d4⟩:=(unhide BX).1 4 (by omega);have XB:=hide (xb.trans (unhide X2));clear X2;subst hvt;go_wp2_with fail;go_region_with (go_at_call 62;refine(unhide QG _ (Ext.refl w2).drew).mono ?_;rintro e w3 ⟨ar,nr,cr,an,nn,cn,he,x3⟩;have e2:=unhide he;subst e2;have x23:=(Ext.refl w2).drew.trans x3;have c2':=x23.keep c2;have k0:=x23.keep d0;have k1:=x23.keep d1;have k2:=x23.keep d2;have k3:=x23.keep d3;have k4:=x23.keep d4;have kf:=(fun j=>((bcell x23).2 w.heap.size j (cell_lt d0)).trans ((unhide BX).2 j));have hw3:w.heap.size<w3.heap.size:=cell_lt k0;clear he x3)
 all_goals
  go_wp2_with fail;refine bodyPost_ret (v:=.agg #[.bool true,.slice am L.length cm,.slice ar nr cr,.slice an nn cn,iv TF.length]) (by simp [results,Tryz.results18,go_sem,k0,k1,k2,k3,k4]) rfl ?_;have ON:=(((((Only.of_ext (S:=fun q=>q=w.heap.size) x23).setCell (p:=⟨w.heap.size,0,none⟩) rfl (.bool true)).setCell (p:=⟨w.heap.size,1,none⟩) rfl (.slice am L.length cm)).setCell (p:=⟨w.heap.size,2,none⟩) rfl (.slice ar nr cr)).setCell (p:=⟨w.heap.size,3,none⟩) rfl (.slice an nn cn)).setCell (p:=⟨w.heap.size,4,none⟩) rfl (.int .i64 TF.length);exact⟨_,_,_,_,_,_,_,_,_,rfl,unhide SMF _ ON,ON.ext (unhide XB) (fun q hq e=>by omega)⟩
theorem field_ans(a b c d e:Value)(w:World):Sem.run Tryz.prog (Instr.field 46 (.agg #[a,b,c,d,e]) 1) w=.ok b w:=by kernel_rfl
theorem mdL_pos:∀(L:List Ak),(∀A,A∈L→0≤A.c)→0≤mdL L
 | [],_=>by simp [mdL]
 | A::L,h=>by
  have h1:=mdL_pos L (fun B hB=>h B (by simp [hB]));have h2:=h A (by simp);simp only [mdL];split <;> omega
theorem mdL_take(L:List Ak)(h:∀A,A∈L→0≤A.c)(k:Nat):0≤mdL (L.take k)∧mdL (L.take k)≤mdL L:=by
 have e:=mdL_app (L.take k) (L.drop k);rw[List.take_append_drop] at e;have h1:=mdL_pos (L.take k) (fun A hA=>h A (List.mem_of_mem_take hA));have h2:=mdL_pos (L.drop k) (fun A hA=>h A (List.mem_of_mem_drop hA));omega
theorem mdL_step(L:List Ak)(k:Nat)(hk:k<L.length):mdL (L.take (k+1))=mdL (L.take k)+(if L[k].op=1 then 1+L[k].c else 0):=by
 rw[List.take_succ_eq_append_getElem hk,mdL_app];simp only [mdL];omega
theorem forcedLaw_in(w:World)(u:Value)(h:ByAt w u):
  Calls Tryz.prog 11 #[u] w fun e w'=>e=.returned (.bool true)∧Ext w w':=by
 have HB:=hide h;obtain⟨au,nu,ku,rfl,hu,_⟩:=h;have hnu:¬((nu:Int) > 1048576):=by omega
 go_enter Tryz.func11,Tryz.ntmps11;go_wp2_with fail;refine(wByte_any w _ 0 (by omega) (unhide HB)).mono ?_;rintro e w1 ⟨r,he,r0,r1,rfl⟩;have e2:=unhide he;subst e2;clear he;go_wp2_with fail;refine(wByte_any w1 _ 1 (by omega) (unhide HB)).mono ?_;rintro e w1 ⟨r',he,r0',r1',rfl⟩;have e2:=unhide he;subst e2;clear he;go_wp2_with fail;obtain⟨R,hR⟩:∃R:Nat,3000+(r+256*r') % 1001=R:=⟨(3000+(r+256*r') % 1001).toNat,by omega⟩;rw[hR];have R3:3000≤R:=by omega
 have R4:R≤4000:=by omega
 clear hR r0 r1 r0' r1';refine(wByte_any w1 _ 2 (by omega) (unhide HB)).mono ?_;rintro e w1 ⟨p,he,p0,p1,rfl⟩;have e2:=unhide he;subst e2;clear he;go_wp2_with fail;refine(wByte_any w1 _ 3 (by omega) (unhide HB)).mono ?_;rintro e w1 ⟨q,he,q0,q1,rfl⟩;have e2:=unhide he;subst e2;clear he;have n0:¬((R:Int) / 4+1=0):=by omega
 go_wp2_with fail;obtain⟨st,hst⟩:∃st:Nat,(p+256*q) % ((R:Int) / 4+1)=st:=⟨((p+256*q) % ((R:Int) / 4+1)).toNat,by have:=Int.emod_nonneg (p+256*q) n0;omega⟩;have st4:4*st≤R:=by have:=Int.emod_lt_of_pos (p+256*q) (show 0<(R:Int) / 4+1 by omega);omega
 rw[hst];clear hst p0 p1 q0 q1 n0;refine(madeBusy_any R st ⟨R3,R4⟩ w1 _ (unhide HB)).mono ?_;rintro e w2 ⟨va,ms,he,hbo,RW,x2⟩;have e2:=unhide he;subst e2;have OKB:=hide (unhide hbo).1;obtain⟨L,hL⟩:∃L,L=headA0 st++bA ms:=⟨_,rfl⟩;have l520:L.length≤520:=by rw[hL];exact(unhide hbo).2
 have hms:ms.length≤520:=by have:=bA_ms ms;have:=(unhide hbo).2;simp only [List.length_append] at this;omega
 rw[←hL] at RW;have SL:=hide (ownA (unhide RW) (by omega));have QP:=hide (play_any R (by omega) (by omega) L _ w2 (fun z M=>(Bz R z (bL ms+5) (bU ms)∧∀a,a∈M→a=0)∧M.length=L.length) (by omega) (unhide SL) (fun A hA=>busy_ok (R:=R) st (by omega) ms (unhide OKB) A (by rw[←hL];exact hA)) (by rw[hL];exact(busy_all R st ⟨R3,R4⟩ st4 ms (unhide OKB) (by omega)).len));have CP:=hide (fun A (hA:A∈L)=>show 0≤A.c by obtain⟨op,a,b,c,e,_,_⟩:=busy_ok (R:=R) st (by omega) ms (unhide OKB) A (by rw[←hL];exact hA);rw[e];exact Int.natCast_nonneg c);have BU:=hide (bU_le ms (unhide OKB));have MD:=hide (show mdL L=bU ms by rw[hL];exact mdL_b st ms);have IDL:=hide (show ∃g T t,Rni R g0I [] L g T∧Ji g T t (bL ms)∧T.length≤1+ms.length by rw[hL];exact ideal_all R st ⟨R3,R4⟩ (by omega) ms (unhide OKB) (by omega));obtain⟨ad,cap,hva⟩:=slA_form (unhide SL);subst hva;clear he RW hbo hL HB;go_wp2_with fail;refine(unhide QP).mono ?_;rintro e w3 ⟨y,M,am,ar,ac,ag,m1,c1,m2,c2,m3,c3,m4,c4,he,hq,hm,x3⟩;have e2:e=.returned (.agg #[.bool true,.slice am m1 c1,iv y.room,iv y.used,iv y.born,.slice ar m2 c2,.slice ac m3 c3,iv y.phase,iv y.hand,iv y.sub,.slice ag m4 c4,iv y.per,iv y.start,iv y.rounds,iv y.forced]):=unhide he;subst e2;clear he QP;obtain⟨W4,hW4⟩:∃W,W=w3.alloc (.cells #[.bool true,.slice am m1 c1,iv y.room,iv y.used,iv y.born,.slice ar m2 c2,.slice ac m3 c3,iv y.phase,iv y.hand,iv y.sub,.slice ag m4 c4,iv y.per,iv y.start,iv y.rounds,iv y.forced] 36):=⟨_,rfl⟩;have x4:Ext w3 W4:=by rw[hW4];exact(Ext.refl _).alloc _
 have b0:W4.cell? ⟨w3.heap.size,0,none⟩=some (.bool true):=by rw[hW4];simp [go_sem]
 have b1:W4.cell? ⟨w3.heap.size,1,none⟩=some (.slice am m1 c1):=by rw[hW4];simp [go_sem]
 have b13:W4.cell? ⟨w3.heap.size,13,none⟩=some (iv y.rounds):=by rw[hW4];simp [go_sem]
 have b14:W4.cell? ⟨w3.heap.size,14,none⟩=some (iv y.forced):=by rw[hW4];simp [go_sem]
 have X4:=(x2.trans x3).trans x4;have ML:=(unhide hq).2;have e1:m1=L.length:=by obtain⟨_,_,e,_,_⟩:=unhide hm;rw[←ML];simp only [Value.slice.injEq] at e;exact e.2.1
 subst e1;have RD:=hide (bz_made (unhide hq).1.1 ⟨R3,R4⟩)
 go_upto_region 7 with(fail)
 rw[←hW4];have hw3:w3.heap.size<W4.heap.size:=cell_lt b0;have HM:=hide (fun(W:World) (e:Ext W4 W)=>(unhide hm).mono fun _ _ _ k=>(⟨(x4.trans e).keep k.1,(x4.trans e).keep k.2⟩:AnAt W _ _ _));have HA:=hide (fun(W:World) (e:Ext W4 W)=>SlA.ext ((x3.trans x4).trans e) (unhide SL));have Z0:=hide (unhide hq).1.2;have fo:y.forced=0:=(unhide hq).1.1.fo;rw[fo] at b14;clear hW4 x2 x3 x4 hm hq SL;go_wp2_with fail;go_loopw [7,57] (fun md i wr=>∃k:Nat,k≤L.length∧i=.int .i64 k∧md=.int .i64 (mdL (L.take k))∧Ext W4 wr) (fun _ i _=>L.length-(intOf i).toNat)
 case atStart=>exact⟨0,Nat.zero_le _,rfl,by simp [mdL],Ext.refl _⟩
 case round=>
  obtain⟨k,hk,rfl,rfl,xr⟩:=hrel;by_cases hlt:k<L.length
  ·obtain⟨_,_,ea,_,hxa⟩:=unhide HA wr xr;obtain⟨_,_,em,_,hxm⟩:=unhide HM wr xr;simp only [Value.slice.injEq] at ea em;obtain⟨rfl,-,rfl⟩:=ea;obtain⟨rfl,-,rfl⟩:=em;obtain⟨b,o,rfl,p0,p1,p2,p3,p4⟩:=hxa k hlt;obtain⟨b',o',rfl,q0,q1⟩:=hxm k (by omega);have d1:=xr.keep b1;have hb:b<wr.heap.size:=cell_lt p0;have hb':b'<wr.heap.size:=cell_lt q0;have hw:w3.heap.size<wr.heap.size:=cell_lt d1;have hk0:(0:Int)≤(k:Int):=by omega
   have hk1:(k:Int)<(L.length:Int):=by omega
   have ST:=hide (mdL_step L k hlt);have T0:=mdL_take L (unhide CP) k;have T1:=mdL_take L (unhide CP) (k+1);have ub:mdL L≤50000:=by have:=unhide MD;have:=unhide BU;omega
   obtain⟨y1,hy1⟩:∃z,z=L[k].op:=⟨_,rfl⟩;obtain⟨y4,hy4⟩:∃z,z=L[k].c:=⟨_,rfl⟩;have c0:0≤y4:=by rw[hy4];exact unhide CP _ (List.getElem_mem hlt)
   rw[←hy1] at p0 ST;rw[←hy4] at p3 ST;obtain⟨m0,hm0⟩:∃z,z=mdL (L.take k):=⟨_,rfl⟩;rw[←hm0] at ST T0 ⊢;rw[unhide ST] at T1;clear hy1 hy4 hm0 hxa hxm;by_cases e:y1=1
   ·have eb:(y1 == 1)=true:=by simp [e]
    rw[if_pos e] at T1;go_wp2_with fail;go_roundw
    case rel=>exact⟨k+1,by omega,by go_num,by rw[unhide ST,if_pos e],xr.trans ((Ext.refl _).alloc _)⟩
    case measure=>simp [intOf];omega
   ·have eb:(y1 == 1)=false:=by simp [e]
    go_wp2_with fail;go_roundw
    case rel=>exact⟨k+1,by omega,by go_num,by rw[unhide ST,if_neg e,Int.add_zero],xr.trans ((Ext.refl _).alloc _)⟩
    case measure=>simp [intOf];omega
  ·have ek:k=L.length:=by omega
   subst ek;rw[List.take_length,unhide MD];obtain⟨gF,TF,t,run,j,lT⟩:=unhide IDL;have FA:=field_ans;have QJ:=hide (fun(W:World) (e:Ext wr W)=>ideally_any R (by omega) R4 L gF TF t (bL ms) _ W (unhide HA W (xr.trans e)) (by omega) run j (by omega));have ZL:=hide (show M=List.replicate L.length 0 from List.eq_replicate_iff.2 ⟨ML,fun a ha=>unhide Z0 a ha⟩);have QW:=hide (fun(W:World) (am':Option Addr) (cm:Nat) (e:Ext wr W) (h:SlM W (.slice am' L.length cm) (List.replicate L.length 0))=>wAnswers_same (List.replicate L.length 0) (.slice am L.length c1) (.slice am' L.length cm) W (by have:=unhide HM W (xr.trans e);rw[unhide ZL] at this;exact this) h);have d1:=xr.keep b1;have d13:=xr.keep b13;have KP:=hide (fun(W:World) (e:Ext wr W)=>(⟨e.keep d1,e.keep d13⟩:W.cell? ⟨w3.heap.size,1,none⟩=some (.slice am L.length c1)∧W.cell? ⟨w3.heap.size,13,none⟩=some (iv y.rounds)));have XW:=hide (X4.trans xr);have hmd:0<y.rounds∨((bU ms:Nat):Int)≤R:=unhide RD;clear run j ML b0 b1 b13 b14 MD BU CP OKB IDL HA HM Z0 ZL RD X4 d1 d13 lT;go_wp2_with fail;by_cases hrd:0<y.rounds
   ·clear hmd;refine wp_region_held_drew (S:=fun W=>W.cell? ⟨w3.heap.size,1,none⟩=some (.slice am L.length c1)∧W.cell? ⟨w3.heap.size,13,none⟩=some (iv y.rounds)) (by kernel_rfl) (unhide KP _ (Ext.refl wr).drew) (fun hHeld=>?_);refine wpAnyH_take (i := 0) (oi := ⟨some 78, .fieldAddr 36 (.tmp 6) 2, 0, "laws.go:400", #[], none⟩) (v := ?_) rfl (by kernel_rfl) (by kernel_rfl) (by kernel_rfl) (fun _ _ _ h => h) (Or.inl ⟨by rfl, ?_⟩) hHeld ?_;rotate_left
    ·(intro w' hSw;(try dsimp only at hSw);go_simp;try with_reducible rfl)
    try simp only [Act.put,List.setIfInBounds_toArray,List.set_cons_zero,List.set_cons_succ]
    refine wpAnyH_take (i := 1) (oi := ⟨some 79, .fieldAddr 34 (.tmp 78) 11, 0, "laws.go:400", #[⟨0, .data⟩], none⟩) (v := ?_) rfl (by kernel_rfl) (by kernel_rfl) (by kernel_rfl) (fun _ _ _ h => h) (Or.inl ⟨by rfl, ?_⟩) hHeld ?_;rotate_left
    ·(intro w' hSw;(try dsimp only at hSw);go_simp;try with_reducible rfl)
    try simp only [Act.put,List.setIfInBounds_toArray,List.set_cons_zero,List.set_cons_succ]
    refine wpAnyH_take (i := 2) (oi := ⟨some 80, .load 3 (.tmp 79), 3, "laws.go:400", #[⟨1, .data⟩], none⟩) (v := ?_) rfl (by kernel_rfl) (by kernel_rfl) (by kernel_rfl) (fun _ _ _ h => h) (Or.inl ⟨by rfl, ?_⟩) hHeld ?_;rotate_left
    ·(intro w' hSw;(try dsimp only at hSw);go_simp;try with_reducible rfl)
    try simp only [Act.put,List.setIfInBounds_toArray,List.set_cons_zero,List.set_cons_succ]
    refine wpAnyH_take (i := 3) (oi := ⟨some 81, .binOp .gtr 3 (.tmp 80) (.const (.int .i64 0)) 3, 4, "laws.go:400", #[⟨2, .data⟩], none⟩) (v := .bool true) rfl (by kernel_rfl) (by kernel_rfl) (by kernel_rfl) (fun _ _ _ h => h) (Or.inl ⟨by rfl, ?_⟩) hHeld ?_
    ·(intro w' hSw;(try dsimp only at hSw);go_simp;try with_reducible rfl)
    try simp only [Act.put,List.setIfInBounds_toArray,List.set_cons_zero,List.set_cons_succ]
    refine wpAnyH_take (i := 4) (oi := ⟨some 82, .move (.tmp 81), 4, "laws.go:400", #[⟨3, .data⟩], none⟩) (v := .bool true) rfl (by kernel_rfl) (by kernel_rfl) (by kernel_rfl) (fun _ _ _ h => h) (Or.inl ⟨by rfl, ?_⟩) hHeld ?_
    ·(intro w' hSw;(try dsimp only at hSw);go_simp;try with_reducible rfl)
    try simp only [Act.put,List.setIfInBounds_toArray,List.set_cons_zero,List.set_cons_succ]
    refine wpAnyH_take (i := 5) (oi := ⟨some 83, .move (.tmp 7), 3, "laws.go:400", #[⟨4, .guard⟩], some (4, false)⟩) (v := undef) rfl (by kernel_rfl) (by kernel_rfl) (by kernel_rfl) (fun _ _ _ h => h) (Or.inr ⟨by rfl, rfl⟩) hHeld ?_
    try simp only [Act.put,List.setIfInBounds_toArray,List.set_cons_zero,List.set_cons_succ]
    refine wpAnyH_take (i := 6) (oi := ⟨some 84, .move (.tmp 3), 3, "laws.go:400", #[⟨4, .guard⟩], some (4, false)⟩) (v := undef) rfl (by kernel_rfl) (by kernel_rfl) (by kernel_rfl) (fun _ _ _ h => h) (Or.inr ⟨by rfl, rfl⟩) hHeld ?_
    try simp only [Act.put,List.setIfInBounds_toArray,List.set_cons_zero,List.set_cons_succ]
    refine wpAnyH_take (i := 7) (oi := ⟨some 85, .binOp .leq 3 (.tmp 83) (.tmp 84) 3, 4, "laws.go:400", #[⟨5, .data⟩, ⟨6, .data⟩, ⟨4, .guard⟩], some (4, false)⟩) (v := undef) rfl (by kernel_rfl) (by kernel_rfl) (by kernel_rfl) (fun _ _ _ h => h) (Or.inr ⟨by rfl, rfl⟩) hHeld ?_
    try simp only [Act.put,List.setIfInBounds_toArray,List.set_cons_zero,List.set_cons_succ]
    refine wpAnyH_take (i := 8) (oi := ⟨some 86, .pick (.tmp 82) (.const (.bool true)) (.tmp 85), 4, "laws.go:400", #[⟨4, .data⟩, ⟨7, .data⟩], none⟩) (v := .bool true) rfl (by kernel_rfl) (by kernel_rfl) (by kernel_rfl) (fun _ _ _ h => h) (Or.inl ⟨by rfl, ?_⟩) hHeld ?_
    ·(intro w' hSw;(try dsimp only at hSw);go_simp;try with_reducible rfl)
    try simp only [Act.put,List.setIfInBounds_toArray,List.set_cons_zero,List.set_cons_succ]
    refine wpAnyH_take (i := 9) (oi := ⟨some 87, .move (.tmp 86), 4, "laws.go:400", #[⟨8, .data⟩, ⟨4, .chain⟩], none⟩) (v := .bool true) rfl (by kernel_rfl) (by kernel_rfl) (by kernel_rfl) (fun _ _ _ h => h) (Or.inl ⟨by rfl, ?_⟩) hHeld ?_
    ·(intro w' hSw;(try dsimp only at hSw);go_simp;try with_reducible rfl)
    try simp only [Act.put,List.setIfInBounds_toArray,List.set_cons_zero,List.set_cons_succ]
    refine wpAnyH_take (i := 10) (oi := ⟨some 88, .fieldAddr 36 (.tmp 6) 1, 0, "laws.go:400", #[⟨9, .guard⟩], some (9, true)⟩) (v := ?_) rfl (by kernel_rfl) (by kernel_rfl) (by kernel_rfl) (fun _ _ _ h => h) (Or.inl ⟨by rfl, ?_⟩) hHeld ?_;rotate_left
    ·(intro w' hSw;(try dsimp only at hSw);go_simp;try with_reducible rfl)
    try simp only [Act.put,List.setIfInBounds_toArray,List.set_cons_zero,List.set_cons_succ]
    refine wpAnyH_take (i := 11) (oi := ⟨some 89, .load 29 (.tmp 88), 29, "laws.go:400", #[⟨10, .data⟩, ⟨9, .guard⟩], some (9, true)⟩) (v := ?_) rfl (by kernel_rfl) (by kernel_rfl) (by kernel_rfl) (fun _ _ _ h => h) (Or.inl ⟨by rfl, ?_⟩) hHeld ?_;rotate_left
    ·(intro w' hSw;(try dsimp only at hSw);go_simp;try with_reducible rfl)
    try simp only [Act.put,List.setIfInBounds_toArray,List.set_cons_zero,List.set_cons_succ]
    refine wpAnyH_take (i := 12) (oi := ⟨some 90, .move (.tmp 3), 3, "laws.go:400", #[⟨9, .guard⟩], some (9, true)⟩) (v := ?_) rfl (by kernel_rfl) (by kernel_rfl) (by kernel_rfl) (fun _ _ _ h => h) (Or.inl ⟨by rfl, ?_⟩) hHeld ?_;rotate_left
    ·(intro w' hSw;(try dsimp only at hSw);go_simp;try with_reducible rfl)
    try simp only [Act.put,List.setIfInBounds_toArray,List.set_cons_zero,List.set_cons_succ]
    refine wpAnyH_take (i := 13) (oi := ⟨some 91, .move (.tmp 5), 23, "laws.go:400", #[⟨9, .guard⟩], some (9, true)⟩) (v := ?_) rfl (by kernel_rfl) (by kernel_rfl) (by kernel_rfl) (fun _ _ _ h => h) (Or.inl ⟨by rfl, ?_⟩) hHeld ?_;rotate_left
    ·(intro w' hSw;(try dsimp only at hSw);go_simp;try with_reducible rfl)
    try simp only [Act.put,List.setIfInBounds_toArray,List.set_cons_zero,List.set_cons_succ]
    refine wpAnyH_ready (rs:=[14]) (by kernel_rfl) (by simp) ?_;refine AllReadyH.cons (o := ⟨some 92, .call { callee := .value (.func 18), args := #[.tmp 90, .tmp 91], argTypes := #[3, 23] }, 46, "laws.go:400", #[⟨12, .data⟩, ⟨13, .data⟩, ⟨9, .chain⟩, ⟨9, .guard⟩], some (9, true)⟩) rfl (fun K hK => ?_) AllReadyH.nil
    go_simp
    go_at_call 18
    refine(unhide QJ _ (Ext.refl wr).drew).mono ?_;rintro e wn ⟨am',cm',ar',nr',cr',an',nn',cn',n',he,hsm,xn⟩;have e2:=unhide he;subst e2;have xn3:Ext wr wn:=Ext.trans (Ext.refl wr).drew xn;have SMI:=hide (unhide hsm);clear xn he hsm;go_wp2_with fail;refine hK.out _ _ (unhide KP _ xn3) (fun hHeld=>?_);clear hK K
    try simp only [Act.put,List.setIfInBounds_toArray,List.set_cons_zero,List.set_cons_succ]
    refine wpAnyH_take (i := 15) (oi := ⟨some 93, .field 46 (.tmp 92) 1, 29, "laws.go:400", #[⟨14, .data⟩, ⟨9, .guard⟩], some (9, true)⟩) (v := ?_) rfl (by kernel_rfl) (by kernel_rfl) (by kernel_rfl) (fun _ _ _ h => h) (Or.inl ⟨by rfl, ?_⟩) hHeld ?_;rotate_left
    ·(intro w' hSw;(try dsimp only at hSw);go_simp;try with_reducible rfl)
    try simp only [Act.put,List.setIfInBounds_toArray,List.set_cons_zero,List.set_cons_succ]
    refine wpAnyH_ready (rs:=[16]) (by kernel_rfl) (by simp) ?_;refine AllReadyH.cons (o := ⟨some 94, .call { callee := .value (.func 19), args := #[.tmp 89, .tmp 93], argTypes := #[29, 29] }, 4, "laws.go:400", #[⟨11, .data⟩, ⟨15, .data⟩, ⟨14, .chain⟩, ⟨9, .guard⟩], some (9, true)⟩) rfl (fun K hK => ?_) AllReadyH.nil
    go_simp
    go_at_call 19
    refine(unhide QW _ _ _ xn3 (unhide SMI)).mono ?_;rintro e wm ⟨rfl,xm⟩;have xm3:Ext wr wm:=Ext.trans xn3 xm;clear xm;go_wp2_with fail;refine hK.out _ _ (unhide KP _ xm3) (fun hHeld=>?_);clear hK K
    try simp only [Act.put,List.setIfInBounds_toArray,List.set_cons_zero,List.set_cons_succ]
    refine wpAnyH_take (i := 17) (oi := ⟨some 95, .pick (.tmp 87) (.tmp 94) (.const (.bool false)), 4, "laws.go:400", #[⟨9, .data⟩, ⟨16, .data⟩], none⟩) (v := .bool true) rfl (by kernel_rfl) (by kernel_rfl) (by kernel_rfl) (fun _ _ _ h => h) (Or.inl ⟨by rfl, ?_⟩) hHeld ?_
    ·(intro w' hSw;(try dsimp only at hSw);go_simp;try with_reducible rfl)
    try simp only [Act.put,List.setIfInBounds_toArray,List.set_cons_zero,List.set_cons_succ]
    refine wpAnyH_take (i := 18) (oi := ⟨some 2, .assign (.tmp 95), 4, "laws.go:400", #[⟨17, .data⟩, ⟨16, .chain⟩, ⟨0, .phase⟩, ⟨1, .phase⟩, ⟨2, .phase⟩, ⟨3, .phase⟩, ⟨4, .phase⟩, ⟨5, .phase⟩, ⟨6, .phase⟩, ⟨7, .phase⟩, ⟨8, .phase⟩, ⟨9, .phase⟩, ⟨10, .phase⟩, ⟨11, .phase⟩, ⟨12, .phase⟩, ⟨13, .phase⟩, ⟨14, .phase⟩, ⟨15, .phase⟩, ⟨16, .phase⟩, ⟨17, .phase⟩], none⟩) (v := .bool true) rfl (by kernel_rfl) (by kernel_rfl) (by kernel_rfl) (fun _ _ _ h => h) (Or.inl ⟨by rfl, ?_⟩) hHeld ?_
    ·(intro w' hSw;(try dsimp only at hSw);go_simp;try with_reducible rfl)
    try simp only [Act.put,List.setIfInBounds_toArray,List.set_cons_zero,List.set_cons_succ]
    refine wpAnyH_done (by kernel_rfl) ?_ _;go_wp2_with fail;go_ret;exact⟨rfl,(unhide XW).trans xm3⟩
   ·have hmd2:((bU ms:Nat):Int)≤R:=by rcases hmd with h | h;exact absurd h hrd;exact h
    clear hmd
    go_region_held3 (fun W=>W.cell? ⟨w3.heap.size,1,none⟩=some (.slice am L.length c1)∧W.cell? ⟨w3.heap.size,13,none⟩=some (iv y.rounds)) ((with_reducible refine unhide KP _ ?_;with_reducible (first | exact Ext.refl _ | assumption | (refine Ext.drew ?_;first | exact Ext.refl _ | assumption))))
     (first
      | (go_at_call 19;have chk:=unhide SMI;refine(unhide QW _ _ _ (by assumption) chk).mono ?_;rintro e wm ⟨rfl,xm⟩;have xm3:Ext wr wm:=Ext.trans (by assumption) xm;clear xm chk)
      | (go_at_call 18;refine(unhide QJ _ (by first | exact Ext.refl _ | exact(Ext.refl wr).drew | assumption)).mono ?_;rintro e wn ⟨am',cm',ar',nr',cr',an',nn',cn',n',he,hsm,xn⟩;have e2:=unhide he;subst e2;have xn3:Ext wr wn:=(by first | exact xn | exact Ext.trans (Ext.refl wr).drew xn);have SMI:=hide (unhide hsm);clear xn he hsm))
    all_goals
     go_wp2_with fail;go_ret;exact⟨rfl,(unhide XW).trans (by assumption)⟩
end Go.Proofs.YtddkhnclmeikfaaGreat
