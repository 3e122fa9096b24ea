import Derived.Test.YtnegjhddmfiefaaGreatDoorYf
set_option maxRecDepth 100000
set_option maxHeartbeats 1000000
namespace Go.Proofs.YtnegjhddmfiefaaGreatDoor
open Go.RowKit
attribute [local go_sem ↓] Go.wp_at_zero Go.wp_at_succ
theorem mkNums(w:World):(Instr.makeSlice 64 (.int .i64 4) (.int .i64 4)).run Tryz.prog w=.ok (.slice (some ⟨w.heap.size,0,none⟩) 4 4) (w.alloc (.cells #[iv 0,iv 0,iv 0,iv 0] 2)):=by
 obtain⟨i0,hi,hz0,hz1,hz2⟩:=info_parts infoI64;have h:=run_make (P:=Tryz.prog) w 64 2 i0 _ Tryz.underlying64 hi hz0 .i64 .i64 4 4 (by omega) (Int.le_refl _) (by rw[hz2];decide) (by decide);rw[hz1] at h;have e:madeCells (Value.int .i64 0).cells (Int.toNat 4*1)=#[iv 0,iv 0,iv 0,iv 0]:=by kernel_rfl
 rw[e] at h;exact h
theorem words_len(m:List UInt8):(wordsL m).length≤m.length+1:=by
 induction m with
 | nil=>simp [wordsL]
 | cons c r ih=>
  unfold wordsL
  split
  ·simp;omega
  ·split
   ·simp
   ·rename_i q;rw[q] at ih;simp at ih ⊢;omega
theorem actO_op{l w0:List UInt8}{ws:List (List UInt8)}{k:Nat}(hw:wordsL l=w0::ws)(h1:1≤k)(h2:k≤24)(h:nameL (k:Nat)=w0):actO l=if actGood k ws=true then some (actOf k ws) else none:=by
 unfold actO;rw[hw];simp only [opOf_is h1 h2 h]
theorem actO_none{l w0:List UInt8}{ws:List (List UInt8)}(hw:wordsL l=w0::ws)(h:∀j:Nat,1≤j→j≤24→nameL (j:Nat)≠w0):actO l=none:=by
 unfold actO;rw[hw];cases q:opOf w0 with
 | none=>simp only [q]
 | some k=>
  obtain⟨a,b,c⟩:=opOf_some q;exact absurd c (h k a b)
def ActAns(l:List UInt8)(e:Ending):Prop:=∃y:Ak,e=.returned (.tuple #[y.v,.bool (actO l).isSome])∧∀a,actO l=some a→y=a
theorem ans_no{l:List UInt8}{y:Ak}(h:actO l=none):ActAns l (.returned (.tuple #[y.v,.bool false])):=⟨y,by rw[h];rfl,fun a ha=>by rw[h] at ha;cases ha⟩
theorem numSl{w:World}{nb i:Nat}(f:Nat→Int)(v:Int)(hi:i<4)(hc:∀j,j<4→w.cell? ⟨nb,j,none⟩=some (iv (f j)))(ho:∀j,j<4→Open w nb j):
  (∀j,j<4→(w.setCell ⟨nb,i,none⟩ (iv v)).cell? ⟨nb,j,none⟩=some (iv (if j=i then v else f j)))∧(∀j,j<4→Open (w.setCell ⟨nb,i,none⟩ (iv v)) nb j):=by
 refine⟨fun j hj=>?_,fun j hj=>(ho j hj).set _ _⟩;by_cases e:j=i
 ·subst e;rw[if_pos rfl];exact(ho j hj).same _
 ·rw[if_neg e,cell_other _ (.inr (fun e2=>e e2.symm))];exact hc j hj
def numF(op:Int)(ws:List (List UInt8))(i j:Nat):Int:=if j<i then sNum op ws j else 0
theorem numF_no{op:Int}{ws:List (List UInt8)}{i:Nat}(h:hasL op i=false)(j:Nat):numF op ws (i+1) j=numF op ws i j:=by
 unfold numF;by_cases e:j=i
 ·subst e;rw[if_pos (by omega),if_neg (by omega)];unfold sNum;rw[if_neg (by simp [h])]
 ·by_cases h2:j<i
  ·rw[if_pos (by omega),if_pos h2]
  ·rw[if_neg (by omega),if_neg h2]
theorem numF_yes{op:Int}{ws:List (List UInt8)}{i:Nat}(j:Nat):numF op ws (i+1) j=if j=i then sNum op ws i else numF op ws i j:=by
 unfold numF;by_cases e:j=i
 ·subst e;rw[if_pos (by omega),if_pos rfl]
 ·rw[if_neg e];by_cases h2:j<i
  ·rw[if_pos (by omega),if_pos h2]
  ·rw[if_neg (by omega),if_neg h2]
theorem act_refuse{l:List UInt8}{ws:List (List UInt8)}{k:Nat}(h:actO l=if actGood k ws=true then some (actOf k ws) else none)(h2:actGood k ws=false):actO l=none:=by
 rw[h,h2];rfl
theorem ans_end{l:List UInt8}{ws:List (List UInt8)}{k:Nat}{b:Bool}(h1:1≤k)(h2:k≤24)(h:actO l=if actGood k ws=true then some (actOf k ws) else none)(hs:SgI k ws 4)(hb:b=(decide (cntL k 4=ws.length) && okA (sAct k ws))):ActAns l (.returned (.tuple #[(sAct k ws).v,.bool b])):=by
 have hg:=good_end k h1 h2 ws hs;refine⟨sAct k ws,?_,fun a ha=>?_⟩
 ·rw[h,hb,←hg];cases actGood k ws <;> rfl
 ·rw[h] at ha;cases q:actGood k ws with
  | false=>rw[q] at ha;cases ha
  | true=>
   rw[q] at ha;rw[sAct_eq k h1 h2 ws (good_num q).1];exact Option.some.inj ha
theorem ext5{w W:World}(h:Ext w W)(a b c d e:Value):Ext w (((((W.setCell ⟨w.heap.size,0,none⟩ a).setCell ⟨w.heap.size,1,none⟩ b).setCell ⟨w.heap.size,2,none⟩ c).setCell ⟨w.heap.size,3,none⟩ d).setCell ⟨w.heap.size,4,none⟩ e):=
 ((((h.setCell (p:=⟨w.heap.size,0,none⟩) (Nat.le_refl _) a).setCell (p:=⟨w.heap.size,1,none⟩) (Nat.le_refl _) b).setCell (p:=⟨w.heap.size,2,none⟩) (Nat.le_refl _) c).setCell (p:=⟨w.heap.size,3,none⟩) (Nat.le_refl _) d).setCell (p:=⟨w.heap.size,4,none⟩) (Nat.le_refl _) e
theorem l7act_any(l:List UInt8)(hl:l.length≤20000)(w:World):Calls Tryz.prog 26 #[.string (sB l)] w fun e w'=>Hid (ActAns l e)∧Ext w w':=by
 have QW:=hide (fun W=>l7words_any l hl W);go_enter Tryz.func26,Tryz.ntmps26;go_wp2_with fail;refine(unhide QW _).mono ?_;rintro e w2 ⟨v,he,hown,x2⟩;have e2:=unhide he;clear he;subst e2
 have RB:=hide (show ∀j,j<5→Open w2 w.heap.size j from fun j hj=>Open.ext (by
  match j,hj with
  | 0,_=>exact⟨⟨iv 0,by simp [go_sem]⟩,by simp [go_sem]⟩
  | 1,_=>exact⟨⟨iv 0,by simp [go_sem]⟩,by simp [go_sem]⟩
  | 2,_=>exact⟨⟨iv 0,by simp [go_sem]⟩,by simp [go_sem]⟩
  | 3,_=>exact⟨⟨iv 0,by simp [go_sem]⟩,by simp [go_sem]⟩
  | 4,_=>exact⟨⟨iv 0,by simp [go_sem]⟩,by simp [go_sem]⟩) x2)
 have X2:=hide (show Ext w w2 from((Ext.refl w).alloc _).trans x2);obtain⟨ad,cap,hv,hx⟩:=own_strs (unhide hown);subst hv
 obtain⟨w0,ws,hw⟩:∃w0 ws,wordsL l=w0::ws:=by
  cases q:wordsL l with
  | nil=>exact absurd q (words_ne l)
  | cons a b=>exact⟨a,b,rfl⟩
 have WL:=hide (fun x (hx:x∈ws)=>word_le (l:=l) x (by rw[hw];exact List.mem_cons_of_mem _ hx));have HW:=hide hw;have LN:=hide (show(wordsL l).length=ws.length+1 by rw[hw];rfl)
 have SH:=hide (show ws.length≤20000 by
  have:=words_len l;rw[hw,List.length_cons] at this;omega)
 have C0:=hide (show ∃g,ad=some ⟨g,0,none⟩∧(w2.cell? ⟨g,0,none⟩=some (.string (sB w0))∧∀i (hi:i<ws.length),w2.cell? ⟨g,i+1,none⟩=some (.string (sB ws[i]))) by
  obtain⟨g,hg,c0⟩:=hx 0 (by rw[hw];simp);refine⟨g,hg,by simpa [hw] using c0,fun i hi=>?_⟩;obtain⟨g1,hg1,c1⟩:=hx (i+1) (by rw[hw];simp;omega);rw[hg] at hg1;cases hg1
  simpa [hw] using c1)
 obtain⟨g,rfl,c0,cs⟩:=unhide C0;have CS:=hide cs;rw[unhide LN];clear hx hown hw C0 cs QW LN;go_wp2_with fail;go_loopw [5] (fun o wr=>∃k:Nat,1≤k∧k≤25∧o=.int .i64 k∧Hid (∀j:Nat,1≤j→j<k→nameL (j:Nat)≠w0)∧Ext w2 wr) (fun o _=>25-(intOf o).toNat)
 case atStart=>exact⟨1,by omega,by omega,rfl,hide (fun j h1 h2=>by omega),Ext.refl _⟩
 case round=>
  obtain⟨k,hk1,hk2,rfl,hno,hbl⟩:=hrel;by_cases hlt:k≤24;rotate_left
  ·have NO:=hide (actO_none (unhide HW) (fun j h1 h2=>unhide hno j h1 (by omega)));obtain⟨⟨o0,r0⟩,f0⟩:=(unhide RB 0 (by omega)).ext hbl;obtain⟨⟨o1,r1⟩,f1⟩:=(unhide RB 1 (by omega)).ext hbl;obtain⟨⟨o2,r2⟩,f2⟩:=(unhide RB 2 (by omega)).ext hbl;obtain⟨⟨o3,r3⟩,f3⟩:=(unhide RB 3 (by omega)).ext hbl;obtain⟨⟨o4,r4⟩,f4⟩:=(unhide RB 4 (by omega)).ext hbl;go_wp2_with fail;refine bodyPost_ret (v:=.tuple #[(⟨0,0,0,0,0⟩:Ak).v,.bool false]) (by rw[results_cell_tmp rfl];simp [go_sem,loadVar,r0,r1,r2,r3,r4]) rfl ?_;exact⟨hide (ans_no (y:=⟨0,0,0,0,0⟩) (unhide NO)),ext5 ((unhide X2).trans hbl) _ _ _ _ _⟩
  ·have e0:=hbl.keep c0;have QN:=hide (fun W=>l7name_any k (by omega) (by omega) W);obtain⟨nm,hnm⟩:∃s,s=nameL (k:Nat):=⟨_,rfl⟩;rw[←hnm] at QN;have HNM:=hide hnm;clear hnm;have hbr:g<wr.heap.size:=cell_lt e0;cases q:(nm == w0)
   ·have q2:(nm != w0)=true:=by simp [bne,q]
    have NX:=hide (show ∀j:Nat,1≤j→j<k+1→nameL (j:Nat)≠w0 from fun j h1 h2=>by
     by_cases e:j=k
     ·subst e;rw[←unhide HNM];simpa using q
     ·exact unhide hno j h1 (by omega))
    go_wp2_with fail
    go_region_held3 (fun W=>W.cell? ⟨g,0,none⟩=some (.string (sB w0))) (first | (simp [*];done) | go_keep)
     (first | (go_at_call 39;refine(unhide QN _).mono ?_;rintro e w3 ⟨rfl,x3⟩;have hc1:=(bcell x3).1;simp only [World.size_drew] at hc1))
    go_wp2_with fail;go_roundw
    case rel=>exact⟨k+1,by omega,by omega,by go_num,unhide NX,hbl.trans (Ext.trans (Ext.drew (Ext.refl _)) x3)⟩
    case measure=>simp [intOf];omega
   ·have q2:(nm != w0)=false:=by simp [bne,q]
    have AO:=hide (actO_op (unhide HW) hk1 hlt (by rw[←unhide HNM];simpa using q));have QH:=hide (fun W=>l7has_any k (by omega) (by omega) W);go_wp2_with fail
    go_region_held3 (fun W=>W.cell? ⟨g,0,none⟩=some (.string (sB w0))) (first | (simp [*];done) | go_keep)
     (first | (go_at_call 39;refine(unhide QN _).mono ?_;rintro e w3 ⟨rfl,x3⟩;have hc1:=(bcell x3).1;simp only [World.size_drew] at hc1))
    have X3:=hide (show Ext w2 w3 from hbl.trans (Ext.trans (Ext.drew (Ext.refl _)) x3));have MK:=mkNums w3;clear hc1 x3;go_wp2_with fail;refine(unhide QH _).mono ?_;rintro e w4 ⟨v4,he,⟨gh,hv4,hh⟩,x4⟩;have e2:=unhide he;clear he;subst e2;subst hv4;obtain⟨WO,hWO⟩:∃W,W=wr:=⟨_,rfl⟩;subst hWO;obtain⟨nb,hnb⟩:∃b,b=w3.heap.size:=⟨_,rfl⟩
    have NC:=hide (show ∀j,j<4→w4.cell? ⟨nb,j,none⟩=some (iv (numF k ws 0 j)) from fun j hj=>x4.keep (by
     subst hnb;have e:numF k ws 0 j=0:=rfl;rw[e]
     match j,hj with
     | 0,_=>simp [go_sem]
     | 1,_=>simp [go_sem]
     | 2,_=>simp [go_sem]
     | 3,_=>simp [go_sem]))
    have NO4:=hide (show ∀j,j<4→Open w4 nb j from fun j hj=>Open.ext (by
     subst hnb
     match j,hj with
     | 0,_=>exact⟨⟨iv 0,by simp [go_sem]⟩,by simp [go_sem]⟩
     | 1,_=>exact⟨⟨iv 0,by simp [go_sem]⟩,by simp [go_sem]⟩
     | 2,_=>exact⟨⟨iv 0,by simp [go_sem]⟩,by simp [go_sem]⟩
     | 3,_=>exact⟨⟨iv 0,by simp [go_sem]⟩,by simp [go_sem]⟩) x4)
    have GN:=hide (show gh≠nb from fun e=>by
     have h1:=hh 0 (by omega);have h2:=unhide NC 0 (by omega);rw[e,h2] at h1;cases h1)
    have X4:=hide (show Ext w3 w4 from((Ext.refl w3).alloc _).trans x4);have B3:=hide (show w3.heap.size≤nb by omega);have HH:=hide hh;rw[←hnb];clear hh x4 hnb MK x2;go_wp2_with fail;go_loopw [7,29] (fun kk i wr=>∃i':Nat,i'≤4∧i=.int .i64 i'∧kk=.int .i64 ((cntL k i':Int)+1)∧Hid (SgI k ws i')∧Hid (∀j,j<4→wr.cell? ⟨nb,j,none⟩=some (iv (numF k ws i' j)))∧Hid (∀j,j<4→Open wr nb j)∧Hid (∀j,j<4→wr.cell? ⟨gh,j,none⟩=some (.bool (hasL k j)))∧Ext w3 wr) (fun _ i _=>4-(intOf i).toNat)
    case atStart=>exact⟨0,by omega,rfl,rfl,hide (fun j hj=>by omega),unhide NC,unhide NO4,unhide HH,unhide X4⟩
    case round=>
     obtain⟨i,hi,rfl,rfl,hsg,hnc,hno5,hhc,hb5⟩:=hrel;have XR:=(unhide X3).trans hb5;by_cases hlt4:i<4;rotate_left
     ·have e4:i=4:=by omega
      subst e4;have n0:=unhide hnc 0 (by omega);have n1:=unhide hnc 1 (by omega);have n2:=unhide hnc 2 (by omega);have n3:=unhide hnc 3 (by omega);have cb:cntL k 4≤4:=by have:=cnt_len k hlt;have:(letL (k:Nat)).length≤4:=letL_len _;omega
      have sh:=unhide SH;have EY:=hide (show sAct k ws=⟨k,numF k ws 4 0,numF k ws 4 1,numF k ws 4 2,numF k ws 4 3⟩ from rfl);obtain⟨s0,hs0⟩:∃x,x=numF k ws 4 0:=⟨_,rfl⟩;obtain⟨s1,hs1⟩:∃x,x=numF k ws 4 1:=⟨_,rfl⟩;obtain⟨s2,hs2⟩:∃x,x=numF k ws 4 2:=⟨_,rfl⟩;obtain⟨s3,hs3⟩:∃x,x=numF k ws 4 3:=⟨_,rfl⟩;rw[←hs0] at n0 EY;rw[←hs1] at n1 EY;rw[←hs2] at n2 EY;rw[←hs3] at n3 EY;clear hs0 hs1 hs2 hs3;have hnb5:nb<wr.heap.size:=cell_lt n0;have hw5:w.heap.size<wr.heap.size:=by obtain⟨⟨o0,r0⟩,_⟩:=(unhide RB 0 (by omega)).ext XR;exact cell_lt r0
      have QO:=hide (fun W=>specActOk_any (k:Int) s0 s1 s2 s3 W);go_wp2_with fail
      go_region
      obtain⟨W7,hW7⟩:∃W,W=(wr.alloc (.cells #[.int .i64 (k:Int),.int .i64 s0,.int .i64 s1,.int .i64 s2,.int .i64 s3] 43)).drew:=⟨_,rfl⟩;rw[←hW7];have x7:Ext wr W7:=hW7 ▸ Ext.drew ((Ext.refl wr).alloc _)
      replace XR:=XR.trans x7
      have a0:W7.cell? ⟨wr.heap.size,0,none⟩=some (iv (k:Int)):=by rw[hW7];simp [go_sem]
      have a1:W7.cell? ⟨wr.heap.size,1,none⟩=some (iv s0):=by rw[hW7];simp [go_sem]
      have a2:W7.cell? ⟨wr.heap.size,2,none⟩=some (iv s1):=by rw[hW7];simp [go_sem]
      have a3:W7.cell? ⟨wr.heap.size,3,none⟩=some (iv s2):=by rw[hW7];simp [go_sem]
      have a4:W7.cell? ⟨wr.heap.size,4,none⟩=some (iv s3):=by rw[hW7];simp [go_sem]
      have hw7:wr.heap.size<W7.heap.size:=cell_lt a0;obtain⟨⟨o0,r0⟩,f0⟩:=(unhide RB 0 (by omega)).ext XR;obtain⟨⟨o1,r1⟩,f1⟩:=(unhide RB 1 (by omega)).ext XR;obtain⟨⟨o2,r2⟩,f2⟩:=(unhide RB 2 (by omega)).ext XR;obtain⟨⟨o3,r3⟩,f3⟩:=(unhide RB 3 (by omega)).ext XR;obtain⟨⟨o4,r4⟩,f4⟩:=(unhide RB 4 (by omega)).ext XR;have hr7:w.heap.size<W7.heap.size:=cell_lt r0;have hne7:¬wr.heap.size=w.heap.size:=by omega
      clear hW7 n0 n1 n2 n3 hnb5;cases hc:((cntL k 4:Int)+1 == (ws.length:Int)+1)
      ·have HB:=hide (show(decide (cntL k 4=ws.length) && okA (sAct k ws))=false by
        have:¬cntL k 4=ws.length:=by simp at hc;omega
        rw[decide_eq_false this];rfl)
       have FIN:=hide (ans_end hk1 hlt (unhide AO) (unhide hsg) (unhide HB).symm);rw[unhide EY] at FIN;go_wp2_with fail
       go_region
       go_wp2_with fail;refine bodyPost_ret (v:=.tuple #[(⟨k,s0,s1,s2,s3⟩:Ak).v,.bool false]) (by rw[results_cell_tmp rfl];simp [go_sem,loadVar,r0,r1,r2,r3,r4]) rfl ?_;exact⟨unhide FIN,Ext.drew (ext5 ((unhide X2).trans XR) _ _ _ _ _)⟩
      ·have HB:=hide (show(decide (cntL k 4=ws.length) && okA (sAct k ws))=okA (sAct k ws) by
        have:cntL k 4=ws.length:=by simp at hc;omega
        rw[decide_eq_true this];rfl)
       have FIN:=hide (ans_end hk1 hlt (unhide AO) (unhide hsg) (unhide HB).symm);rw[unhide EY] at FIN;unfold okA at FIN;obtain⟨rb,hrb⟩:∃b,b=actOkB (k:Int) s0 s1 s2 s3:=⟨_,rfl⟩;simp only at FIN;rw[←hrb] at FIN QO;clear hrb;have NE:∀(W:World) (o j:Nat) (u:Value),(W.setCell ⟨w.heap.size,o,none⟩ u).cell? ⟨wr.heap.size,j,none⟩=W.cell? ⟨wr.heap.size,j,none⟩:=fun W o j u=>cell_other _ (.inl (fun e=>hne7 e.symm))
       go_wp2_with fail
       go_region_held3 (fun W=>W.cell? ⟨wr.heap.size,0,none⟩=some (iv (k:Int))∧W.cell? ⟨wr.heap.size,1,none⟩=some (iv s0)∧W.cell? ⟨wr.heap.size,2,none⟩=some (iv s1)∧W.cell? ⟨wr.heap.size,3,none⟩=some (iv s2)∧W.cell? ⟨wr.heap.size,4,none⟩=some (iv s3)) (first | (simp [*];done) | go_keep)
        (first | (go_at_call 21;refine(unhide QO _).mono ?_;rintro e w8 ⟨rfl,x8⟩;have hc1:=(bcell x8).1;have hc2:=(bcell x8).2;simp only [World.size_drew] at hc1 hc2))
       have XR8:=XR.trans (Ext.trans (Ext.drew (Ext.refl _)) x8);clear hc1 hc2 NE r0 r1 r2 r3 r4 f0 f1 f2 f3 f4;obtain⟨⟨p0,t0⟩,g0⟩:=(unhide RB 0 (by omega)).ext XR8;obtain⟨⟨p1,t1⟩,g1⟩:=(unhide RB 1 (by omega)).ext XR8;obtain⟨⟨p2,t2⟩,g2⟩:=(unhide RB 2 (by omega)).ext XR8;obtain⟨⟨p3,t3⟩,g3⟩:=(unhide RB 3 (by omega)).ext XR8;obtain⟨⟨p4,t4⟩,g4⟩:=(unhide RB 4 (by omega)).ext XR8;go_wp2_with fail;refine bodyPost_ret (v:=.tuple #[(⟨k,s0,s1,s2,s3⟩:Ak).v,.bool rb]) (by rw[results_cell_tmp rfl];simp [go_sem,loadVar,t0,t1,t2,t3,t4]) rfl ?_;exact⟨unhide FIN,ext5 ((unhide X2).trans XR8) _ _ _ _ _⟩
     ·have ch:=unhide hhc i hlt4;have hi0:(0:Int)≤(i:Int):=by omega
      have hi1:(i:Int)<4:=by omega
      have CB:=hide (show cntL k i≤4 by have:=cnt_mono (k:Int) (i:=i) (j:=4) hi;have:=cnt_len k hlt;have:(letL (k:Nat)).length≤4:=letL_len _;omega);have cb:=unhide CB;cases qh:hasL k i
      ·rw[qh] at ch;have CN:=hide (cnt_no k i qh);have NF:=hide (fun j=>numF_no (ws:=ws) qh j);have SN:=hide ((unhide hsg).no qh);go_wp2_with fail;go_roundw
       case rel=>exact⟨i+1,by omega,by go_num,by rw[unhide CN],unhide SN,hide (fun j hj=>by rw[unhide NF];exact unhide hnc j hj),unhide hno5,unhide hhc,hb5⟩
       case measure=>simp [intOf];omega
      ·rw[qh] at ch;have sh:=unhide SH;by_cases hc:ws.length≤cntL k i
       ·have NO:=hide (act_refuse (unhide AO) (sg_bad k hk1 hlt ws i hlt4 qh (.inl hc)));obtain⟨⟨o0,r0⟩,f0⟩:=(unhide RB 0 (by omega)).ext XR;obtain⟨⟨o1,r1⟩,f1⟩:=(unhide RB 1 (by omega)).ext XR;obtain⟨⟨o2,r2⟩,f2⟩:=(unhide RB 2 (by omega)).ext XR;obtain⟨⟨o3,r3⟩,f3⟩:=(unhide RB 3 (by omega)).ext XR;obtain⟨⟨o4,r4⟩,f4⟩:=(unhide RB 4 (by omega)).ext XR;go_wp2_with fail;refine bodyPost_ret (v:=.tuple #[(⟨0,0,0,0,0⟩:Ak).v,.bool false]) (by rw[results_cell_tmp rfl];simp [go_sem,loadVar,r0,r1,r2,r3,r4]) rfl ?_;exact⟨hide (ans_no (y:=⟨0,0,0,0,0⟩) (unhide NO)),ext5 ((unhide X2).trans XR) _ _ _ _ _⟩
       ·have hcl:cntL k i<ws.length:=by omega
        have ew:=XR.keep (unhide CS (cntL k i) hcl);have WB:=hide (unhide WL ws[cntL k i] (List.getElem_mem hcl));have GD:=hide (show ws.getD (cntL k i) []=ws[cntL k i] by rw[List.getD_eq_getElem?_getD,List.getElem?_eq_getElem hcl];rfl);have SN:=hide (show sNum k ws i=numV ws[cntL k i] by unfold sNum;rw[if_pos qh,unhide GD]);obtain⟨wd,hwd⟩:∃x,x=ws[cntL k i]:=⟨_,rfl⟩;rw[←hwd] at ew WB GD SN;have QM:=hide (fun W=>l7number_any wd (by have:=unhide WB;omega) W);clear hwd;go_wp2_with fail;refine(unhide QM _).mono ?_;rintro e w6 ⟨n,he,hn,_,x6⟩;have e2:=unhide he;clear he;subst e2
        replace XR:=XR.trans x6
        cases qb:numB wd
        ·have NO:=hide (act_refuse (unhide AO) (sg_bad k hk1 hlt ws i hlt4 qh (.inr (.inl (by rw[unhide GD];exact qb)))));obtain⟨⟨o0,r0⟩,f0⟩:=(unhide RB 0 (by omega)).ext XR;obtain⟨⟨o1,r1⟩,f1⟩:=(unhide RB 1 (by omega)).ext XR;obtain⟨⟨o2,r2⟩,f2⟩:=(unhide RB 2 (by omega)).ext XR;obtain⟨⟨o3,r3⟩,f3⟩:=(unhide RB 3 (by omega)).ext XR;obtain⟨⟨o4,r4⟩,f4⟩:=(unhide RB 4 (by omega)).ext XR;go_wp2_with fail;refine bodyPost_ret (v:=.tuple #[(⟨0,0,0,0,0⟩:Ak).v,.bool false]) (by rw[results_cell_tmp rfl];simp [go_sem,loadVar,r0,r1,r2,r3,r4]) rfl ?_;exact⟨hide (ans_no (y:=⟨0,0,0,0,0⟩) (unhide NO)),ext5 ((unhide X2).trans XR) _ _ _ _ _⟩
        ·have EN:=hide (unhide hn qb);by_cases h3:(i:Int)<3
         ·by_cases h4:n<0
          ·have NO:=hide (act_refuse (unhide AO) (sg_bad k hk1 hlt ws i hlt4 qh (.inr (.inr ⟨by omega,.inl (by rw[unhide SN,←unhide EN];exact h4)⟩))));obtain⟨⟨o0,r0⟩,f0⟩:=(unhide RB 0 (by omega)).ext XR;obtain⟨⟨o1,r1⟩,f1⟩:=(unhide RB 1 (by omega)).ext XR;obtain⟨⟨o2,r2⟩,f2⟩:=(unhide RB 2 (by omega)).ext XR;obtain⟨⟨o3,r3⟩,f3⟩:=(unhide RB 3 (by omega)).ext XR;obtain⟨⟨o4,r4⟩,f4⟩:=(unhide RB 4 (by omega)).ext XR;go_wp2_with fail;refine bodyPost_ret (v:=.tuple #[(⟨0,0,0,0,0⟩:Ak).v,.bool false]) (by rw[results_cell_tmp rfl];simp [go_sem,loadVar,r0,r1,r2,r3,r4]) rfl ?_;exact⟨hide (ans_no (y:=⟨0,0,0,0,0⟩) (unhide NO)),ext5 ((unhide X2).trans XR) _ _ _ _ _⟩
          ·by_cases h5:n > 100000
           ·have NO:=hide (act_refuse (unhide AO) (sg_bad k hk1 hlt ws i hlt4 qh (.inr (.inr ⟨by omega,.inr (by rw[unhide SN,←unhide EN];omega)⟩))));obtain⟨⟨o0,r0⟩,f0⟩:=(unhide RB 0 (by omega)).ext XR;obtain⟨⟨o1,r1⟩,f1⟩:=(unhide RB 1 (by omega)).ext XR;obtain⟨⟨o2,r2⟩,f2⟩:=(unhide RB 2 (by omega)).ext XR;obtain⟨⟨o3,r3⟩,f3⟩:=(unhide RB 3 (by omega)).ext XR;obtain⟨⟨o4,r4⟩,f4⟩:=(unhide RB 4 (by omega)).ext XR;go_wp2_with fail;refine bodyPost_ret (v:=.tuple #[(⟨0,0,0,0,0⟩:Ak).v,.bool false]) (by rw[results_cell_tmp rfl];simp [go_sem,loadVar,r0,r1,r2,r3,r4]) rfl ?_;exact⟨hide (ans_no (y:=⟨0,0,0,0,0⟩) (unhide NO)),ext5 ((unhide X2).trans XR) _ _ _ _ _⟩
           ·obtain⟨⟨ov,rv⟩,fv⟩:=(unhide hno5 i hlt4).ext x6;have NS:=hide (numSl (w:=w6) (numF k ws i) n hlt4 (fun j hj=>x6.keep (unhide hnc j hj)) (fun j hj=>(unhide hno5 j hj).ext x6));have NY:=hide (fun j=>numF_yes (op:=k) (ws:=ws) (i:=i) j);have CY:=hide (cnt_yes k i qh);have SY:=hide ((unhide hsg).yes hcl (by rw[unhide GD];exact qb) (fun h=>⟨by rw[unhide SN,←unhide EN];omega,by rw[unhide SN,←unhide EN];omega⟩));have HC6:=hide (show ∀j,j<4→(w6.setCell ⟨nb,i,none⟩ (iv n)).cell? ⟨gh,j,none⟩=some (.bool (hasL k j)) from fun j hj=>by rw[cell_other _ (.inl (Ne.symm (unhide GN)))];exact x6.keep (unhide hhc j hj));have X6:=hide ((hb5.trans x6).setCell (p:=⟨nb,i,none⟩) (unhide B3) (iv n));go_wp2_with fail;go_roundw
            case rel=>exact⟨i+1,by omega,by go_num,by rw[unhide CY];go_num,unhide SY,hide (fun j hj=>by rw[unhide NY,unhide SN,←unhide EN];exact(unhide NS).1 j hj),hide (unhide NS).2,unhide HC6,unhide X6⟩
            case measure=>simp [intOf];omega
         ·obtain⟨⟨ov,rv⟩,fv⟩:=(unhide hno5 i hlt4).ext x6;have NS:=hide (numSl (w:=w6) (numF k ws i) n hlt4 (fun j hj=>x6.keep (unhide hnc j hj)) (fun j hj=>(unhide hno5 j hj).ext x6));have NY:=hide (fun j=>numF_yes (op:=k) (ws:=ws) (i:=i) j);have CY:=hide (cnt_yes k i qh);have SY:=hide ((unhide hsg).yes hcl (by rw[unhide GD];exact qb) (fun h=>⟨by rw[unhide SN,←unhide EN];omega,by rw[unhide SN,←unhide EN];omega⟩));have HC6:=hide (show ∀j,j<4→(w6.setCell ⟨nb,i,none⟩ (iv n)).cell? ⟨gh,j,none⟩=some (.bool (hasL k j)) from fun j hj=>by rw[cell_other _ (.inl (Ne.symm (unhide GN)))];exact x6.keep (unhide hhc j hj));have X6:=hide ((hb5.trans x6).setCell (p:=⟨nb,i,none⟩) (unhide B3) (iv n));go_wp2_with fail;go_roundw
          case rel=>exact⟨i+1,by omega,by go_num,by rw[unhide CY];go_num,unhide SY,hide (fun j hj=>by rw[unhide NY,unhide SN,←unhide EN];exact(unhide NS).1 j hj),hide (unhide NS).2,unhide HC6,unhide X6⟩
          case measure=>simp [intOf];omega
end Go.Proofs.YtnegjhddmfiefaaGreatDoor
