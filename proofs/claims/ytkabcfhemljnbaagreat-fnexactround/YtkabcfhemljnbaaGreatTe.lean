import Derived.Test.YtkabcfhemljnbaaGreatHc
import Derived.Test.YtkabcfhemljnbaaGreatLm
import Derived.Test.YtkabcfhemljnbaaGreatGx
import Derived.Test.YtkabcfhemljnbaaGreatTo3
namespace Go.Proofs.YtkabcfhemljnbaaGreat
open Go.RowKit
attribute [local go_sem ↓] Go.wp_at_zero Go.wp_at_succ

/-! A heap as an answer: read, owned, marked. -/
/-- rows of its own, in blocks from B on below U, apart from one another -/
structure HRow (B U : Nat) (w : World) (x : Hp) (br kr bc kc bg kg : Nat) (pb : Nat → Nat) (pa : Nat → Option Addr) (pk : Nat → Nat) : Prop where
  r : SlW w (.slice (some ⟨br, 0, none⟩) x.regs.length kr) x.regs
  s : ∀ q, q < x.cells.length → w.cell? ⟨bc, q * 8, none⟩ = some (iv (x.c q).st) ∧ w.cell? ⟨bc, q * 8 + 1, none⟩ = some (iv (x.c q).kind) ∧ w.cell? ⟨bc, q * 8 + 2, none⟩ = some (iv (x.c q).weak) ∧ w.cell? ⟨bc, q * 8 + 3, none⟩ = some (iv (x.c q).last) ∧ w.cell? ⟨bc, q * 8 + 4, none⟩ = some (iv (x.c q).born) ∧ w.cell? ⟨bc, q * 8 + 5, none⟩ = some (iv (x.c q).color) ∧ w.cell? ⟨bc, q * 8 + 6, none⟩ = some (iv (x.c q).to)
  p : ∀ q, q < x.cells.length → SlP w (.slice (pa q) (x.c q).prs.length (pk q)) (x.c q).prs
  g : SlI w (.slice (some ⟨bg, 0, none⟩) x.gray.length kg) x.gray
  p7 : ∀ q, q < x.cells.length → w.cell? ⟨bc, q * 8 + 7, none⟩ = some (.slice (pa q) (x.c q).prs.length (pk q))
  pl : ∀ q, q < x.cells.length → 0 < (x.c q).prs.length → pa q = some ⟨pb q, 0, none⟩ ∧ Nf1 (pb q) w ∧ (pb q ≠ br ∧ pb q ≠ bc ∧ pb q ≠ bg) ∧ B ≤ pb q ∧ pb q < U
  nr : Nf1 br w
  nc : Nf1 bc w
  ng : Nf1 bg w
  d : br ≠ bc ∧ br ≠ bg ∧ bc ≠ bg
  dp : ∀ q q', q < x.cells.length → q' < x.cells.length → q ≠ q' → 0 < (x.c q).prs.length → 0 < (x.c q').prs.length → pb q ≠ pb q'
  b : (B ≤ br ∧ br < U) ∧ (B ≤ bc ∧ bc < U) ∧ (B ≤ bg ∧ bg < U)
  l : x.regs.length ≤ 100 ∧ x.cells.length ≤ 8000 ∧ x.gray.length ≤ 8000 ∧ ∀ q, q < x.cells.length → (x.c q).prs.length ≤ 200
theorem nf1_only {S : Nat → Prop} {w w' : World} {B : Nat} (h : Nf1 B w) (k : Only S w w') (hs : ¬ S B) : Nf1 B w' := ⟨Nat.lt_of_lt_of_le h.1 k.size, fun j => by rw [k.frozen h.1 hs]; exact h.2 j⟩
theorem HRow.ext {B U : Nat} {w w' : World} {x : Hp} {br kr bc kc bg kg : Nat} {pb : Nat → Nat} {pa : Nat → Option Addr} {pk : Nat → Nat} (h : HRow B U w x br kr bc kc bg kg pb pa pk) (e : Ext w w') : HRow B U w' x br kr bc kc bg kg pb pa pk :=
  ⟨SlW.ext e h.r, fun q hq => let ⟨a0, a1, a2, a3, a4, a5, a6⟩ := h.s q hq; ⟨e.keep a0, e.keep a1, e.keep a2, e.keep a3, e.keep a4, e.keep a5, e.keep a6⟩, fun q hq => SlP.ext e (h.p q hq), SlI.ext e h.g, fun q hq => e.keep (h.p7 q hq), fun q hq hl => let ⟨a, b, c⟩ := h.pl q hq hl; ⟨a, b.ext e, c⟩, h.nr.ext e, h.nc.ext e, h.ng.ext e, h.d, h.dp, h.b, h.l⟩
theorem HRow.only {S : Nat → Prop} {B U : Nat} {w w' : World} {x : Hp} {br kr bc kc bg kg : Nat} {pb : Nat → Nat} {pa : Nat → Option Addr} {pk : Nat → Nat} (h : HRow B U w x br kr bc kc bg kg pb pa pk) (e : Only S w w') (hs : ∀ q, B ≤ q → q < U → ¬ S q) : HRow B U w' x br kr bc kc bg kg pb pa pk := by
  have nr := hs _ h.b.1.1 h.b.1.2
  have nc := hs _ h.b.2.1.1 h.b.2.1.2
  have ng := hs _ h.b.2.2.1 h.b.2.2.2
  refine ⟨SlOf.mono2 h.r fun b o n c z o' y hy => ?_, fun q hq => let ⟨a0, a1, a2, a3, a4, a5, a6⟩ := h.s q hq; ⟨e.keep nc a0, e.keep nc a1, e.keep nc a2, e.keep nc a3, e.keep nc a4, e.keep nc a5, e.keep nc a6⟩, fun q hq => ?_, SlOf.mono2 h.g fun b o n c z o' y hy => ?_, fun q hq => e.keep nc (h.p7 q hq), fun q hq hl => let ⟨a, b, c⟩ := h.pl q hq hl; ⟨a, nf1_only b e (hs _ c.2.1 c.2.2), c⟩, nf1_only h.nr e nr, nf1_only h.nc e nc, nf1_only h.ng e ng, h.d, h.dp, h.b, h.l⟩
  · simp only [Value.slice.injEq, Option.some.injEq, Addr.mk.injEq] at z
    obtain ⟨⟨rfl, _, _⟩, _, _⟩ := z
    exact ⟨e.keep nr hy.1, e.keep nr hy.2.1, e.keep nr hy.2.2⟩
  · rcases Nat.eq_zero_or_pos (x.c q).prs.length with z | z
    · have z2 : (x.c q).prs = [] := List.eq_nil_of_length_eq_zero z
      rw [z2]; exact SlOf.nil
    · obtain ⟨a, _, c⟩ := h.pl q hq z
      refine slP_only e (fun b o n k e2 => ?_) (h.p q hq)
      rw [a] at e2
      simp only [Value.slice.injEq, Option.some.injEq, Addr.mk.injEq] at e2
      rw [← e2.1.1]; exact hs _ c.2.1 c.2.2
  · simp only [Value.slice.injEq, Option.some.injEq, Addr.mk.injEq] at z
    obtain ⟨⟨rfl, _, _⟩, _, _⟩ := z
    exact e.keep ng hy
theorem HRow.cs {B U : Nat} {w : World} {x : Hp} {br kr bc kc bg kg : Nat} {pb : Nat → Nat} {pa : Nat → Option Addr} {pk : Nat → Nat} (h : HRow B U w x br kr bc kc bg kg pb pa pk) : SlC w (.slice (some ⟨bc, 0, none⟩) x.cells.length kc) x.cells := by
  refine ⟨_, _, rfl, by have := h.l.2.1; omega, fun i hi => ⟨bc, 0, rfl, ?_⟩⟩
  have e : x.c i = x.cells[i] := (Hp.c_eq x i hi).symm
  obtain ⟨a0, a1, a2, a3, a4, a5, a6⟩ := h.s i hi
  have hp := h.p i hi
  have h7 := h.p7 i hi
  rw [e] at a0 a1 a2 a3 a4 a5 a6 hp h7
  rw [Nat.zero_add]
  exact ⟨_, a0, a1, a2, a3, a4, a5, a6, h7, hp⟩
/-- the marks in it: k is the number behind them -/
def HMd (w : World) (br nr bc n bg ng : Nat) (len pb : Nat → Nat) (pa : Nat → Option Addr) (pk : Nat → Nat) : Prop := (∀ j, j < 3 * nr → w.cell? ⟨br, 0 + j, none⟩ = some (iv (1 + j))) ∧ CMk w bc n len pb pa pk (Kc len (1 + 3 * nr)) n ∧ ∀ j, j < ng → w.cell? ⟨bg, 0 + j, none⟩ = some (iv (Kc len (1 + 3 * nr) n + j))
theorem HMd.ext {w w' : World} {br nr bc n bg ng : Nat} {len pb : Nat → Nat} {pa : Nat → Option Addr} {pk : Nat → Nat} (h : HMd w br nr bc n bg ng len pb pa pk) (e : Ext w w') : HMd w' br nr bc n bg ng len pb pa pk := ⟨fun j hj => e.keep (h.1 j hj), h.2.1.ext e, fun j hj => e.keep (h.2.2 j hj)⟩
theorem slW_cell {w : World} {b n k : Nat} {xs : List Wd} (h : SlW w (.slice (some ⟨b, 0, none⟩) n k) xs) (j : Nat) (hj : j < 3 * xs.length) : ∃ v, w.cell? ⟨b, 0 + j, none⟩ = some v := by
  obtain ⟨ad, cap, e1, _, e2⟩ := h
  obtain ⟨b', o', e3, p⟩ := e2 (j / 3) (by omega)
  simp only [Value.slice.injEq] at e1
  rw [e3] at e1
  simp only [Option.some.injEq, Addr.mk.injEq] at e1
  obtain ⟨⟨rfl, rfl, _⟩, _⟩ := e1
  obtain ⟨p0, p1, p2⟩ := p
  have hm : j = (j / 3) * 3 + j % 3 := by omega
  rcases (by omega : j % 3 = 0 ∨ j % 3 = 1 ∨ j % 3 = 2) with z | z | z <;> rw [hm, z]
  · exact ⟨_, p0⟩
  · exact ⟨_, p1⟩
  · exact ⟨_, p2⟩
theorem slP_cell {w : World} {b n k : Nat} {xs : List Pr} (h : SlP w (.slice (some ⟨b, 0, none⟩) n k) xs) (j : Nat) (hj : j < 6 * xs.length) : ∃ v, w.cell? ⟨b, 0 + j, none⟩ = some v := by
  obtain ⟨ad, cap, e1, _, e2⟩ := h
  obtain ⟨b', o', e3, p⟩ := e2 (j / 6) (by omega)
  simp only [Value.slice.injEq] at e1
  rw [e3] at e1
  simp only [Option.some.injEq, Addr.mk.injEq] at e1
  obtain ⟨⟨rfl, rfl, _⟩, _⟩ := e1
  obtain ⟨p0, p1, p2, p3, p4, p5⟩ := p
  have hm : j = (j / 6) * 6 + j % 6 := by omega
  rcases (by omega : j % 6 = 0 ∨ j % 6 = 1 ∨ j % 6 = 2 ∨ j % 6 = 3 ∨ j % 6 = 4 ∨ j % 6 = 5) with z | z | z | z | z | z <;> rw [hm, z]
  · exact ⟨_, p0⟩
  · exact ⟨_, p1⟩
  · exact ⟨_, p2⟩
  · exact ⟨_, p3⟩
  · exact ⟨_, p4⟩
  · exact ⟨_, p5⟩
theorem slI_cell {w : World} {b n k : Nat} {xs : List Int} (h : SlI w (.slice (some ⟨b, 0, none⟩) n k) xs) (j : Nat) (hj : j < xs.length) : ∃ v, w.cell? ⟨b, 0 + j, none⟩ = some v := by
  obtain ⟨ad, cap, e1, _, e2⟩ := h
  obtain ⟨b', o', e3, p⟩ := e2 j hj
  simp only [Value.slice.injEq] at e1
  rw [e3] at e1
  simp only [Option.some.injEq, Addr.mk.injEq] at e1
  obtain ⟨⟨rfl, rfl, _⟩, _⟩ := e1
  rw [Nat.mul_one] at p
  exact ⟨_, p⟩
theorem HRow.cmk {B U : Nat} {w : World} {x : Hp} {br kr bc kc bg kg : Nat} {pb : Nat → Nat} {pa : Nat → Option Addr} {pk : Nat → Nat} (h : HRow B U w x br kr bc kc bg kg pb pa pk) (K : Nat → Int) : CMk w bc x.cells.length (fun q => (x.c q).prs.length) pb pa pk K 0 where
  a := h.p7
  l := fun q hq hl => (h.pl q hq hl).1
  o := fun q hq i hi => ⟨by
    obtain ⟨a0, a1, a2, a3, a4, a5, a6⟩ := h.s q hq
    rcases (by omega : i = 0 ∨ i = 1 ∨ i = 2 ∨ i = 3 ∨ i = 4 ∨ i = 5 ∨ i = 6) with z | z | z | z | z | z | z <;> subst z
    · exact ⟨_, a0⟩
    · exact ⟨_, a1⟩
    · exact ⟨_, a2⟩
    · exact ⟨_, a3⟩
    · exact ⟨_, a4⟩
    · exact ⟨_, a5⟩
    · exact ⟨_, a6⟩, h.nc.2 _⟩
  p := fun q hq j hj => by
    obtain ⟨a, b, _⟩ := h.pl q hq (by omega)
    have hp := h.p q hq
    rw [a] at hp
    exact ⟨slP_cell hp j hj, b.2 _⟩
  m := fun q hq => by omega

set_option maxRecDepth 100000 in
set_option maxHeartbeats 2000000 in
theorem markHeap_any (x y : Hp) (B U : Nat) (w : World) {br kr bc kc bg kg : Nat} {pb : Nat → Nat} {pa : Nat → Option Addr} {pk : Nat → Nat} (h : HRow B U w x br kr bc kc bg kg pb pa pk) (hU : U ≤ w.heap.size) :
    Calls Tryz.prog 18 #[y.v (.slice (some ⟨br, 0, none⟩) x.regs.length kr) (.slice (some ⟨bc, 0, none⟩) x.cells.length kc) (.slice (some ⟨bg, 0, none⟩) x.gray.length kg), .int .i64 1] w fun e w' => e = .returned (.int .i64 (Kc (fun q => (x.c q).prs.length) (1 + 3 * x.regs.length) x.cells.length + x.gray.length)) ∧ HMd w' br x.regs.length bc x.cells.length bg x.gray.length (fun q => (x.c q).prs.length) pb pa pk ∧ ∃ w1, Ext w w1 ∧ Only (fun q => B ≤ q ∧ q < U) w1 w' := by
  have x1 := (Ext.refl w).alloc (.cells #[iv y.room, iv y.used, iv y.born, .slice (some ⟨br, 0, none⟩) x.regs.length kr, .slice (some ⟨bc, 0, none⟩) x.cells.length kc, iv y.phase, iv y.hand, iv y.sub, .slice (some ⟨bg, 0, none⟩) x.gray.length kg, iv y.per, iv y.start, iv y.rounds, iv y.forced] 33)
  have H := hide (h.ext x1)
  have l1 := h.l.1
  have l2 := h.l.2.1
  have l3 := h.l.2.2.1
  have hbd := Kc_bd (len := fun q => (x.c q).prs.length) (k0 := 1 + 3 * x.regs.length) (by omega) x.cells.length (fun p hp => h.l.2.2.2 p hp)
  have nbr : ¬ w.heap.size = br := fun e => by have := h.b.1.2; omega
  have nbc : ¬ w.heap.size = bc := fun e => by have := h.b.2.1.2; omega
  have nbg : ¬ w.heap.size = bg := fun e => by have := h.b.2.2.2; omega
  clear h
  go_enter Tryz.func18, Tryz.ntmps18
  go_wp2_with fail
  refine (markWordS_row (some ⟨br, 0, none⟩) br x.regs.length kr 1 _ (by omega) (by omega) (by omega) (fun _ => rfl) (fun j hj => ⟨slW_cell (unhide H).r j hj, (unhide H).nr.2 _⟩)).mono ?_
  rintro e w1 ⟨rfl, hm1, _, ho1⟩
  have c4 : w1.cell? ⟨w.heap.size, 4, none⟩ = some (.slice (some ⟨bc, 0, none⟩) x.cells.length kc) := ho1.keep (fun e => nbr e.1) (by simp [go_sem])
  have c8 : w1.cell? ⟨w.heap.size, 8, none⟩ = some (.slice (some ⟨bg, 0, none⟩) x.gray.length kg) := ho1.keep (fun e => nbr e.1) (by simp [go_sem])
  have M1 := hide (CMk.only ((unhide H).cmk (Kc (fun q => (x.c q).prs.length) (1 + 3 * x.regs.length))) ho1 (Nat.zero_le _) (fun e => (unhide H).d.1 e.1.symm) (fun q hq hl e => ((unhide H).pl q hq hl).2.2.1.1 e.1))
  have C1 := hide hm1
  have O1 := hide ho1
  clear hm1 ho1
  go_wp2_with fail
  refine (markCellS_any bc x.cells.length kc (fun q => (x.c q).prs.length) pb pa pk (1 + 3 * x.regs.length) _ l2 (by omega) (by omega) (unhide H).l.2.2.2 (unhide M1) (fun q hq hl => ((unhide H).pl q hq hl).2.2.1.2.1) (unhide H).dp (fun q => (B ≤ q ∧ q < U) ∧ q ≠ br ∧ q ≠ bg) ⟨(unhide H).b.2.1, fun e => (unhide H).d.1 e.symm, (unhide H).d.2.2⟩ (fun q hq hl => ⟨((unhide H).pl q hq hl).2.2.2, ((unhide H).pl q hq hl).2.2.1.1, ((unhide H).pl q hq hl).2.2.1.2.2⟩)).mono ?_
  rintro e w2 ⟨rfl, hm2, ho2⟩
  have c8 : w2.cell? ⟨w.heap.size, 8, none⟩ = some (.slice (some ⟨bg, 0, none⟩) x.gray.length kg) := ho2.keep (fun e => by have := e.1.2; omega) c8
  have G2 := hide (show ∀ j, j < x.gray.length → Open w2 bg (0 + j) from fun j hj => open_only (open_only ⟨slI_cell (unhide H).g j hj, (unhide H).ng.2 _⟩ (unhide O1) (fun e => (unhide H).d.2.1 e.1.symm)) ho2 (fun e => e.2.2 rfl))
  have C2 := hide (show ∀ j, j < 3 * x.regs.length → w2.cell? ⟨br, 0 + j, none⟩ = some (iv (1 + j)) from fun j hj => ho2.keep (fun e => e.2.1 rfl) (unhide C1 j hj))
  have M2 := hide hm2
  have O2 := hide ho2
  obtain ⟨m, em⟩ : ∃ m, m = Kc (fun q => (x.c q).prs.length) (1 + 3 * x.regs.length) x.cells.length := ⟨_, rfl⟩
  have EM := hide em
  rw [← em] at hbd ⊢
  clear hm2 ho2 em c4
  go_wp2_with fail
  refine (markIntS_row (some ⟨bg, 0, none⟩) bg x.gray.length kg m _ (by omega) (by omega) (by omega) (fun _ => rfl) (unhide G2)).mono ?_
  rintro e w3 ⟨rfl, hm3, _, ho3⟩
  have FIN := hide (show HMd w3 br x.regs.length bc x.cells.length bg x.gray.length (fun q => (x.c q).prs.length) pb pa pk from ⟨fun j hj => ho3.keep (fun e => (unhide H).d.2.1 e.1) (unhide C2 j hj), CMk.only (unhide M2) ho3 (Nat.le_refl _) (fun e => (unhide H).d.2.2 e.1) (fun q hq hl e => ((unhide H).pl q hq hl).2.2.1.2.2 e.1), fun j hj => by rw [← unhide EM]; exact hm3 j hj⟩)
  have FO := hide ((((unhide O1).mono (T := fun q => B ≤ q ∧ q < U) (fun q e => by rw [e.1]; exact (unhide H).b.1)).trans ((unhide O2).mono (fun q e => e.1))).trans (ho3.mono (fun q e => by rw [e.1]; exact (unhide H).b.2.2)))
  clear hm3 ho3
  go_wp2_with fail
  go_ret
  exact ⟨by have := unhide EM; subst this; rfl, unhide FIN, _, x1, unhide FO⟩

set_option maxRecDepth 100000 in
set_option maxHeartbeats 2000000 in
theorem heldHeap_any (y : Hp) (w : World) (br nr kr bc n kc bg ng kg : Nat) (len pb : Nat → Nat) (pa : Nat → Option Addr) (pk : Nat → Nat) (l1 : nr ≤ 100) (l2 : n ≤ 8000) (l3 : ng ≤ 8000) (hl : ∀ q, q < n → len q ≤ 200) (h : HMd w br nr bc n bg ng len pb pa pk) :
    Calls Tryz.prog 34 #[y.v (.slice (some ⟨br, 0, none⟩) nr kr) (.slice (some ⟨bc, 0, none⟩) n kc) (.slice (some ⟨bg, 0, none⟩) ng kg), .int .i64 1] w fun e w' => e = .returned (.int .i64 (Kc len (1 + 3 * nr) n + ng)) ∧ Ext w w' := by
  have x1 := (Ext.refl w).alloc (.cells #[iv y.room, iv y.used, iv y.born, .slice (some ⟨br, 0, none⟩) nr kr, .slice (some ⟨bc, 0, none⟩) n kc, iv y.phase, iv y.hand, iv y.sub, .slice (some ⟨bg, 0, none⟩) ng kg, iv y.per, iv y.start, iv y.rounds, iv y.forced] 33)
  have H := hide (h.ext x1)
  have hbd := Kc_bd (len := len) (k0 := 1 + 3 * nr) (by omega) n (fun p hp => hl p hp)
  obtain ⟨m, em⟩ : ∃ m, m = Kc len (1 + 3 * nr) n := ⟨_, rfl⟩
  have EM := hide em
  rw [← em] at hbd ⊢
  have hm0 : ¬ m < 0 := by omega
  have hm1 : ¬ (1 + 3 * (nr : Int)) < 0 := by omega
  have hm2 : ¬ m + (ng : Int) < 0 := by omega
  clear h em
  go_enter Tryz.func34, Tryz.ntmps34
  go_wp2_with fail
  refine (heldWordS_row (some ⟨br, 0, none⟩) br nr kr 1 _ (by omega) (by omega) (by omega) (fun _ => rfl) (unhide H).1).mono ?_
  rintro e w1 ⟨rfl, rfl⟩
  go_wp2_with fail
  refine (heldCellS_any bc n kc len pb pa pk (1 + 3 * nr) _ l2 (by omega) (by omega) hl (unhide H).2.1).mono ?_
  rintro e w2 ⟨rfl, rfl⟩
  rw [← unhide EM]
  go_wp2_with fail
  refine (heldIntS_row (some ⟨bg, 0, none⟩) bg ng kg m _ (by omega) (by omega) (by omega) (fun _ => rfl) (fun j hj => by rw [unhide EM]; exact (unhide H).2.2 j hj)).mono ?_
  rintro e w3 ⟨rfl, rfl⟩
  go_wp2_with fail
  go_ret
  exact ⟨rfl, x1⟩
end Go.Proofs.YtkabcfhemljnbaaGreat

namespace Go.Proofs.YtkabcfhemljnbaaGreat
open Go.RowKit
attribute [local go_sem ↓] Go.wp_at_zero Go.wp_at_succ

set_option maxRecDepth 100000 in
set_option maxHeartbeats 2000000 in
theorem places_any (b bn hd n : Nat) (G : List Int) (w : World) (h : RAt w b bn hd G) (hn : ∀ i, i < n → w.cell? ⟨bn, i * 2, none⟩ = some (iv i)) (hG : ∀ g, g ∈ G → 0 ≤ g ∧ g < n) :
    Calls Tryz.prog 127 #[.pointer (some ⟨b, 15, none⟩)] w fun e w' => e = .returned (.slice (some ⟨w.heap.size, 0, none⟩) G.length G.length) ∧ SlI w' (.slice (some ⟨w.heap.size, 0, none⟩) G.length G.length) G ∧ Nf1 w.heap.size w' ∧ Ext w w' := by
  have r1 := h.r1
  have hl := h.hl
  have H := hide h
  have HN := hide hn
  have HG := hide hG
  obtain ⟨z, hmk⟩ := mkInts G.length (by omega) w
  clear h hn hG
  go_enter Tryz.func127, Tryz.ntmps127
  go_wp2_with fail
  go_loopw [12] (fun i wr => ∃ (k : Nat), k ≤ G.length ∧ i = .int .i64 k ∧ Hid ((∀ j (hj : j < G.length), j < k → InAt wr w.heap.size (0 + j * 1) G[j]) ∧ (∀ j, j < G.length * 1 → Open wr w.heap.size j) ∧ Ext w wr ∧ Nf1 w.heap.size wr)) (fun i _ => G.length - (intOf i).toNat)
  case atStart => exact ⟨0, Nat.zero_le _, rfl, (fun j _ h => by omega), (fun j hj => made_open _ _ _ _ _ (by omega)), (Ext.refl w).alloc _, Nf1.made _ _ _ _⟩
  case round =>
    clear hmk r1
    obtain ⟨k, hk, rfl, hinv⟩ := hrel
    by_cases hlt : k < G.length
    · have hx := (unhide hinv).2.2.1
      obtain ⟨m, hm⟩ : ∃ m, m = (hd + k) % 4000 := ⟨_, rfl⟩
      have hm4 : m < 4000 := by rw [hm]; exact Nat.mod_lt _ (by omega)
      have hr : ((hd : Int) + (k : Int)).tmod 4000 = (m : Int) := by have := ring_idx (hd + k); rw [← hm] at this; simpa using this
      have m0 : (0:Int) ≤ (m:Int) := by omega
      have m1 : (m:Int) < 4000 := by omega
      have hg := unhide HG G[k] (List.getElem_mem hlt)
      obtain ⟨j, hj⟩ : ∃ j : Nat, G[k] = (j : Int) := ⟨G[k].toNat, by omega⟩
      have hjn : j < n := by omega
      have c0 := hx.keep (unhide H).r0
      have h0 := (unhide H).h0
      have cm := hx.keep ((unhide H).rg k hlt)
      rw [← hm, hj] at cm
      have cm : wr.cell? ⟨b, 15 + m, none⟩ = some (.pointer (some ⟨bn, j * 2, none⟩)) := cm
      have cj := hx.keep (unhide HN j hjn)
      have R := hide (ints_step (w := w) (wr := wr) (xs := G) (k := k) hlt (unhide hinv).1 (unhide hinv).2.1 hx (unhide hinv).2.2.2)
      rw [hj] at R
      obtain ⟨⟨u, cu⟩, fu⟩ := (unhide hinv).2.1 k (by omega)
      have k0 : (0:Int) ≤ (k:Int) := by omega
      have k1 : (k:Int) < (G.length:Int) := by omega
      have nb1 : ¬ w.heap.size = b := fun e => by have := cell_lt (unhide H).r0; simp only at this; omega
      have nb2 : ¬ b = w.heap.size := fun e => nb1 e.symm
      clear hg hj hm
      go_wp2_with fail
      go_region
      all_goals
        go_wp2_with fail
        go_roundw
        case rel =>
          have d := (Ext.refl (wr.setCell ⟨w.heap.size, k, none⟩ (iv j))).drew
          exact ⟨k + 1, by omega, by go_num, fun j hj hk => ((unhide R).1 j hj hk).ext d, fun j hj => ((unhide R).2.1 j hj).ext d, (unhide R).2.2.1.drew, (unhide R).2.2.2.ext d⟩
        case measure => simp [intOf]; omega
    · have hk2 : k = G.length := by omega
      have HM := hide (show SlI wr (.slice (some ⟨w.heap.size, 0, none⟩) G.length G.length) G from ⟨_, _, rfl, by omega, fun i hi => ⟨_, _, rfl, (unhide hinv).1 i hi (by omega)⟩⟩)
      clear hk2
      go_wp2_with fail
      go_ret
      exact ⟨rfl, unhide HM, (unhide hinv).2.2.2, (unhide hinv).2.2.1⟩

theorem Only.setNew {S : Nat → Prop} {a w : World} (h : Only S a w) {p : Addr} (hp : a.heap.size ≤ p.block) (u : Value) : Only S a (w.setCell p u) :=
  ⟨h.os, h.tape, h.output, by have := h.size; simpa [World.setCell] using this, fun k hk hs => (Below.heap_setCell _ _ _ _ (by omega)).trans (h.block k hk hs)⟩
/-- the cells of the answer, the first k of them laid -/
structure Tdl (w1 wr : World) (x : Hp) (t bN : Nat) (vr vc vg : Value) (pa : Nat → Option Addr) (pk : Nat → Nat) (k : Nat) : Prop where
  bx : HBox wr t x vr vc vg
  s : ∀ q, q < x.cells.length → q < k → S7 wr bN (q * 8) (x.c q) ∧ wr.cell? ⟨bN, q * 8 + 7, none⟩ = some (.slice (pa q) (x.c q).prs.length (pk q))
  o : ∀ j, j < x.cells.length * 8 → Open wr bN j
  nf : Nf1 bN wr
  on : Only (fun q => q = t) w1 wr
  lt : t < w1.heap.size ∧ w1.heap.size ≤ bN
theorem Tdl.step {w1 wr : World} {x : Hp} {t bN : Nat} {vr vc vg : Value} {pa : Nat → Option Addr} {pk : Nat → Nat} {k : Nat} (h : Tdl w1 wr x t bN vr vc vg pa pk k) (hk : k < x.cells.length) :
    Tdl w1 ((((((((wr.setCell ⟨bN, k * 8, none⟩ (iv (x.c k).st)).setCell ⟨bN, k * 8 + 1, none⟩ (iv (x.c k).kind)).setCell ⟨bN, k * 8 + 2, none⟩ (iv (x.c k).weak)).setCell ⟨bN, k * 8 + 3, none⟩ (iv (x.c k).last)).setCell ⟨bN, k * 8 + 4, none⟩ (iv (x.c k).born)).setCell ⟨bN, k * 8 + 5, none⟩ (iv (x.c k).color)).setCell ⟨bN, k * 8 + 6, none⟩ (iv (x.c k).to)).setCell ⟨bN, k * 8 + 7, none⟩ (.slice (pa k) (x.c k).prs.length (pk k))).drew x t bN vr vc vg pa pk (k + 1) := by
  have hl := h.lt
  have o0 : Open wr bN (k * 8) := h.o (k * 8) (by omega)
  have o1 := h.o (k * 8 + 1) (by omega)
  have o2 := h.o (k * 8 + 2) (by omega)
  have o3 := h.o (k * 8 + 3) (by omega)
  have o4 := h.o (k * 8 + 4) (by omega)
  have o5 := h.o (k * 8 + 5) (by omega)
  have o6 := h.o (k * 8 + 6) (by omega)
  have o7 := h.o (k * 8 + 7) (by omega)
  have oth : ∀ b o, (b ≠ bN ∨ o < k * 8 ∨ k * 8 + 8 ≤ o) → (((((((((wr.setCell ⟨bN, k * 8, none⟩ (iv (x.c k).st)).setCell ⟨bN, k * 8 + 1, none⟩ (iv (x.c k).kind)).setCell ⟨bN, k * 8 + 2, none⟩ (iv (x.c k).weak)).setCell ⟨bN, k * 8 + 3, none⟩ (iv (x.c k).last)).setCell ⟨bN, k * 8 + 4, none⟩ (iv (x.c k).born)).setCell ⟨bN, k * 8 + 5, none⟩ (iv (x.c k).color)).setCell ⟨bN, k * 8 + 6, none⟩ (iv (x.c k).to)).setCell ⟨bN, k * 8 + 7, none⟩ (.slice (pa k) (x.c k).prs.length (pk k))).drew).cell? ⟨b, o, none⟩ = wr.cell? ⟨b, o, none⟩ := fun b o hb => by
    rw [drew_cell, cell_other _ (by omega), cell_other _ (by omega), cell_other _ (by omega), cell_other _ (by omega), cell_other _ (by omega), cell_other _ (by omega), cell_other _ (by omega), cell_other _ (by omega)]
  have opn : ∀ b o, Open wr b o → Open ((((((((wr.setCell ⟨bN, k * 8, none⟩ (iv (x.c k).st)).setCell ⟨bN, k * 8 + 1, none⟩ (iv (x.c k).kind)).setCell ⟨bN, k * 8 + 2, none⟩ (iv (x.c k).weak)).setCell ⟨bN, k * 8 + 3, none⟩ (iv (x.c k).last)).setCell ⟨bN, k * 8 + 4, none⟩ (iv (x.c k).born)).setCell ⟨bN, k * 8 + 5, none⟩ (iv (x.c k).color)).setCell ⟨bN, k * 8 + 6, none⟩ (iv (x.c k).to)).setCell ⟨bN, k * 8 + 7, none⟩ (.slice (pa k) (x.c k).prs.length (pk k))).drew b o := fun b o hb => ((((((((hb.set _ _).set _ _).set _ _).set _ _).set _ _).set _ _).set _ _).set _ _).ext ((Ext.refl _).drew)
  refine ⟨h.bx.of fun o _ => oth t o (.inl (by omega)), fun q hq hqk => ?_, fun j hj => opn bN j (h.o j hj), ((((((((h.nf.set _ _).set _ _).set _ _).set _ _).set _ _).set _ _).set _ _).set _ _).ext ((Ext.refl _).drew), ?_, hl⟩
  · by_cases e : q = k
    · subst e
      refine ⟨⟨?_, ?_, ?_, ?_, ?_, ?_, ?_⟩, ?_⟩
      · rw [drew_cell, cell_other _ (by omega), cell_other _ (by omega), cell_other _ (by omega), cell_other _ (by omega), cell_other _ (by omega), cell_other _ (by omega), cell_other _ (by omega)]; exact o0.same _
      · rw [drew_cell, cell_other _ (by omega), cell_other _ (by omega), cell_other _ (by omega), cell_other _ (by omega), cell_other _ (by omega), cell_other _ (by omega)]; exact (o1.set _ _).same _
      · rw [drew_cell, cell_other _ (by omega), cell_other _ (by omega), cell_other _ (by omega), cell_other _ (by omega), cell_other _ (by omega)]; exact ((o2.set _ _).set _ _).same _
      · rw [drew_cell, cell_other _ (by omega), cell_other _ (by omega), cell_other _ (by omega), cell_other _ (by omega)]; exact (((o3.set _ _).set _ _).set _ _).same _
      · rw [drew_cell, cell_other _ (by omega), cell_other _ (by omega), cell_other _ (by omega)]; exact ((((o4.set _ _).set _ _).set _ _).set _ _).same _
      · rw [drew_cell, cell_other _ (by omega), cell_other _ (by omega)]; exact (((((o5.set _ _).set _ _).set _ _).set _ _).set _ _).same _
      · rw [drew_cell, cell_other _ (by omega)]; exact ((((((o6.set _ _).set _ _).set _ _).set _ _).set _ _).set _ _).same _
      · rw [drew_cell]; exact (((((((o7.set _ _).set _ _).set _ _).set _ _).set _ _).set _ _).set _ _).same _
    · have hx := h.s q hq (by omega)
      exact ⟨hx.1.of fun j hj => oth bN _ (.inr (by omega)), (oth bN _ (.inr (by omega))).trans hx.2⟩
  · exact ((((((((h.on.setNew (p := ⟨bN, k * 8, none⟩) hl.2 _).setNew (p := ⟨bN, k * 8 + 1, none⟩) hl.2 _).setNew (p := ⟨bN, k * 8 + 2, none⟩) hl.2 _).setNew (p := ⟨bN, k * 8 + 3, none⟩) hl.2 _).setNew (p := ⟨bN, k * 8 + 4, none⟩) hl.2 _).setNew (p := ⟨bN, k * 8 + 5, none⟩) hl.2 _).setNew (p := ⟨bN, k * 8 + 6, none⟩) hl.2 _).setNew (p := ⟨bN, k * 8 + 7, none⟩) hl.2 _).drew
end Go.Proofs.YtkabcfhemljnbaaGreat

namespace Go.Proofs.YtkabcfhemljnbaaGreat
open Go.RowKit
attribute [local go_sem ↓] Go.wp_at_zero Go.wp_at_succ

set_option maxRecDepth 100000 in
set_option maxHeartbeats 4000000 in
theorem told_any {B : Nat} {b : Nat} {x : Hp} {ar : Option Addr} {kr : Nat} {a4 : Option Addr} {n4 k4 : Nat} {a8 : Option Addr} {n8 k8 : Nat} {br bc bn : Nat} {pb : Nat → Nat} {pa : Nat → Option Addr} {pk : Nat → Nat} {kn hd : Nat} {vf : Value} {F : List Int} {vk : Value} {K : List Nat} {role : Nat → Nat} (w : World)
    (h : SAt B w b x ar kr (.slice a4 n4 k4) (.slice a8 n8 k8) br bc bn pb pa pk kn hd vf F vk K role) (hG : ∀ g, g ∈ x.gray → 0 ≤ g ∧ g < x.cells.length) (hr : 0 < x.regs.length) (l : x.regs.length ≤ 100 ∧ x.cells.length ≤ 8000 ∧ x.gray.length ≤ 8000 ∧ ∀ q, q < x.cells.length → (x.c q).prs.length ≤ 200) (hB : B ≤ w.heap.size) :
    Calls Tryz.prog 77 #[.pointer (some ⟨b, 0, none⟩)] w fun e w' => ∃ bcN bgN, e = .returned (x.v (.slice (some ⟨br, 0, none⟩) x.regs.length kr) (.slice (some ⟨bcN, 0, none⟩) x.cells.length x.cells.length) (.slice (some ⟨bgN, 0, none⟩) x.gray.length x.gray.length)) ∧ Hid (HRow B w'.heap.size w' x br kr bcN x.cells.length bgN x.gray.length pb pa pk) ∧ Ext w w' := by
  have H := hide h
  obtain ⟨c0, c1, c2, c3, c4, c5, c6, c7, c8, c9, c10, c11, c12⟩ := h.sb.bx
  rw [h.sb.ha hr] at c3
  have AR := hide (h.sb.ha hr)
  have hb := h.sb.nb.1
  have l2 := l.2.1
  have HG := hide hG
  have HL := hide l
  clear h hG l
  have xa := ((Ext.refl w).alloc (.cells #[iv 0, iv 0, iv 0, .slice none 0 0, .slice none 0 0, iv 0, iv 0, iv 0, .slice none 0 0, iv 0, iv 0, iv 0, iv 0] 33)).alloc (.cells #[iv x.room, iv x.used, iv x.born, .slice (some ⟨br, 0, none⟩) x.regs.length kr, .slice a4 n4 k4, iv x.phase, iv x.hand, iv x.sub, .slice a8 n8 k8, iv x.per, iv x.start, iv x.rounds, iv x.forced] 33)
  have B1 := HBox.new (w.alloc (.cells #[iv 0, iv 0, iv 0, .slice none 0 0, .slice none 0 0, iv 0, iv 0, iv 0, .slice none 0 0, iv 0, iv 0, iv 0, iv 0] 33)) x (.slice (some ⟨br, 0, none⟩) x.regs.length kr) (.slice a4 n4 k4) (.slice a8 n8 k8) 33
  have hs1 : (w.alloc (.cells #[iv 0, iv 0, iv 0, .slice none 0 0, .slice none 0 0, iv 0, iv 0, iv 0, .slice none 0 0, iv 0, iv 0, iv 0, iv 0] 33)).heap.size = w.heap.size + 1 := by simp
  rw [hs1] at B1
  have hs2 : ((w.alloc (.cells #[iv 0, iv 0, iv 0, .slice none 0 0, .slice none 0 0, iv 0, iv 0, iv 0, .slice none 0 0, iv 0, iv 0, iv 0, iv 0] 33)).alloc (.cells #[iv x.room, iv x.used, iv x.born, .slice (some ⟨br, 0, none⟩) x.regs.length kr, .slice a4 n4 k4, iv x.phase, iv x.hand, iv x.sub, .slice a8 n8 k8, iv x.per, iv x.start, iv x.rounds, iv x.forced] 33)).heap.size = w.heap.size + 2 := by simp
  go_enter Tryz.func77, Tryz.ntmps77
  go_wp2_with fail
  refine (places_any b bn hd x.cells.length x.gray _ ((unhide H).ext xa).sb.rg (fun i hi => (((unhide H).ext xa).sb.nd i hi).1) (unhide HG)).mono ?_
  rintro e w1 ⟨rfl, hgs, hgn, q1⟩
  rw [hs2] at hgs hgn ⊢
  have hz1 : w.heap.size + 2 < w1.heap.size := hgn.1
  have BX1 := hide (B1.ext q1)
  have X1 := xa.trans q1
  have GS := hide (And.intro hgs hgn)
  have d8 := (unhide BX1).2.2.2.2.2.2.2.2.1
  have d4 := (unhide BX1).2.2.2.2.1
  have fz : ∀ o, w1.frozen? ⟨w.heap.size + 1, o, none⟩ = false := fun o => ((bcell q1).2 (w.heap.size + 1) o (by rw [hs2]; omega)).trans (by simp [go_sem])
  have g8 := fz 8
  have g4 := fz 4
  have rc := hide (show ∀ o v, ((w.alloc (.cells #[iv 0, iv 0, iv 0, .slice none 0 0, .slice none 0 0, iv 0, iv 0, iv 0, .slice none 0 0, iv 0, iv 0, iv 0, iv 0] 33)).alloc (.cells #[iv x.room, iv x.used, iv x.born, .slice (some ⟨br, 0, none⟩) x.regs.length kr, .slice a4 n4 k4, iv x.phase, iv x.hand, iv x.sub, .slice a8 n8 k8, iv x.per, iv x.start, iv x.rounds, iv x.forced] 33)).cell? ⟨w.heap.size, o, none⟩ = some v → w1.cell? ⟨w.heap.size, o, none⟩ = some v from fun o v h => q1.keep h)
  have RF := hide (show ∀ o, w1.frozen? ⟨w.heap.size, o, none⟩ = false from fun o => ((bcell q1).2 w.heap.size o (by rw [hs2]; omega)).trans (by simp [go_sem]))
  have n13 := ((unhide H).ext X1).sb.n13
  have nb1 : ¬ b = w.heap.size + 1 := by omega
  have nb2 : ¬ w.heap.size + 1 = b := by omega
  obtain ⟨z, hmk⟩ := mkCells x.cells.length (by omega) (w1.setCell ⟨w.heap.size + 1, 8, none⟩ (.slice (some ⟨w.heap.size + 2, 0, none⟩) x.gray.length x.gray.length))
  have hsz : (w1.setCell ⟨w.heap.size + 1, 8, none⟩ (.slice (some ⟨w.heap.size + 2, 0, none⟩) x.gray.length x.gray.length)).heap.size = w1.heap.size := by simp [World.setCell]
  rw [hsz] at hmk
  have hbw : b < w1.heap.size := by omega
  have htw : w.heap.size + 1 < w1.heap.size := by omega
  clear hgs hgn B1 fz q1 c0 c1 c2 c3 c4 c5 c6 c7 c8 c9 c10 c11 c12
  go_wp2_with fail
  have ST := hide (show Tdl w1 (((w1.setCell ⟨w.heap.size + 1, 8, none⟩ (.slice (some ⟨w.heap.size + 2, 0, none⟩) x.gray.length x.gray.length)).setCell ⟨w.heap.size + 1, 4, none⟩ (.slice (some ⟨w1.heap.size, 0, none⟩) x.cells.length x.cells.length)).alloc (.cells (madeCells z (x.cells.length * 8)) 86)) x (w.heap.size + 1) w1.heap.size (.slice (some ⟨br, 0, none⟩) x.regs.length kr) (.slice (some ⟨w1.heap.size, 0, none⟩) x.cells.length x.cells.length) (.slice (some ⟨w.heap.size + 2, 0, none⟩) x.gray.length x.gray.length) pa pk 0 from by
    have hs : ((w1.setCell ⟨w.heap.size + 1, 8, none⟩ (.slice (some ⟨w.heap.size + 2, 0, none⟩) x.gray.length x.gray.length)).setCell ⟨w.heap.size + 1, 4, none⟩ (.slice (some ⟨w1.heap.size, 0, none⟩) x.cells.length x.cells.length)).heap.size = w1.heap.size := by simp [World.setCell]
    refine ⟨(((unhide BX1).set8 _).set4 _).ext ((Ext.refl _).alloc _), fun q _ h => by omega, fun j hj => ?_, ?_, ?_, ⟨htw, Nat.le_refl _⟩⟩
    · have := made_open ((w1.setCell ⟨w.heap.size + 1, 8, none⟩ (.slice (some ⟨w.heap.size + 2, 0, none⟩) x.gray.length x.gray.length)).setCell ⟨w.heap.size + 1, 4, none⟩ (.slice (some ⟨w1.heap.size, 0, none⟩) x.cells.length x.cells.length)) z (x.cells.length * 8) 86 j hj
      rw [hs] at this; exact this
    · have := Nf1.made ((w1.setCell ⟨w.heap.size + 1, 8, none⟩ (.slice (some ⟨w.heap.size + 2, 0, none⟩) x.gray.length x.gray.length)).setCell ⟨w.heap.size + 1, 4, none⟩ (.slice (some ⟨w1.heap.size, 0, none⟩) x.cells.length x.cells.length)) z (x.cells.length * 8) 86
      rw [hs] at this; exact this
    · exact (Only.setCell (S := fun q => q = w.heap.size + 1) (Only.setCell (S := fun q => q = w.heap.size + 1) (Only.refl _ w1) (p := ⟨w.heap.size + 1, 8, none⟩) rfl _) (p := ⟨w.heap.size + 1, 4, none⟩) rfl _).trans (Only.of_ext ((Ext.refl _).alloc _)))
  clear d8 d4 g8 g4 n13 hmk
  go_loopw [29] (fun i wr => ∃ (k : Nat), k ≤ x.cells.length ∧ i = .int .i64 k ∧ Hid (Tdl w1 wr x (w.heap.size + 1) w1.heap.size (.slice (some ⟨br, 0, none⟩) x.regs.length kr) (.slice (some ⟨w1.heap.size, 0, none⟩) x.cells.length x.cells.length) (.slice (some ⟨w.heap.size + 2, 0, none⟩) x.gray.length x.gray.length) pa pk k)) (fun i _ => x.cells.length - (intOf i).toNat)
  case atStart => exact ⟨0, Nat.zero_le _, rfl, unhide ST⟩
  case round =>
    clear ST
    obtain ⟨k, hk, rfl, hinv⟩ := hrel
    have XR : Ext w wr := (unhide hinv).on.ext X1 (fun q hq e => by omega)
    by_cases hlt : k < x.cells.length
    · have R := hide ((unhide hinv).step hlt)
      have c4 := (unhide hinv).bx.2.2.2.2.1
      have n13 := ((unhide H).ext XR).sb.n13
      obtain ⟨m0, m1⟩ := ((unhide H).ext XR).sb.nd k hlt
      obtain ⟨p0, p1, p2, p3, p4, p5, p6⟩ := ((unhide H).ext XR).rw.s k hlt
      have p7 := ((unhide H).ext XR).rw.p7 k hlt
      obtain ⟨⟨u0, o0⟩, f0⟩ : Open wr w1.heap.size (k * 8) := (unhide hinv).o (k * 8) (by omega)
      obtain ⟨⟨u1, o1⟩, f1⟩ := (unhide hinv).o (k * 8 + 1) (by omega)
      obtain ⟨⟨u2, o2⟩, f2⟩ := (unhide hinv).o (k * 8 + 2) (by omega)
      obtain ⟨⟨u3, o3⟩, f3⟩ := (unhide hinv).o (k * 8 + 3) (by omega)
      obtain ⟨⟨u4, o4⟩, f4⟩ := (unhide hinv).o (k * 8 + 4) (by omega)
      obtain ⟨⟨u5, o5⟩, f5⟩ := (unhide hinv).o (k * 8 + 5) (by omega)
      obtain ⟨⟨u6, o6⟩, f6⟩ := (unhide hinv).o (k * 8 + 6) (by omega)
      obtain ⟨⟨u7, o7⟩, f7⟩ := (unhide hinv).o (k * 8 + 7) (by omega)
      have k0 : (0:Int) ≤ (k:Int) := by omega
      have k1 : (k:Int) < (x.cells.length:Int) := by omega
      clear m0
      go_wp2_with fail
      go_region
      all_goals
        go_wp2_with fail
        go_roundw
        case rel => exact ⟨k + 1, by omega, by go_num, unhide R⟩
        case measure => simp [intOf]; omega
    · have hk2 : k = x.cells.length := by omega
      subst hk2
      have WB : ∀ q, q < w1.heap.size → q ≠ w.heap.size + 1 → wr.heap[q]? = w1.heap[q]? := fun q hq hne => (unhide hinv).on.block q hq hne
      have SR := hide ((unhide H).ext XR)
      have GR := hide (show SlI wr (.slice (some ⟨w.heap.size + 2, 0, none⟩) x.gray.length x.gray.length) x.gray ∧ Nf1 (w.heap.size + 2) wr from by
        have e := WB (w.heap.size + 2) (by omega) (by omega)
        refine ⟨SlOf.mono2 (unhide GS).1 fun b' o n c z o' y hy => ?_, nf1_block (unhide GS).2 e (unhide hinv).on.size⟩
        simp only [Value.slice.injEq, Option.some.injEq, Addr.mk.injEq] at z
        obtain ⟨⟨rfl, _, _⟩, _, _⟩ := z
        exact (World.cell?_of_block (a := ⟨w.heap.size + 2, o', none⟩) e).trans hy)
      have RW := hide (show ∀ W, Only (fun q => q = w.heap.size) wr W → HRow B W.heap.size W x br kr w1.heap.size x.cells.length (w.heap.size + 2) x.gray.length pb pa pk from fun W o => by
        have rw := (unhide SR).rw
        have hB2 := hB
        have lr := (unhide H).rw.nr hr
        have lp := fun q hq hl => (unhide H).rw.pl q hq hl
        have hsz := o.size
        have hws := (unhide hinv).nf.1
        have rw2 := rw.only o (fun hl e => by have := lr.1.1; omega) (fun hl e => by have := ((unhide H).rw.nc hl).1.1; omega) (fun q hq hl e => by have := (lp q hq hl).2.1.1; omega)
        refine ⟨rw2.slW kr (fun _ => rfl) (by have := (unhide HL).1; omega), fun q hq => ?_, fun q hq => ?_, ?_, fun q hq => ?_, fun q hq hl => ?_, (rw2.nr hr).1, ?_, ?_, ⟨by have := lr.1.1; omega, by have := lr.1.1; omega, by omega⟩, rw2.dp, ⟨⟨lr.2, by have := lr.1.1; have := XR.size; omega⟩, ⟨by omega, by omega⟩, ⟨by omega, by omega⟩⟩, unhide HL⟩
        · exact ((unhide hinv).s q hq hq).1.of fun j _ => World.cell?_of_block (a := ⟨w1.heap.size, _, none⟩) (o.block w1.heap.size hws (by omega))
        · refine ⟨_, _, rfl, by have := (unhide HL).2.2.2 q hq; omega, fun k hk => ⟨pb q, 0, (rw2.pl q hq (by omega)).1, ?_⟩⟩
          rw [Nat.zero_add, Cl.p_eq _ _ hk]
          exact rw2.p q hq k hk
        · refine SlOf.mono2 (unhide GR).1 fun b' o2 n c z o' y hy => ?_
          simp only [Value.slice.injEq, Option.some.injEq, Addr.mk.injEq] at z
          obtain ⟨⟨rfl, _, _⟩, _, _⟩ := z
          exact o.keep (by omega) hy
        · exact o.keep (by omega) ((unhide hinv).s q hq hq).2
        · obtain ⟨a1, a2, a3, a4⟩ := rw2.pl q hq hl
          have := (lp q hq hl).2.1.1
          exact ⟨a1, a2, ⟨a3.1, by omega, by omega⟩, a4, by have := XR.size; omega⟩
        · exact nf1_block (unhide hinv).nf (o.block w1.heap.size hws (by omega)) hsz
        · exact nf1_block (unhide GR).2 (o.block (w.heap.size + 2) (unhide GR).2.1 (by omega)) hsz)
      have rcell : ∀ o v, ((w.alloc (.cells #[iv 0, iv 0, iv 0, .slice none 0 0, .slice none 0 0, iv 0, iv 0, iv 0, .slice none 0 0, iv 0, iv 0, iv 0, iv 0] 33)).alloc (.cells #[iv x.room, iv x.used, iv x.born, .slice (some ⟨br, 0, none⟩) x.regs.length kr, .slice a4 n4 k4, iv x.phase, iv x.hand, iv x.sub, .slice a8 n8 k8, iv x.per, iv x.start, iv x.rounds, iv x.forced] 33)).cell? ⟨w.heap.size, o, none⟩ = some v → wr.cell? ⟨w.heap.size, o, none⟩ = some v := fun o v h => (World.cell?_of_block (a := ⟨w.heap.size, o, none⟩) (WB w.heap.size (by omega) (by omega))).trans (unhide rc o v h)
      have rfz : ∀ o, wr.frozen? ⟨w.heap.size, o, none⟩ = false := fun o => (World.frozen?_of_block (a := ⟨w.heap.size, o, none⟩) (WB w.heap.size (by omega) (by omega))).trans (unhide RF o)
      have r0 := rcell 0 (iv 0) (by simp [go_sem])
      have r1 := rcell 1 (iv 0) (by simp [go_sem])
      have r2 := rcell 2 (iv 0) (by simp [go_sem])
      have r3 := rcell 3 (.slice none 0 0) (by simp [go_sem])
      have r4 := rcell 4 (.slice none 0 0) (by simp [go_sem])
      have r5 := rcell 5 (iv 0) (by simp [go_sem])
      have r6 := rcell 6 (iv 0) (by simp [go_sem])
      have r7 := rcell 7 (iv 0) (by simp [go_sem])
      have r8 := rcell 8 (.slice none 0 0) (by simp [go_sem])
      have r9 := rcell 9 (iv 0) (by simp [go_sem])
      have r10 := rcell 10 (iv 0) (by simp [go_sem])
      have r11 := rcell 11 (iv 0) (by simp [go_sem])
      have r12 := rcell 12 (iv 0) (by simp [go_sem])
      have f0 := rfz 0
      have f1 := rfz 1
      have f2 := rfz 2
      have f3 := rfz 3
      have f4 := rfz 4
      have f5 := rfz 5
      have f6 := rfz 6
      have f7 := rfz 7
      have f8 := rfz 8
      have f9 := rfz 9
      have f10 := rfz 10
      have f11 := rfz 11
      have f12 := rfz 12
      obtain ⟨b0, b1, b2, b3, b4, b5, b6, b7, b8, b9, b10, b11, b12⟩ := (unhide hinv).bx
      have hb0 : w.heap.size + 1 < wr.heap.size := cell_lt b0
      have hr0 : w.heap.size < wr.heap.size := cell_lt r0
      clear hinv rcell rfz WB
      go_wp2_with fail
      refine bodyPost_ret (v := x.v (.slice (some ⟨br, 0, none⟩) x.regs.length kr) (.slice (some ⟨w1.heap.size, 0, none⟩) x.cells.length x.cells.length) (.slice (some ⟨w.heap.size + 2, 0, none⟩) x.gray.length x.gray.length)) (by simp [results, Tryz.results77, go_sem, r0, r1, r2, r3, r4, r5, r6, r7, r8, r9, r10, r11, r12]) rfl ⟨_, _, rfl, ?_⟩
      refine (fun (F : Only (fun q => q = w.heap.size) wr _) => ⟨unhide RW _ F, F.ext XR (fun q hq e => by omega)⟩) ?_
      repeat (first | refine Only.setCell ?_ (by simp) _ | exact Only.refl _ _)
end Go.Proofs.YtkabcfhemljnbaaGreat
