import Derived.Test.YtkabcfhemljnbaaGreatUn2
namespace Go.Proofs.YtkabcfhemljnbaaGreat
open Go.RowKit
attribute [local go_sem ↓] Go.wp_at_zero Go.wp_at_succ

/-! A heap as an answer: read, marked, held. -/
theorem HA.rd {B U : Nat} {w : World} {y : Hp} {ar : Option Addr} {kr : Nat} {ac : Option Addr} {kc : Nat} {ag : Option Addr} {kg : Nat} (h : HA B U w y ar kr ac kc ag kg) : HRd w y ar kr ac kc ag kg := by
  rcases h with ⟨rfl, rfl, rfl, rfl, rfl, rfl, rfl⟩ | ⟨br, bc, bg, pb, pa, pk, rfl, rfl, rfl, h⟩
  · exact HRd.zero w
  · exact ⟨h.r, h.cs, h.g⟩
theorem HA.ext {B U : Nat} {w w' : World} {y : Hp} {ar : Option Addr} {kr : Nat} {ac : Option Addr} {kc : Nat} {ag : Option Addr} {kg : Nat} (h : HA B U w y ar kr ac kc ag kg) (e : Ext w w') : HA B U w' y ar kr ac kc ag kg := by
  rcases h with h | ⟨br, bc, bg, pb, pa, pk, h1, h2, h3, h⟩
  · exact .inl h
  · exact .inr ⟨br, bc, bg, pb, pa, pk, h1, h2, h3, h.ext e⟩
theorem HA.only {S : Nat → Prop} {B U : Nat} {w w' : World} {y : Hp} {ar : Option Addr} {kr : Nat} {ac : Option Addr} {kc : Nat} {ag : Option Addr} {kg : Nat} (h : HA B U w y ar kr ac kc ag kg) (e : Only S w w') (hs : ∀ q, B ≤ q → q < U → ¬ S q) : HA B U w' y ar kr ac kc ag kg := by
  rcases h with h | ⟨br, bc, bg, pb, pa, pk, h1, h2, h3, h⟩
  · exact .inl h
  · exact .inr ⟨br, bc, bg, pb, pa, pk, h1, h2, h3, h.only e hs⟩
/-- it is marked: m is the number behind the marks -/
def HAm (w : World) (y : Hp) (ar : Option Addr) (kr : Nat) (ac : Option Addr) (kc : Nat) (ag : Option Addr) (kg : Nat) (m : Int) : Prop := (y = Hp0 ∧ ar = none ∧ kr = 0 ∧ ac = none ∧ kc = 0 ∧ ag = none ∧ kg = 0 ∧ m = 1) ∨ ∃ br bc bg pb pa pk, ar = some ⟨br, 0, none⟩ ∧ ac = some ⟨bc, 0, none⟩ ∧ ag = some ⟨bg, 0, none⟩ ∧ (y.regs.length ≤ 100 ∧ y.cells.length ≤ 8000 ∧ y.gray.length ≤ 8000 ∧ ∀ q, q < y.cells.length → (y.c q).prs.length ≤ 200) ∧ HMd w br y.regs.length bc y.cells.length bg y.gray.length (fun q => (y.c q).prs.length) pb pa pk ∧ m = Kc (fun q => (y.c q).prs.length) (1 + 3 * y.regs.length) y.cells.length + y.gray.length
theorem HAm.ext {w w' : World} {y : Hp} {ar : Option Addr} {kr : Nat} {ac : Option Addr} {kc : Nat} {ag : Option Addr} {kg : Nat} {m : Int} (h : HAm w y ar kr ac kc ag kg m) (e : Ext w w') : HAm w' y ar kr ac kc ag kg m := by
  rcases h with h | ⟨br, bc, bg, pb, pa, pk, h1, h2, h3, h4, h, h5⟩
  · exact .inl h
  · exact .inr ⟨br, bc, bg, pb, pa, pk, h1, h2, h3, h4, h.ext e, h5⟩
theorem HAm.nn {w : World} {y : Hp} {ar : Option Addr} {kr : Nat} {ac : Option Addr} {kc : Nat} {ag : Option Addr} {kg : Nat} {m : Int} (h : HAm w y ar kr ac kc ag kg m) : 0 ≤ m := by
  rcases h with h | ⟨br, bc, bg, pb, pa, pk, h1, h2, h3, h4, h, h5⟩
  · have := h.2.2.2.2.2.2.2; omega
  · have := (Kc_bd (len := fun q => (y.c q).prs.length) (k0 := 1 + 3 * y.regs.length) (by omega) y.cells.length (fun p hp => h4.2.2.2 p hp)).1
    omega
set_option maxRecDepth 100000 in
set_option maxHeartbeats 2000000 in
theorem markHeap_zero (w : World) :
    Calls Tryz.prog 18 #[Hp0.v (.slice none 0 0) (.slice none 0 0) (.slice none 0 0), .int .i64 1] w fun e w' => e = .returned (.int .i64 1) ∧ Ext w w' := by
  have x1 := (Ext.refl w).alloc (.cells #[iv 0, iv 0, iv 0, .slice none 0 0, .slice none 0 0, iv 0, iv 0, iv 0, .slice none 0 0, iv 0, iv 0, iv 0, iv 0] 33)
  simp only [Hp0]
  go_enter Tryz.func18, Tryz.ntmps18
  go_wp2_with fail
  refine (markWordS_z0 none 0 1 _).mono ?_
  rintro e w1 ⟨rfl, rfl⟩
  go_wp2_with fail
  refine (markCellS_z0 none 0 1 _).mono ?_
  rintro e w1 ⟨rfl, rfl⟩
  go_wp2_with fail
  refine (markIntS_z0 none 0 1 _).mono ?_
  rintro e w1 ⟨rfl, rfl⟩
  go_wp2_with fail
  go_ret
  exact ⟨rfl, x1⟩
set_option maxRecDepth 100000 in
set_option maxHeartbeats 2000000 in
theorem heldHeap_zero (w : World) :
    Calls Tryz.prog 34 #[Hp0.v (.slice none 0 0) (.slice none 0 0) (.slice none 0 0), .int .i64 1] w fun e w' => e = .returned (.int .i64 1) ∧ Ext w w' := by
  have x1 := (Ext.refl w).alloc (.cells #[iv 0, iv 0, iv 0, .slice none 0 0, .slice none 0 0, iv 0, iv 0, iv 0, .slice none 0 0, iv 0, iv 0, iv 0, iv 0] 33)
  simp only [Hp0]
  go_enter Tryz.func34, Tryz.ntmps34
  go_wp2_with fail
  refine (heldWordS_z0 none 0 1 _).mono ?_
  rintro e w1 ⟨rfl, rfl⟩
  go_wp2_with fail
  refine (heldCellS_z0 none 0 1 _).mono ?_
  rintro e w1 ⟨rfl, rfl⟩
  go_wp2_with fail
  refine (heldIntS_z0 none 0 1 _).mono ?_
  rintro e w1 ⟨rfl, rfl⟩
  go_wp2_with fail
  go_ret
  exact ⟨rfl, x1⟩
theorem markHA {B U : Nat} {w : World} {y : Hp} {ar : Option Addr} {kr : Nat} {ac : Option Addr} {kc : Nat} {ag : Option Addr} {kg : Nat} (h : HA B U w y ar kr ac kc ag kg) (hU : U ≤ w.heap.size) :
    Calls Tryz.prog 18 #[y.v (.slice ar y.regs.length kr) (.slice ac y.cells.length kc) (.slice ag y.gray.length kg), .int .i64 1] w fun e w' => ∃ m, e = .returned (.int .i64 m) ∧ HAm w' y ar kr ac kc ag kg m ∧ ∃ w1, Ext w w1 ∧ Only (fun q => B ≤ q ∧ q < U) w1 w' := by
  rcases h with ⟨rfl, rfl, rfl, rfl, rfl, rfl, rfl⟩ | ⟨br, bc, bg, pb, pa, pk, rfl, rfl, rfl, h⟩
  · exact (markHeap_zero w).mono fun e w' ⟨he, hx⟩ => ⟨1, he, .inl ⟨rfl, rfl, rfl, rfl, rfl, rfl, rfl, rfl⟩, w', hx, Only.refl _ _⟩
  · exact (markHeap_any y y B U w h hU).mono fun e w' ⟨he, hm, hx⟩ => ⟨_, he, .inr ⟨br, bc, bg, pb, pa, pk, rfl, rfl, rfl, h.l, hm, rfl⟩, hx⟩
theorem heldHA {w : World} {y : Hp} {ar : Option Addr} {kr : Nat} {ac : Option Addr} {kc : Nat} {ag : Option Addr} {kg : Nat} {m : Int} (h : HAm w y ar kr ac kc ag kg m) :
    Calls Tryz.prog 34 #[y.v (.slice ar y.regs.length kr) (.slice ac y.cells.length kc) (.slice ag y.gray.length kg), .int .i64 1] w fun e w' => e = .returned (.int .i64 m) ∧ Ext w w' := by
  rcases h with ⟨rfl, rfl, rfl, rfl, rfl, rfl, rfl, rfl⟩ | ⟨br, bc, bg, pb, pa, pk, rfl, rfl, rfl, l, h, rfl⟩
  · exact heldHeap_zero w
  · exact heldHeap_any y w br y.regs.length kr bc y.cells.length kc bg y.gray.length kg (fun q => (y.c q).prs.length) pb pa pk l.1 l.2.1 l.2.2.1 l.2.2.2 h
end Go.Proofs.YtkabcfhemljnbaaGreat
