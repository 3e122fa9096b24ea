import Derived.Test.YtkabcfhemljnbaaGreatGn
import Derived.Test.YtkabcfhemljnbaaGreatL2v
import Derived.Test.YtkabcfhemljnbaaGreatBo2
namespace Go.Proofs.YtkabcfhemljnbaaGreat
open Go.RowKit
attribute [local go_sem ↓] Go.wp_at_zero Go.wp_at_succ

/-! A graph as an answer: read, owned, marked. -/
def gR (x : Hp) (N : List Nat) : List Wd := x.regs.map (nw x (ordO x N))
def gL (x : Hp) (N : List Nat) : List Nd := (ordO x N).map (nodeOf x (ordO x N) N)
theorem GAns.ext {x : Hp} {B : Nat} {w w' : World} {vr vn : Value} (h : GAns x B w vr vn) (e : Ext w w') : GAns x B w' vr vn := by
  obtain ⟨N, O, br, bq, pb, f, oj, h1, h2, h3, h4, h5, h6, h7, h8, h9⟩ := h
  exact ⟨N, O, br, bq, pb, f, oj, h1, h2, h3, h4, h5.ext e, h6, h7, h8.ext e, h9⟩
theorem GAns.only {S : Nat → Prop} {x : Hp} {B : Nat} {w w' : World} {vr vn : Value} (h : GAns x B w vr vn) (e : Only S w w') (hs : ∀ q, B ≤ q → ¬ S q) : GAns x B w' vr vn := by
  obtain ⟨N, O, br, bq, pb, f, oj, h1, h2, h3, h4, h5, h6, h7, h8, h9, h10, h11, h12⟩ := h
  exact ⟨N, O, br, bq, pb, f, oj, h1, h2, h3, h4, h5.only e (hs _ h11), h6, h7, h8.only e (hs _ h12) (fun q hq => hs _ (h8.p q hq).2.2.1), h9, h10, h11, h12⟩
theorem GAns.less {x : Hp} {B B' : Nat} {w : World} {vr vn : Value} (h : GAns x B w vr vn) (hb : B' ≤ B) : GAns x B' w vr vn := by
  obtain ⟨N, O, br, bq, pb, f, oj, h1, h2, h3, h4, h5, h6, h7, h8, h9, h10, h11, h12⟩ := h
  exact ⟨N, O, br, bq, pb, f, oj, h1, h2, h3, h4, h5, h6, h7, h8.less hb, h9, h10, by omega, by omega⟩
theorem GAns.rd {x : Hp} {B : Nat} {w : World} {vr vn : Value} (h : GAns x B w vr vn) (ok : OkIs x 0) : ∃ N, IsW x N ∧ SlW w vr (gR x N) ∧ SlN w vn (gL x N) := by
  obtain ⟨N, O, br, bq, pb, f, oj, h1, rfl, h3, h4, h5, h6, h7, h8, h9, h10, h11, h12⟩ := h
  have hR : x.regs.length = 16 := ok.all.1.regs
  have OI := ord_is ok.all.2.1 ok.all.2.2.2 h1
  have hOn : (ordO x N).length ≤ 8000 := by have := len_le OI.nd (fun i hi => ((OI.r i hi).good ok.all.2.1 ok.all.2.2.2).1); have := ok.n8; omega
  refine ⟨N, h1, ⟨some ⟨br, 0, none⟩, x.regs.length, by rw [h3]; simp [gR], by simp [gR]; omega, fun i hi => ?_⟩, ⟨some ⟨bq, 0, none⟩, (ordO x N).length, by rw [h4]; simp [gL], by simp [gL]; omega, fun i hi => ?_⟩⟩
  · have hi' : i < x.regs.length := by simpa [gR] using hi
    refine ⟨br, 0, rfl, ?_⟩
    have := h5.s i hi'
    rw [h6 i hi'] at this
    simpa [gR] using this
  · have hi' : i < (ordO x N).length := by simpa [gL] using hi
    obtain ⟨s0, s1, s2, s3, s4⟩ := h8.s i hi'
    have hp := (h8.p i hi').1
    have e := h7 i hi'
    refine ⟨bq, 0, rfl, ?_⟩
    rw [e] at hp
    simp only [e] at s0 s1 s2 s4
    refine ⟨_, by simpa [gL, nodeOf] using s0, by simpa [gL, nodeOf] using s1, by simpa [gL, nodeOf] using s2, ?_, by simpa [gL, nodeOf] using s4, ?_⟩
    · simpa [gL, nodeOf, rkN, rkJ, e] using s3
    · simpa [gL, nodeOf] using hp

/-- the same, with a bound above its blocks -/
def GAnsU (x : Hp) (B U : Nat) (w : World) (vr vn : Value) : Prop := ∃ (N O : List Nat) (br bq : Nat) (pb : Nat → Nat) (f : Nat → Wd) (oj : Nat → Nat), IsW x N ∧ O = ordO x N ∧ vr = .slice (some ⟨br, 0, none⟩) x.regs.length x.regs.length ∧ vn = .slice (some ⟨bq, 0, none⟩) O.length O.length ∧ WRow w br x.regs.length x.regs.length f ∧ (∀ q (h : q < x.regs.length), f q = nw x O x.regs[q]) ∧ (∀ q (h : q < O.length), oj q = O[q]) ∧ NRow w bq O.length O.length B (fun q => x.c (oj q)) (np x O) (rkN N oj N.length) pb ∧ br ≠ bq ∧ (∀ q, q < O.length → pb q ≠ br) ∧ B ≤ br ∧ B ≤ bq ∧ br < U ∧ bq < U ∧ ∀ q, q < O.length → pb q < U
theorem GAns.up {x : Hp} {B : Nat} {w : World} {vr vn : Value} (h : GAns x B w vr vn) : GAnsU x B w.heap.size w vr vn := by
  obtain ⟨N, O, br, bq, pb, f, oj, h1, h2, h3, h4, h5, h6, h7, h8, h9, h10, h11, h12⟩ := h
  exact ⟨N, O, br, bq, pb, f, oj, h1, h2, h3, h4, h5, h6, h7, h8, h9, h10, h11, h12, h5.n.1, h8.o.2.1, fun q hq => (h8.p q hq).2.1.1⟩
theorem GAnsU.dn {x : Hp} {B U : Nat} {w : World} {vr vn : Value} (h : GAnsU x B U w vr vn) : GAns x B w vr vn := by
  obtain ⟨N, O, br, bq, pb, f, oj, h1, h2, h3, h4, h5, h6, h7, h8, h9, h10, h11, h12, _⟩ := h
  exact ⟨N, O, br, bq, pb, f, oj, h1, h2, h3, h4, h5, h6, h7, h8, h9, h10, h11, h12⟩
theorem GAnsU.ext {x : Hp} {B U : Nat} {w w' : World} {vr vn : Value} (h : GAnsU x B U w vr vn) (e : Ext w w') : GAnsU x B U w' vr vn := by
  obtain ⟨N, O, br, bq, pb, f, oj, h1, h2, h3, h4, h5, h6, h7, h8, h9⟩ := h
  exact ⟨N, O, br, bq, pb, f, oj, h1, h2, h3, h4, h5.ext e, h6, h7, h8.ext e, h9⟩
theorem GAnsU.only {S : Nat → Prop} {x : Hp} {B U : Nat} {w w' : World} {vr vn : Value} (h : GAnsU x B U w vr vn) (e : Only S w w') (hs : ∀ q, B ≤ q → ¬ S q) : GAnsU x B U w' vr vn := by
  obtain ⟨N, O, br, bq, pb, f, oj, h1, h2, h3, h4, h5, h6, h7, h8, h9, h10, h11, h12, h13⟩ := h
  exact ⟨N, O, br, bq, pb, f, oj, h1, h2, h3, h4, h5.only e (hs _ h11), h6, h7, h8.only e (hs _ h12) (fun q hq => hs _ (h8.p q hq).2.2.1), h9, h10, h11, h12, h13⟩
/-- a graph of its own memory: nil, or in blocks from B on below U -/
def GOwn (x : Hp) (B U : Nat) (w : World) (vr vn : Value) (R : List Wd) (L : List Nd) : Prop := (vr = .slice none 0 0 ∧ vn = .slice none 0 0 ∧ R = [] ∧ L = []) ∨ (OkIs x 0 ∧ GAnsU x B U w vr vn ∧ ∃ N, IsW x N ∧ R = gR x N ∧ L = gL x N)
theorem GOwn.ext {x : Hp} {B U : Nat} {w w' : World} {vr vn : Value} {R : List Wd} {L : List Nd} (h : GOwn x B U w vr vn R L) (e : Ext w w') : GOwn x B U w' vr vn R L :=
  h.imp id (fun ⟨a, b, c⟩ => ⟨a, b.ext e, c⟩)
theorem GOwn.only {S : Nat → Prop} {x : Hp} {B U : Nat} {w w' : World} {vr vn : Value} {R : List Wd} {L : List Nd} (h : GOwn x B U w vr vn R L) (e : Only S w w') (hs : ∀ q, B ≤ q → ¬ S q) : GOwn x B U w' vr vn R L :=
  h.imp id (fun ⟨a, b, c⟩ => ⟨a, b.only e hs, c⟩)
theorem GOwn.rd {x : Hp} {B U : Nat} {w : World} {vr vn : Value} {R : List Wd} {L : List Nd} (h : GOwn x B U w vr vn R L) : SlW w vr R ∧ SlN w vn L := by
  rcases h with ⟨rfl, rfl, rfl, rfl⟩ | ⟨a, b, N, hN, rfl, rfl⟩
  · exact ⟨SlOf.nil, SlOf.nil⟩
  · obtain ⟨N', h1, p, q⟩ := b.dn.rd a
    obtain rfl := h1.uniq a.all.2.1 hN
    exact ⟨p, q⟩
/-- what the program answers, and what the model -/
def IAns (x : Hp) (B : Nat) (w : World) (vr vn : Value) : Prop := (¬ OkIs x 0 ∧ vr = .slice none 0 0 ∧ vn = .slice none 0 0) ∨ (OkIs x 0 ∧ GAns x B w vr vn)
def SAns (x : Hp) (w : World) (vr vn : Value) : Prop := (¬ OkIs x 0 ∧ vr = .slice none 0 0 ∧ vn = .slice none 0 0) ∨ (OkIs x 0 ∧ ∃ N, IsW x N ∧ SlW w vr (gR x N) ∧ SlN w vn (gL x N))
theorem gans (x : Hp) : ∃ (R : List Wd) (L : List Nd), (∀ B w vr vn, IAns x B w vr vn → GOwn x B w.heap.size w vr vn R L) ∧ (∀ w vr vn, SAns x w vr vn → SlW w vr R ∧ SlN w vn L) := by
  by_cases ok : OkIs x 0
  · by_cases ex : ∃ N, IsW x N
    · obtain ⟨N, hN⟩ := ex
      refine ⟨gR x N, gL x N, fun B w vr vn h => ?_, fun w vr vn h => ?_⟩
      · rcases h with h | h
        · exact (h.1 ok).elim
        · exact .inr ⟨ok, h.2.up, N, hN, rfl, rfl⟩
      · rcases h with h | ⟨_, N', hN', p, q⟩
        · exact (h.1 ok).elim
        · obtain rfl := hN'.uniq ok.all.2.1 hN
          exact ⟨p, q⟩
    · refine ⟨[], [], fun B w vr vn h => ?_, fun w vr vn h => ?_⟩
      · rcases h with h | h
        · exact (h.1 ok).elim
        · obtain ⟨N, _, _, _, _, _, _, h1, _⟩ := h.2
          exact (ex ⟨N, h1⟩).elim
      · rcases h with h | ⟨_, N', hN', _⟩
        · exact (h.1 ok).elim
        · exact (ex ⟨N', hN'⟩).elim
  · refine ⟨[], [], fun B w vr vn h => ?_, fun w vr vn h => ?_⟩
    · rcases h with h | h
      · exact .inl ⟨h.2.1, h.2.2, rfl, rfl⟩
      · exact (ok h.1).elim
    · rcases h with ⟨_, rfl, rfl⟩ | h
      · exact ⟨SlOf.nil, SlOf.nil⟩
      · exact (ok h.1).elim

set_option maxHeartbeats 1000000 in
theorem markWordS_zero (a1 : Option Addr) (c1 : Nat) (k0 : Int) (w : World) :
    Calls Tryz.prog 58 #[.slice a1 0 c1, .int .i64 k0] w fun e w' => e = .returned (.int .i64 k0) ∧ w' = w := by
  go_enter Tryz.func58, Tryz.ntmps58
  go_wp2_with fail
  go_loopw [1, 5] (fun kk i wr => kk = .int .i64 k0 ∧ i = .int .i64 0 ∧ wr = w) (fun _ _ _ => 0)
  case atStart => exact ⟨rfl, rfl, rfl⟩
  case round =>
    obtain ⟨rfl, rfl, rfl⟩ := hrel
    go_wp2_with fail
    go_ret
    exact ⟨rfl, rfl⟩
set_option maxHeartbeats 1000000 in
theorem heldWordS_zero (a1 : Option Addr) (c1 : Nat) (k0 : Int) (w : World) :
    Calls Tryz.prog 70 #[.slice a1 0 c1, .int .i64 k0] w fun e w' => e = .returned (.int .i64 k0) ∧ w' = w := by
  go_enter Tryz.func70, Tryz.ntmps70
  go_wp2_with fail
  go_loopw [1, 5] (fun kk i wr => kk = .int .i64 k0 ∧ i = .int .i64 0 ∧ wr = w) (fun _ _ _ => 0)
  case atStart => exact ⟨rfl, rfl, rfl⟩
  case round =>
    obtain ⟨rfl, rfl, rfl⟩ := hrel
    go_wp2_with fail
    go_ret
    exact ⟨rfl, rfl⟩
set_option maxHeartbeats 1000000 in
theorem markNodeS_zero (a1 : Option Addr) (c1 : Nat) (k0 : Int) (w : World) :
    Calls Tryz.prog 69 #[.slice a1 0 c1, .int .i64 k0] w fun e w' => e = .returned (.int .i64 k0) ∧ w' = w := by
  go_enter Tryz.func69, Tryz.ntmps69
  go_wp2_with fail
  go_loopw [1, 5] (fun kk i wr => kk = .int .i64 k0 ∧ i = .int .i64 0 ∧ wr = w) (fun _ _ _ => 0)
  case atStart => exact ⟨rfl, rfl, rfl⟩
  case round =>
    obtain ⟨rfl, rfl, rfl⟩ := hrel
    go_wp2_with fail
    go_ret
    exact ⟨rfl, rfl⟩
set_option maxHeartbeats 1000000 in
theorem heldNodeS_zero (a1 : Option Addr) (c1 : Nat) (k0 : Int) (w : World) :
    Calls Tryz.prog 71 #[.slice a1 0 c1, .int .i64 k0] w fun e w' => e = .returned (.int .i64 k0) ∧ w' = w := by
  go_enter Tryz.func71, Tryz.ntmps71
  go_wp2_with fail
  go_loopw [1, 5] (fun kk i wr => kk = .int .i64 k0 ∧ i = .int .i64 0 ∧ wr = w) (fun _ _ _ => 0)
  case atStart => exact ⟨rfl, rfl, rfl⟩
  case round =>
    obtain ⟨rfl, rfl, rfl⟩ := hrel
    go_wp2_with fail
    go_ret
    exact ⟨rfl, rfl⟩
theorem markGraph_zero (w : World) :
    Calls Tryz.prog 30 #[.agg #[.slice none 0 0, .slice none 0 0], .int .i64 1] w fun e w' => e = .returned (.int .i64 1) ∧ Ext w w' := by
  have x1 := (Ext.refl w).alloc (.cells #[.slice none 0 0, .slice none 0 0] 43)
  go_enter Tryz.func30, Tryz.ntmps30
  go_wp2_with fail
  refine (markWordS_zero none 0 1 _).mono ?_
  rintro e w1 ⟨rfl, rfl⟩
  go_wp2_with fail
  refine (markNodeS_zero none 0 1 _).mono ?_
  rintro e w2 ⟨rfl, rfl⟩
  go_wp2_with fail
  go_ret
  exact ⟨rfl, x1⟩
theorem heldGraph_zero (w : World) :
    Calls Tryz.prog 31 #[.agg #[.slice none 0 0, .slice none 0 0], .int .i64 1] w fun e w' => e = .returned (.int .i64 1) ∧ Ext w w' := by
  have x1 := (Ext.refl w).alloc (.cells #[.slice none 0 0, .slice none 0 0] 43)
  go_enter Tryz.func31, Tryz.ntmps31
  go_wp2_with fail
  refine (heldWordS_zero none 0 1 _).mono ?_
  rintro e w1 ⟨rfl, rfl⟩
  go_wp2_with fail
  refine (heldNodeS_zero none 0 1 _).mono ?_
  rintro e w2 ⟨rfl, rfl⟩
  go_wp2_with fail
  go_ret
  exact ⟨rfl, x1⟩

/-- a graph that holds its marks: k is the number behind them -/
def GHd (w : World) (vr vn : Value) (k : Int) : Prop := (vr = .slice none 0 0 ∧ vn = .slice none 0 0 ∧ k = 1) ∨ ∃ (br nr bq n : Nat) (len pb : Nat → Nat), vr = .slice (some ⟨br, 0, none⟩) nr nr ∧ vn = .slice (some ⟨bq, 0, none⟩) n n ∧ nr ≤ 100 ∧ n ≤ 8000 ∧ (∀ q, q < n → len q ≤ 200) ∧ GMd w br nr bq n len pb (1 + 3 * nr) ∧ k = Kf len (1 + 3 * nr) n
theorem GHd.ext {w w' : World} {vr vn : Value} {k : Int} (h : GHd w vr vn k) (e : Ext w w') : GHd w' vr vn k :=
  h.imp id (fun ⟨br, nr, bq, n, len, pb, a, b, c, d, f, g, i⟩ => ⟨br, nr, bq, n, len, pb, a, b, c, d, f, g.ext e, i⟩)
theorem GHd.nn {w : World} {vr vn : Value} {k : Int} (h : GHd w vr vn k) : 0 ≤ k := by
  rcases h with ⟨_, _, rfl⟩ | ⟨br, nr, bq, n, len, pb, a, b, c, d, f, g, rfl⟩
  · omega
  · exact (Kf_bd (by omega) n f).1
theorem heldG {w : World} {vr vn : Value} {k : Int} (h : GHd w vr vn k) :
    Calls Tryz.prog 31 #[.agg #[vr, vn], .int .i64 1] w fun e w' => e = .returned (.int .i64 k) ∧ Ext w w' := by
  rcases h with ⟨rfl, rfl, rfl⟩ | ⟨br, nr, bq, n, len, pb, rfl, rfl, c, d, f, g, rfl⟩
  · exact heldGraph_zero w
  · exact heldGraph_any br nr bq n len pb w c d f g
theorem markG {x : Hp} {B U : Nat} {w : World} {vr vn : Value} {R : List Wd} {L : List Nd} (h : GOwn x B U w vr vn R L) (hU : U ≤ w.heap.size) :
    Calls Tryz.prog 30 #[.agg #[vr, vn], .int .i64 1] w fun e w' => ∃ k, e = .returned (.int .i64 k) ∧ GHd w' vr vn k ∧ ∃ w1, Ext w w1 ∧ Only (fun q => B ≤ q ∧ q < U) w1 w' := by
  rcases h with ⟨rfl, rfl, rfl, rfl⟩ | ⟨ok, b, N0, hN, rfl, rfl⟩
  · exact (markGraph_zero w).mono fun e w' ⟨he, hx⟩ => ⟨1, he, .inl ⟨rfl, rfl, rfl⟩, w', hx, Only.refl _ _⟩
  · obtain ⟨N, O, br, bq, pb, f, oj, h1, rfl, rfl, rfl, h5, h6, h7, h8, h9, h10, h11, h12, h13, h14, h15⟩ := b
    have hR : x.regs.length = 16 := ok.all.1.regs
    have OI := ord_is ok.all.2.1 ok.all.2.2.2 h1
    have gd : ∀ i, i ∈ ordO x N → i < x.cells.length := fun i hi => ((OI.r i hi).good ok.all.2.1 ok.all.2.2.2).1
    have hOn : (ordO x N).length ≤ 8000 := by have := len_le OI.nd gd; have := ok.n8; omega
    have hl : ∀ q, q < (ordO x N).length → (x.c (oj q)).prs.length ≤ 200 := fun q hq => by
      rw [h7 q hq]; exact ok.p200 _ (gd _ (List.getElem_mem hq))
    have lay : GLay (fun q => B ≤ q ∧ q < U) w br x.regs.length bq (ordO x N).length (fun q => (x.c (oj q)).prs.length) pb (1 + 3 * x.regs.length) :=
      { r := fun j hj => by rw [Nat.zero_add]; exact h5.o j (by omega)
        m := ⟨fun q hq => (h8.s q hq).2.2.2.2, fun q hq i hi => h8.o.1 (q * 5 + i) (by omega), fun q hq j hj => by
            obtain ⟨ad, cap, e1, _, e2⟩ := (h8.p q hq).1
            have hj6 : j / 6 < (x.c (oj q)).prs.length := by omega
            obtain ⟨b', o', e3, p⟩ := e2 (j / 6) (by simpa using hj6)
            simp only [Value.slice.injEq] at e1
            obtain ⟨e1, _, _⟩ := e1
            rw [e3] at e1
            simp only [Option.some.injEq, Addr.mk.injEq] at e1
            obtain ⟨rfl, rfl, _⟩ := e1
            refine ⟨?_, (h8.p q hq).2.1.2 _⟩
            have hm : j = (j / 6) * 6 + j % 6 := by omega
            obtain ⟨p0, p1, p2, p3, p4, p5⟩ := p
            have h6' : j % 6 < 6 := Nat.mod_lt _ (by omega)
            rcases (by omega : j % 6 = 0 ∨ j % 6 = 1 ∨ j % 6 = 2 ∨ j % 6 = 3 ∨ j % 6 = 4 ∨ j % 6 = 5) with z | z | z | z | z | z <;> rw [hm, z]
            · exact ⟨_, p0⟩
            · exact ⟨_, p1⟩
            · exact ⟨_, p2⟩
            · exact ⟨_, p3⟩
            · exact ⟨_, p4⟩
            · exact ⟨_, p5⟩, fun q hq => by omega⟩
        d1 := h9
        d2 := h10
        d3 := fun q hq => (h8.p q hq).2.2.2
        d4 := h8.d
        s1 := ⟨h11, h13⟩
        s2 := ⟨h12, h14⟩
        s3 := fun q hq => ⟨(h8.p q hq).2.2.1, h15 q hq⟩
        l := hl }
    exact (markGraph_any _ br x.regs.length bq (ordO x N).length _ pb w (by omega) hOn lay (fun q hq => Nat.lt_of_lt_of_le hq.2 hU)).mono fun e w' ⟨he, hm, w1, e1, e2⟩ => ⟨_, he, .inr ⟨br, x.regs.length, bq, _, _, pb, rfl, rfl, by omega, hOn, hl, hm, rfl⟩, w1, e1, e2⟩
end Go.Proofs.YtkabcfhemljnbaaGreat
