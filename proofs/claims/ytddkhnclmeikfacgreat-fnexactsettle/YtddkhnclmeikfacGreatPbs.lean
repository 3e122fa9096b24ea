import Derived.Test.YtddkhnclmeikfacGreatWb
import Derived.Test.YtddkhnclmeikfacGreatLc
import Derived.Deep.QuietTactic
import Derived.Test.YtddkhnclmeikfacGreatTo
import Derived.Laws.Pointers
import Derived.Test.YtddkhnclmeikfacGreatVh
namespace Go.Proofs.YtddkhnclmeikfacGreat
open Go.RowKit
attribute [local go_sem ↓] Go.wp_at_zero Go.wp_at_succ

theorem wrap_upS (n : Nat) (h : n ≤ 1048576) : wrap64 ((n : Int) + 1) = (n : Int) + 1 := by unfold wrap64; omega
set_option maxRecDepth 100000 in
set_option maxHeartbeats 1000000 in
theorem deleteP_any (f : Pr → Bool) (xs : List Pr) (bx bl g : Nat) (P : World → Prop) (A : Ans2 f xs bx bl g P) (ad : Option Addr) (cap : Nat) (w : World) (hp : P w) (hr : PRow w g xs) (hN : 0 < xs.length → ad = some ⟨g, 0, none⟩ ∧ Nf1 g w ∧ xs.length ≤ cap) (hn : xs.length ≤ 200) :
    Calls Tryz.prog 211 #[.slice ad xs.length cap, go2 bx bl] w fun e w' => Hid (e = .returned (.slice ad (keepL f xs).length cap)) ∧ Hid (PRow w' g (keepL f xs)) ∧ Hid (Only (fun q => q = g ∧ 0 < xs.length) w w') ∧ Hid (0 < xs.length → Nf1 g w') := by
  have QI := hide (indexP_any f xs bx bl g P A ad cap w hp hr (by
    rcases Nat.eq_zero_or_pos xs.length with h | h
    · exact .inr h
    · exact .inl (hN h).2.1.1) (fun h => (hN h).1) hn)
  have HA := hide A
  have HP := hide hp
  have HR := hide hr
  have HN := hide hN
  clear A hp hr hN
  go_enter Tryz.func211, Tryz.ntmps211
  go_wp2_with fail
  refine (unhide QI).mono ?_
  rintro e w1 ⟨r, rfl, hfc, x1⟩
  rcases unhide hfc with ⟨rfl, hall⟩ | ⟨i, hi, rfl, q, hno⟩
  · have E := hide (keep_same f xs hall)
    have R := hide (show PRow w1 g xs ∧ (0 < xs.length → Nf1 g w1) from ⟨fun k hk => ((unhide HR).block (x1.block g (unhide HN (by omega)).2.1.1)) k hk, fun h => (unhide HN h).2.1.ext x1⟩)
    clear hfc hall QI
    go_wp2_with fail
    go_ret
    exact ⟨by show _ = _; rw [unhide E]; rfl, by rw [unhide E]; exact (unhide R).1, Only.of_ext x1, (unhide R).2⟩
  · obtain ⟨rfl, hnf, hnc⟩ := unhide HN (by omega)
    have D0 := hide (DelP.start hi q hno)
    have P1 := hide ((unhide HA).ext _ _ (unhide HP) x1)
    have R1 := hide (show PRow w1 g xs from (unhide HR).block (x1.block g hnf.1))
    have N1 := hide (hnf.ext x1)
    have hne : ((i : Int) == -1) = false := by simp
    have wi : wrap64 ((i : Int) + 1) = (i : Int) + 1 := wrap_upS i (by omega)
    have O1 := hide (show Only (fun q => q = g) w w1 from Only.of_ext x1)
    have h0 : 0 < xs.length := by omega
    clear q hno QI hfc hnf HR x1
    go_wp2_with fail
    go_loopw [5, 6] (fun si sj wr => ∃ (i j : Nat) (M : List Pr), si = .int .i64 i ∧ sj = .int .i64 j ∧ Hid (DelP f xs M i j) ∧ Hid (PRow wr g M) ∧ Hid (Nf1 g wr) ∧ Hid (Only (fun q => q = g) w wr) ∧ Hid (P wr)) (fun _ sj _ => xs.length - (intOf sj).toNat)
    case atStart => exact ⟨i, i + 1, xs, rfl, by go_num, unhide D0, unhide R1, unhide N1, unhide O1, unhide P1⟩
    case round =>
      clear R1 D0 N1 O1 P1 wi hne hi
      obtain ⟨i, j, M, rfl, rfl, hd, hrow, hnf, hon, hpr⟩ := hrel
      have hij := (unhide hd).lt
      have hjn := (unhide hd).le
      have hml := (unhide hd).len
      have hgw : g < wr.heap.size := (unhide hnf).1
      by_cases hlt : j < xs.length
      · obtain ⟨hm, em⟩ := (unhide hd).at hlt
        obtain ⟨e0, e1, e2, e3, e4, e5⟩ := unhide hrow j hm
        rw [em] at e0 e1 e2 e3 e4 e5
        have NO := hide ((unhide hd).no hlt)
        have YES := hide ((unhide hd).yes hlt)
        have C := hide ((unhide HA).call (wr.alloc (.cells #[iv xs[j].key.k, iv xs[j].key.n, iv xs[j].key.a, iv xs[j].val.k, iv xs[j].val.n, iv xs[j].val.a] 152)) ((unhide HA).ext _ _ (unhide hpr) ((Ext.refl wr).alloc _)) j hlt)
        obtain ⟨y, hy⟩ : ∃ y, y = xs[j] := ⟨_, rfl⟩
        rw [← hy] at e0 e1 e2 e3 e4 e5 NO YES C
        clear hy em
        have j0 : (0:Int) ≤ (j:Int) := by omega
        have j1 : (j:Int) < (xs.length:Int) := by omega
        have i0' : (0:Int) ≤ (i:Int) := by omega
        have i1 : (i:Int) < (xs.length:Int) := by omega
        have xa := (Ext.refl wr).alloc (.cells #[iv y.key.k, iv y.key.n, iv y.key.a, iv y.val.k, iv y.val.n, iv y.val.a] 152)
        have wj : wrap64 ((j : Int) + 1) = (j : Int) + 1 := wrap_upS j (by omega)
        have wi : wrap64 ((i : Int) + 1) = (i : Int) + 1 := wrap_upS i (by omega)
        have hil : i < M.length := by rw [hml]; exact Nat.lt_trans hij hlt
        clear hjn hij
        go_wp2_with fail
        refine (unhide C).mono ?_
        rintro e w2 ⟨rfl, q2⟩
        have x2 := xa.trans q2
        have R2 := hide ((unhide hrow).block (x2.block g hgw))
        have N2 := hide ((unhide hnf).ext x2)
        have O2 := hide ((unhide hon).trans (Only.of_ext x2))
        have P2 := hide ((unhide HA).ext _ _ (unhide hpr) x2)
        have g2 : g < w2.heap.size := Nat.lt_of_lt_of_le hgw x2.size
        cases t : f y
        · have D := hide (unhide YES t)
          have b0 : w2.cell? ⟨wr.heap.size, 0, none⟩ = some (iv y.key.k) := q2.keep (by simp [go_sem])
          have b1 : w2.cell? ⟨wr.heap.size, 1, none⟩ = some (iv y.key.n) := q2.keep (by simp [go_sem])
          have b2 : w2.cell? ⟨wr.heap.size, 2, none⟩ = some (iv y.key.a) := q2.keep (by simp [go_sem])
          have b3 : w2.cell? ⟨wr.heap.size, 3, none⟩ = some (iv y.val.k) := q2.keep (by simp [go_sem])
          have b4 : w2.cell? ⟨wr.heap.size, 4, none⟩ = some (iv y.val.n) := q2.keep (by simp [go_sem])
          have b5 : w2.cell? ⟨wr.heap.size, 5, none⟩ = some (iv y.val.a) := q2.keep (by simp [go_sem])
          obtain ⟨c0, c1, c2, c3, c4, c5⟩ := unhide R2 i hil
          have f0 := (unhide N2).2 (i * 6)
          have f1 := (unhide N2).2 (i * 6 + 1)
          have f2 := (unhide N2).2 (i * 6 + 2)
          have f3 := (unhide N2).2 (i * 6 + 3)
          have f4 := (unhide N2).2 (i * 6 + 4)
          have f5 := (unhide N2).2 (i * 6 + 5)
          have hbw : wr.heap.size < w2.heap.size := cell_lt b0
          have R := hide (show PRow (w2.setCells g (i * 6) [iv y.key.k, iv y.key.n, iv y.key.a, iv y.val.k, iv y.val.n, iv y.val.a]) g (M.set i y) ∧ Nf1 g (w2.setCells g (i * 6) [iv y.key.k, iv y.key.n, iv y.key.a, iv y.val.k, iv y.val.n, iv y.val.a]) ∧ Only (fun q => q = g) w (w2.setCells g (i * 6) [iv y.key.k, iv y.key.n, iv y.key.a, iv y.val.k, iv y.val.n, iv y.val.a]) ∧ P (w2.setCells g (i * 6) [iv y.key.k, iv y.key.n, iv y.key.a, iv y.val.k, iv y.val.n, iv y.val.a]) from
            ⟨(unhide R2).put i hil y, (unhide N2).put, put_only (S := fun q => q = g) rfl (unhide O2), (unhide HA).put h0 _ _ (unhide P2) (put_only (S := fun q => q = g) rfl (Only.refl _ w2))⟩)
          clear NO YES e0 e1 e2 e3 e4 e5 R2 N2 O2 P2
          go_wp2_with fail
          go_roundw
          case rel => exact ⟨i + 1, j + 1, M.set i y, by go_num, by go_num, unhide D, (unhide R).1, (unhide R).2.1, (unhide R).2.2.1, (unhide R).2.2.2⟩
          case measure => simp [intOf]; omega
        · have D := hide (unhide NO t)
          clear NO YES e0 e1 e2 e3 e4 e5
          go_wp2_with fail
          go_roundw
          case rel => exact ⟨i, j + 1, M, rfl, by go_num, unhide D, unhide R2, unhide N2, unhide O2, unhide P2⟩
          case measure => simp [intOf]; omega
      · have je : j = xs.length := by omega
        subst je
        obtain ⟨dt, dl⟩ := (unhide hd).done
        have hcl : ∀ ty, (Builtin.clear_ #[148] ty #[.slice (some ⟨g, i * 6, none⟩) (xs.length - i) (cap - i)]).run Tryz.prog wr = .ok (.tuple #[]) (wr.setCells g (i * 6) (Builtin.zeroCells #[iv 0, iv 0, iv 0, iv 0, iv 0, iv 0] (xs.length - i)).toList) := fun ty => clear_pairs wr ty g (i * 6) _ _ (by omega) (fun k hk => by
          obtain ⟨u, hu⟩ := (unhide hrow (i + k / 6) (by omega)).some (k % 6) (Nat.mod_lt _ (by omega))
          rw [show i * 6 + k = (i + k / 6) * 6 + k % 6 by omega, hu]; rfl) (fun k _ => (unhide hnf).2 _)
        have FIN := hide (show PRow (wr.setCells g (i * 6) (Builtin.zeroCells #[iv 0, iv 0, iv 0, iv 0, iv 0, iv 0] (xs.length - i)).toList) g (keepL f xs) ∧ Only (fun q => q = g ∧ 0 < xs.length) w (wr.setCells g (i * 6) (Builtin.zeroCells #[iv 0, iv 0, iv 0, iv 0, iv 0, iv 0] (xs.length - i)).toList) ∧ Nf1 g (wr.setCells g (i * 6) (Builtin.zeroCells #[iv 0, iv 0, iv 0, iv 0, iv 0, iv 0] (xs.length - i)).toList) from
          ⟨by rw [← dt]; exact (unhide hrow).cut i _, (put_only (S := fun q => q = g) rfl (unhide hon)).mono (fun q e => ⟨e, h0⟩), (unhide hnf).put⟩)
        have DL := hide dl
        have k0 : (0:Int) ≤ (i:Int) := by omega
        have k1 : (i:Int) ≤ (xs.length:Int) := by omega
        have k2 : (i:Int) ≤ (cap:Int) := by omega
        clear dt dl hd
        go_wp2_with fail
        go_ret
        exact ⟨by show _ = _; rw [← unhide DL]; rfl, (unhide FIN).1, (unhide FIN).2.1, fun _ => (unhide FIN).2.2⟩
end Go.Proofs.YtddkhnclmeikfacGreat

namespace Go.Proofs.YtddkhnclmeikfacGreat
open Go.RowKit

/-! The store as a view; pairs taken out of a cell of the store. -/
/-- where the store's cells lie -/
def acB (cB cO : Nat → Nat) (i : Nat) : Option Addr := some ⟨cB i, cO i, none⟩
theorem SAt.fw {B : Nat} {w : World} {b : Nat} {z : Hp} {ar : Option Addr} {kr : Nat} {v4 v8 : Value} {br bn : Nat} {cB cO : Nat → Nat} {pb : Nat → Nat} {pa : Nat → Option Addr} {pk : Nat → Nat} {kn hd : Nat} {vf : Value} {F : List Int} {vk : Value} {K : List Nat} {role : Nat → Nat} (h : SAt B w b z ar kr v4 v8 br cB cO bn pb pa pk kn hd vf F vk K role) {x : Hp} (hl : z.cells.length = x.cells.length) (hs : ∀ q, (z.c q).st = (x.c q).st ∧ (z.c q).to = (x.c q).to) : FwAt w b x (acB cB cO) (some ⟨bn, 0, none⟩) kn :=
  ⟨by rw [← hl]; exact h.sb.n13, fun i hi => by
    rw [← hl] at hi
    obtain ⟨p0, _, _, _, _, _, p6⟩ := h.rw.s i hi
    rw [(hs i).1] at p0
    rw [(hs i).2] at p6
    exact ⟨bn, 0, cB i, cO i, rfl, rfl, by rw [Nat.zero_add]; exact (h.sb.nd i hi).2, p0, p6⟩⟩
theorem SAt.vn {B : Nat} {w : World} {b : Nat} {z : Hp} {ar : Option Addr} {kr : Nat} {v4 v8 : Value} {br bn : Nat} {cB cO : Nat → Nat} {pb : Nat → Nat} {pa : Nat → Option Addr} {pk : Nat → Nat} {kn hd : Nat} {vf : Value} {F : List Int} {vk : Value} {K : List Nat} {role : Nat → Nat} (h : SAt B w b z ar kr v4 v8 br cB cO bn pb pa pk kn hd vf F vk K role) (hr : z.regs.length ≤ 100) (hp : ∀ i, i < z.cells.length → (z.c i).prs.length ≤ 200) : VNt w b z ar kr (acB cB cO) (some ⟨bn, 0, none⟩) kn :=
  ⟨⟨h.sb.bx.2.2.2.1, by omega, fun i hi => ⟨br, 0, h.sb.ha (by omega), by rw [Nat.zero_add]; exact h.rw.r i hi⟩, fun i hi => by
    obtain ⟨p0, p1, p2, p3, p4, p5, p6⟩ := h.rw.s i hi
    refine ⟨cB i, cO i, rfl, _, p0, p1, p2, p3, p4, p5, p6, h.rw.p7 i hi, pa i, pk i, rfl, by have := hp i hi; omega, fun k hk => ?_⟩
    refine ⟨pb i, 0, (h.rw.pl i hi (by omega)).1, ?_⟩
    rw [Nat.zero_add, Cl.p_eq _ _ hk]
    exact h.rw.p i hi k hk⟩, h.sb.n13, fun i hi => ⟨bn, 0, cB i, cO i, rfl, rfl, by rw [Nat.zero_add]; exact (h.sb.nd i hi).1, by rw [Nat.zero_add]; exact (h.sb.nd i hi).2⟩⟩
/-- the row of pairs of one cell is shorter, in its place -/
theorem SAt.stayed {B : Nat} {w : World} {b : Nat} {z : Hp} {ar : Option Addr} {kr : Nat} {v4 v8 : Value} {br bn : Nat} {cB cO : Nat → Nat} {pb : Nat → Nat} {pa : Nat → Option Addr} {pk : Nat → Nat} {kn hd : Nat} {vf : Value} {F : List Int} {vk : Value} {K : List Nat} {role : Nat → Nat} {w' : World} (h : SAt B w b z ar kr v4 v8 br cB cO bn pb pa pk kn hd vf F vk K role) (i : Nat) (hi : i < z.cells.length) (L : List Pr) (hL : L.length ≤ (z.c i).prs.length) (o : Only (fun q => q = cB i ∨ (q = pb i ∧ 0 < (z.c i).prs.length)) w w') (nfc : Nf1 (cB i) w') (nfp : 0 < (z.c i).prs.length → Nf1 (pb i) w') (c7 : w'.cell? ⟨cB i, cO i + 7, none⟩ = some (.slice (pa i) L.length (pk i))) (co : ∀ j, j ≠ cO i + 7 → w'.cell? ⟨cB i, j, none⟩ = w.cell? ⟨cB i, j, none⟩) (hp : PRow w' (pb i) L) :
    SAt B w' b { z with cells := z.cells.set i { z.c i with prs := L } } ar kr v4 v8 br cB cO bn pb pa pk kn hd vf F vk K role := by
  have far : ∀ q, q < w.heap.size → role q ≠ 3 → role q ≠ 6 + i → w'.heap[q]? = w.heap[q]? := fun q hq hr hr2 => o.block q hq (fun e => by
    rcases e with e | ⟨e, e2⟩
    · exact hr (by rw [e]; exact h.sp.c i hi)
    · exact hr2 (by rw [e]; exact h.sp.p i hi e2))
  have hl : ({ z with cells := z.cells.set i { z.c i with prs := L } } : Hp).cells.length = z.cells.length := by simp
  have hc := Hp.c_set z i { z.c i with prs := L } hi
  have hne : ∀ q, q ≠ i → (({ z with cells := z.cells.set i { z.c i with prs := L } } : Hp).c q) = z.c q := fun q e => by rw [hc q, if_neg e]
  have hei : (({ z with cells := z.cells.set i { z.c i with prs := L } } : Hp).c i) = { z.c i with prs := L } := by rw [hc i, if_pos rfl]
  have hle : ∀ q, (({ z with cells := z.cells.set i { z.c i with prs := L } } : Hp).c q).prs.length ≤ (z.c q).prs.length := fun q => by
    by_cases e : q = i
    · rw [e, hei]; exact hL
    · rw [hne q e]; exact Nat.le_refl _
  have pf : ∀ q, q < z.cells.length → q ≠ i → 0 < (z.c q).prs.length → w'.heap[pb q]? = w.heap[pb q]? := fun q hq hqi hl => far (pb q) (h.rw.pl q hq hl).2.1.1 (by rw [h.sp.p q hq hl]; omega) (by rw [h.sp.p q hq hl]; omega)
  have sb2 := h.sb.same o.size (far b h.sb.nb.1 (by rw [h.sp.b]; omega) (by rw [h.sp.b]; omega)) (far bn h.sb.lo.2.2 (by rw [h.sp.n]; omega) (by rw [h.sp.n]; omega)) (fun q hq => far q (h.sb.fr.own.lt q hq).2 (by rw [h.sp.f q hq]; omega) (by rw [h.sp.f q hq]; omega)) (fun q hq => far q (h.sb.kp.lt q hq).2 (by rw [h.sp.k q hq]; omega) (by rw [h.sp.k q hq]; omega))
  have cf : ∀ q, q < z.cells.length → cB q ≠ cB i → w'.heap[cB q]? = w.heap[cB q]? := fun q hq e => o.block (cB q) (h.rw.nc q hq).1.1 (fun e2 => by
    rcases e2 with e2 | ⟨e2, e3⟩
    · exact e e2
    · exact (h.rw.pl i hi e3).2.2.1.2 q hq e2.symm)
  have ck : ∀ q, q < z.cells.length → q ≠ i → ∀ k, k < 8 → w'.cell? ⟨cB q, cO q + k, none⟩ = w.cell? ⟨cB q, cO q + k, none⟩ := fun q hq e k hk => by
    by_cases e2 : cB q = cB i
    · rw [e2]
      rcases h.rw.dc q i hq hi e with d | d | d
      · exact (d e2).elim
      · exact co _ (by omega)
      · exact co _ (by omega)
    · exact World.cell?_of_block (a := ⟨cB q, _, none⟩) (cf q hq e2)
  have cn : ∀ q, q < z.cells.length → Nf1 (cB q) w' := fun q hq => by
    by_cases e2 : cB q = cB i
    · rw [e2]; exact nfc
    · exact nf1_block (h.rw.nc q hq).1 (cf q hq e2) o.size
  have fr : 0 < z.regs.length → w'.heap[br]? = w.heap[br]? := fun hr => far br (h.rw.nr hr).1.1 (by rw [h.sp.r hr]; omega) (by rw [h.sp.r hr]; omega)
  refine ⟨⟨sb2.bx, sb2.ha, by rw [hl]; exact sb2.n13, fun k hk => sb2.nd k (by rw [hl] at hk; exact hk), sb2.fr, sb2.rg, sb2.k0, sb2.kp, sb2.nb, sb2.lo⟩, ⟨fun j hj => ?_, fun q hq => ?_, fun q hq => ?_, fun q hq j hj => ?_, fun q hq hlq => ?_, fun hr => ⟨nf1_block (h.rw.nr hr).1 (fr hr) o.size, (h.rw.nr hr).2⟩, fun q hq => ⟨cn q (by rw [hl] at hq; exact hq), (h.rw.nc q (by rw [hl] at hq; exact hq)).2⟩, fun q hq => h.rw.d q (by rw [hl] at hq; exact hq), fun q q' hq hq' hqq h1 h2 => ?_, fun q q' hq hq' hne => h.rw.dc q q' (by rw [hl] at hq; exact hq) (by rw [hl] at hq'; exact hq') hne, fun q hq => Nat.le_trans (hle q) (h.rw.kp q (by rw [hl] at hq; exact hq))⟩, ⟨h.sp.b, h.sp.n, h.sp.r, fun q hq => h.sp.c q (by rw [hl] at hq; exact hq), h.sp.f, h.sp.k, fun q hq hlq => ?_⟩⟩
  · exact (h.rw.r j hj).of fun m _ => World.cell?_of_block (a := ⟨br, _, none⟩) (fr (by have : j < z.regs.length := hj; omega))
  · rw [hl] at hq
    by_cases e : q = i
    · subst e; rw [hei]; exact (h.rw.s q hq).of fun m hm => co _ (by omega)
    · rw [hne q e]; exact (h.rw.s q hq).of fun m hm => ck q hq e m (by omega)
  · rw [hl] at hq
    by_cases e : q = i
    · subst e; rw [hei]; exact c7
    · rw [hne q e, ck q hq e 7 (by omega)]; exact h.rw.p7 q hq
  · rw [hl] at hq
    by_cases e : q = i
    · subst e
      rw [hei] at hj ⊢
      have := hp j hj
      rw [Cl.p_eq { z.c q with prs := L } j hj] at this
      exact this
    · rw [hne q e] at hj ⊢
      exact (h.rw.p q hq j hj).of fun m _ => World.cell?_of_block (a := ⟨pb q, _, none⟩) (pf q hq e (by omega))
  · rw [hl] at hq
    have h0 : 0 < (z.c q).prs.length := Nat.lt_of_lt_of_le hlq (hle q)
    obtain ⟨a1, a2, a3, a4⟩ := h.rw.pl q hq h0
    have a5 : pb q ≠ br ∧ ∀ j, j < ({ z with cells := z.cells.set i { z.c i with prs := L } } : Hp).cells.length → pb q ≠ cB j := ⟨a3.1, fun j hj => a3.2 j (by rw [hl] at hj; exact hj)⟩
    by_cases e : q = i
    · subst e; exact ⟨a1, nfp h0, a5, a4⟩
    · exact ⟨a1, nf1_block a2 (pf q hq e h0) o.size, a5, a4⟩
  · rw [hl] at hq hq'; exact h.rw.dp q q' hq hq' hqq (Nat.lt_of_lt_of_le h1 (hle q)) (Nat.lt_of_lt_of_le h2 (hle q'))
  · rw [hl] at hq; exact h.sp.p q hq (Nat.lt_of_lt_of_le hlq (hle q))
/-- letGo's boxes, and the set -/
structure Bxs (w : World) (b r bs bh bx bl bn i : Nat) (Mt : List Nat) : Prop where
  s : w.cell? ⟨bs, 0, none⟩ = some (.pointer (some ⟨b, 0, none⟩))
  h : w.cell? ⟨bh, 0, none⟩ = some (.map (some r))
  n : w.cell? ⟨bx, 0, none⟩ = some (ndp bn i)
  l : w.cell? ⟨bl, 0, none⟩ = some (.func (.func 205) #[] #[.pointer (some ⟨bs, 0, none⟩), .pointer (some ⟨bh, 0, none⟩)])
  m : MapAt w r bn (Mt.map (fun i => i * 2))
  rl : r < w.heap.size
theorem Bxs.blocks {w w' : World} {b r bs bh bx bl bn i : Nat} {Mt : List Nat} (h : Bxs w b r bs bh bx bl bn i Mt) (hs : w.heap.size ≤ w'.heap.size) (e : ∀ q, q < w.heap.size → q = bs ∨ q = bh ∨ q = bx ∨ q = bl ∨ q = r → w'.heap[q]? = w.heap[q]?) : Bxs w' b r bs bh bx bl bn i Mt :=
  ⟨(World.cell?_of_block (a := ⟨bs, 0, none⟩) (e bs (cell_lt h.s) (by simp))).trans h.s, (World.cell?_of_block (a := ⟨bh, 0, none⟩) (e bh (cell_lt h.h) (by simp))).trans h.h, (World.cell?_of_block (a := ⟨bx, 0, none⟩) (e bx (cell_lt h.n) (by simp))).trans h.n, (World.cell?_of_block (a := ⟨bl, 0, none⟩) (e bl (cell_lt h.l) (by simp))).trans h.l, h.m.block (e r h.rl (by simp)), Nat.lt_of_lt_of_le h.rl hs⟩
theorem Bxs.ext {w w' : World} {b r bs bh bx bl bn i : Nat} {Mt : List Nat} (h : Bxs w b r bs bh bx bl bn i Mt) (e : Ext w w') : Bxs w' b r bs bh bx bl bn i Mt := h.blocks e.size fun q hq _ => e.block q hq
theorem SAt.goat {B : Nat} {w : World} {b : Nat} {z : Hp} {ar : Option Addr} {kr : Nat} {v4 v8 : Value} {br bn : Nat} {cB cO : Nat → Nat} {pb : Nat → Nat} {pa : Nat → Option Addr} {pk : Nat → Nat} {kn hd : Nat} {vf : Value} {F : List Int} {vk : Value} {K : List Nat} {role : Nat → Nat} (h : SAt B w b z ar kr v4 v8 br cB cO bn pb pa pk kn hd vf F vk K role) {x : Hp} {r bs bh bx bl i : Nat} {Mt : List Nat} (k : Bxs w b r bs bh bx bl bn i Mt) (hl : z.cells.length = x.cells.length) (hs : ∀ q, (z.c q).st = (x.c q).st ∧ (z.c q).to = (x.c q).to) (hi : i < z.cells.length) (hw : (z.c i).weak = (x.c i).weak) : GoAt w b r bs bh bx bl x (acB cB cO) bn kn Mt i :=
  ⟨⟨k.s, k.h, h.fw hl hs, k.m, k.rl⟩, k.n, k.l, cB i, cO i, rfl, (h.sb.nd i hi).2, by rw [← hw]; exact (h.rw.s i hi).2.2.1⟩
theorem GoAt.only {S : Nat → Prop} {w w' : World} {b r bs bh bx bl : Nat} {x : Hp} {cB cO : Nat → Nat} {bn kn : Nat} {Mt : List Nat} {i : Nat} (h : GoAt w b r bs bh bx bl x (acB cB cO) bn kn Mt i) (hi : i < x.cells.length) (o : Only S w w') (hS : ∀ q, q = bs ∨ q = bh ∨ q = bx ∨ q = bl ∨ q = r ∨ q = b ∨ q = bn → ¬ S q) (hC : ∀ j, j < x.cells.length → ¬ S (cB j)) : GoAt w' b r bs bh bx bl x (acB cB cO) bn kn Mt i := by
  refine ⟨⟨o.keep (hS bs (by simp)) h.lo.s, o.keep (hS bh (by simp)) h.lo.h, ⟨o.keep (hS b (by simp)) h.lo.f.n13, fun j hj => ?_⟩, h.lo.m.block (o.block r h.lo.rl (hS r (by simp))), Nat.lt_of_lt_of_le h.lo.rl o.size⟩, o.keep (hS bx (by simp)) h.n, o.keep (hS bl (by simp)) h.l, ?_⟩
  · obtain ⟨b1, o1, b2, o2, e1, e2, p, q, r⟩ := h.lo.f.N j hj
    cases e1; cases e2
    exact ⟨bn, 0, cB j, _, rfl, rfl, o.keep (hS bn (by simp)) p, o.keep (hC j hj) q, o.keep (hC j hj) r⟩
  · obtain ⟨b2, o2, e2, p, q⟩ := h.c
    cases e2
    exact ⟨cB i, _, rfl, o.keep (hS bn (by simp)) p, o.keep (hC i hi) q⟩
end Go.Proofs.YtddkhnclmeikfacGreat

namespace Go.Proofs.YtddkhnclmeikfacGreat
open Go.RowKit
attribute [local go_sem ↓] Go.wp_at_zero Go.wp_at_succ

/-! The program's rounds: the parts of a unit. -/
/-- the part of a round that is on, as a value -/
def nowV (p : Int) (b : Nat) : Value := if p = 1 then .iface 264 (.agg #[.pointer (some ⟨b, 0, none⟩)]) else if p = 2 then .iface 265 (.agg #[.pointer (some ⟨b, 0, none⟩)]) else if p = 3 then .iface 266 (.agg #[.pointer (some ⟨b, 0, none⟩)]) else if p = 4 then .iface 267 (.agg #[.pointer (some ⟨b, 0, none⟩)]) else if p = 5 then .iface 268 (.agg #[.pointer (some ⟨b, 0, none⟩)]) else if p = 6 then .iface 269 (.agg #[.pointer (some ⟨b, 0, none⟩)]) else .nilIface
theorem now_any (p : Int) (b : Nat) (w : World) (c5 : w.cell? ⟨b, 5, none⟩ = some (iv p)) (hp : 0 ≤ p ∧ p ≤ 6) :
    Calls Tryz.prog 194 #[.pointer (some ⟨b, 0, none⟩)] w fun e w' => e = .returned (nowV p b) ∧ w' = w := by
  have h : p = 0 ∨ p = 1 ∨ p = 2 ∨ p = 3 ∨ p = 4 ∨ p = 5 ∨ p = 6 := by omega
  clear hp
  rcases h with rfl | rfl | rfl | rfl | rfl | rfl | rfl
  all_goals
    go_enter Tryz.func194, Tryz.ntmps194
    go_wp2_with fail
    go_ret
    exact ⟨rfl, rfl⟩
theorem atHand_none (hd : Int) (b n kn : Nat) (an : Option Addr) (w : World) (c6 : w.cell? ⟨b, 6, none⟩ = some (iv hd)) (c13 : w.cell? ⟨b, 13, none⟩ = some (.slice an n kn)) (h : (hd == (n : Int)) = true) :
    Calls Tryz.prog 270 #[.pointer (some ⟨b, 0, none⟩)] w fun e w' => e = .returned (.pointer none) ∧ Ext w w' := by
  go_enter Tryz.func270, Tryz.ntmps270
  go_wp2_with fail
  go_quiet (fail)
  go_wp2_with fail
  go_ret
  exact ⟨rfl, (Ext.refl _).drewN _⟩
theorem atHand_some (b n kn bn i : Nat) (w : World) (c6 : w.cell? ⟨b, 6, none⟩ = some (iv i)) (c13 : w.cell? ⟨b, 13, none⟩ = some (.slice (some ⟨bn, 0, none⟩) n kn)) (hi : i < n) :
    Calls Tryz.prog 270 #[.pointer (some ⟨b, 0, none⟩)] w fun e w' => e = .returned (ndp bn i) ∧ Ext w w' := by
  have h : ((i : Int) == (n : Int)) = false := by simp; omega
  have i0 : (0:Int) ≤ (i:Int) := by omega
  have i1 : (i:Int) < (n:Int) := by omega
  go_enter Tryz.func270, Tryz.ntmps270
  go_wp2_with fail
  go_quiet (fail)
  obtain ⟨m1, rfl⟩ : ∃ m, m = nq := ⟨_, rfl⟩
  go_wp2_with fail
  go_quiet (fail)
  go_wp2_with fail
  go_ret
  exact ⟨rfl, ((Ext.refl _).drewN _).drewN _⟩
end Go.Proofs.YtddkhnclmeikfacGreat

namespace Go.Proofs.YtddkhnclmeikfacGreat
open Go.RowKit
attribute [local go_sem ↓] Go.wp_at_zero Go.wp_at_succ

/-! The ring's first, and what is behind it. -/
theorem rfirst_none (b bn hd : Nat) (w : World) (h : RAt w b bn hd []) :
    Calls Tryz.prog 269 #[.pointer (some ⟨b, 15, none⟩)] w fun e w' => e = .returned (.pointer none) ∧ Ext w w' := by
  have r1 := h.r1
  simp only [List.length_nil] at r1
  clear h
  go_enter Tryz.func269, Tryz.ntmps269
  go_wp2_with fail
  go_ret
  exact ⟨rfl, Ext.refl _⟩
set_option maxRecDepth 100000 in
theorem rfirst_some (b bn hd : Nat) (g : Int) (G : List Int) (w : World) (h : RAt w b bn hd (g :: G)) :
    Calls Tryz.prog 269 #[.pointer (some ⟨b, 15, none⟩)] w fun e w' => e = .returned (ndp bn g.toNat) ∧ Ext w w' := by
  have r0 := h.r0
  have r1 := h.r1
  have hl := h.hl
  have h0 := h.h0
  have rg := h.rg 0 (by simp)
  have e : (hd + 0) % 4000 = hd := by omega
  rw [e] at rg
  simp only [List.getElem_cons_zero] at rg
  have c0 : (((g :: G).length : Nat) : Int) = (G.length : Int) + 1 := by simp
  rw [c0] at r1
  have nz : (((G.length : Int) + 1) == 0) = false := by simp; omega
  have d0 : (0:Int) ≤ (hd:Int) := by omega
  have d1 : (hd:Int) < 4000 := by omega
  clear h e c0 hl
  go_enter Tryz.func269, Tryz.ntmps269
  go_wp2_with fail
  go_quiet (fail)
  go_wp2_with fail
  go_ret
  exact ⟨rfl, (Ext.refl _).drewN _⟩
end Go.Proofs.YtddkhnclmeikfacGreat

namespace Go.Proofs.YtddkhnclmeikfacGreat
open Go.RowKit
theorem ptr_nil (bn o : Nat) (w : World) : (binOp .eql 95 (.pointer none) (.pointer (some ⟨bn, o, none⟩))).run Tryz.prog w = .ok (.bool false) w := by kernel_rfl
theorem psame_block {P : Program} (w : World) (bn p q : Nat) : (sameAddr ⟨bn, p, none⟩ ⟨bn, q, none⟩).run P w = .ok (p == q) w := by
  have : ((⟨bn, p, none⟩ : Addr) == ⟨bn, q, none⟩) = (p == q) := by
    rw [Bool.eq_iff_iff]; simp
  simp [sameAddr, this]
theorem pequalIn {P : Program} (w : World) (d : Nat) (t e : TypeId) (i : TypeInfo) (ht : P.underlying t = some (.pointer e)) (hi : P.info? e = some i) (hs : i.size ≠ 0) (bn p q : Nat) :
    (Op.equalIn (d + 1) t (.pointer (some ⟨bn, p, none⟩)) (.pointer (some ⟨bn, q, none⟩))).run P w = .ok (p == q) w := by
  simp [Op.equalIn, run_underlying ht, sizeOf, typeInfo, hi, hs, psame_block]
theorem infoNodeZ : (Tryz.prog.info? 99).map (fun i => i.size) = some 2 := by kernel_rfl
theorem ptr_eq (bn p q : Nat) (w : World) : (binOp .eql 95 (.pointer (some ⟨bn, p, none⟩)) (.pointer (some ⟨bn, q, none⟩))).run Tryz.prog w = .ok (.bool (p == q)) w := by
  obtain ⟨i, hi, hs⟩ : ∃ i, Tryz.prog.info? 99 = some i ∧ i.size = 2 := by
    have := infoNodeZ
    cases h : Tryz.prog.info? 99 with
    | none => rw [h] at this; simp at this
    | some i => rw [h] at this; simp at this; exact ⟨i, rfl, this⟩
  have he : (Op.equalIn 10000 95 (.pointer (some ⟨bn, p, none⟩)) (.pointer (some ⟨bn, q, none⟩))).run Tryz.prog w = .ok (p == q) w := by
    exact pequalIn w 9999 95 99 i Tryz.underlying95 hi (by omega) bn p q
  simp only [binOp]
  simp [Op.equal, Op.maxDepth, he]
theorem ptr_no (bn p q : Nat) (w : World) (h : ¬ p = q) : (binOp .eql 95 (.pointer (some ⟨bn, p, none⟩)) (.pointer (some ⟨bn, q, none⟩))).run Tryz.prog w = .ok (.bool false) w := by
  rw [ptr_eq, beq_eq_false_iff_ne.2 h]
theorem ptr_yes (bn p : Nat) (w : World) : (binOp .eql 95 (.pointer (some ⟨bn, p, none⟩)) (.pointer (some ⟨bn, p, none⟩))).run Tryz.prog w = .ok (.bool true) w := by
  rw [ptr_eq]; simp
end Go.Proofs.YtddkhnclmeikfacGreat

namespace Go.Proofs.YtddkhnclmeikfacGreat
open Go.RowKit
attribute [local go_sem ↓] Go.wp_at_zero Go.wp_at_succ

/-- the cell whose pairs the collector is going through, as a pointer -/
def undV (bn : Nat) (x : Hp) : Value := if scanI x = -1 then .pointer none else ndp bn (scanI x).toNat
set_option maxRecDepth 100000 in
set_option maxHeartbeats 1000000 in
theorem underway_any {B : Nat} {w : World} {b : Nat} {x : Hp} {ar : Option Addr} {kr : Nat} {v4 v8 : Value} {br bn : Nat} {cB cO : Nat → Nat} {pb : Nat → Nat} {pa : Nat → Option Addr} {pk : Nat → Nat} {kn hd : Nat} {vf : Value} {F : List Int} {vk : Value} {K : List Nat} {role : Nat → Nat} (h : SAt B w b x ar kr v4 v8 br cB cO bn pb pa pk kn hd vf F vk K role) (hh : 0 ≤ x.hand ∧ x.hand ≤ x.cells.length) (hg : ∀ g, g ∈ x.gray → 0 ≤ g ∧ g < x.cells.length) :
    Calls Tryz.prog 210 #[.pointer (some ⟨b, 0, none⟩)] w fun e w' => Hid (e = .returned (undV bn x)) ∧ Ext w w' := by
  have c5 := h.sb.bx.2.2.2.2.2.1
  have c6 := h.sb.bx.2.2.2.2.2.2.1
  have c13 := h.sb.n13
  have hb := h.sb.nb.1
  cases q2 : (x.phase == 2)
  · cases q5 : (x.phase == 5)
    · have E := hide (show undV bn x = .pointer none by
        have h2 : ¬ x.phase = 2 := by simpa using q2
        have h5 : ¬ x.phase = 5 := by simpa using q5
        have : scanI x = -1 := by unfold scanI; rw [if_neg (fun h => h2 h.1), if_neg (fun h => h5 h.1)]
        unfold undV; rw [if_pos this])
      clear h c6 c13
      go_enter Tryz.func210, Tryz.ntmps210
      go_wp2_with fail
      go_ret
      exact ⟨by show _ = _; rw [unhide E]; rfl, Ext.refl _⟩
    · have h2 : ¬ x.phase = 2 := by simpa using q2
      have h5 : x.phase = 5 := by simpa using q5
      cases qe : (x.hand == (x.cells.length : Int))
      · have hne : ¬ x.hand = (x.cells.length : Int) := by simpa using qe
        obtain ⟨i, hi⟩ : ∃ i : Nat, x.hand = (i : Int) := ⟨x.hand.toNat, by omega⟩
        have E := hide (show undV bn x = ndp bn i by
          have : scanI x = (i : Int) := by unfold scanI; rw [if_neg (fun h => h2 h.1), if_pos ⟨h5, by omega⟩, hi]
          unfold undV; rw [this, if_neg (by omega)]; simp)
        have Q := hide (fun W (e : Ext w W) => atHand_some b x.cells.length kn bn i W (e.keep (hi ▸ c6)) (e.keep c13) (by omega))
        clear h c6 c13 h2 h5 hne
        go_enter Tryz.func210, Tryz.ntmps210
        go_wp2_with fail
        refine (unhide Q _ (Ext.refl _)).mono ?_
        rintro e w1 ⟨rfl, x1⟩
        go_wp2_with fail
        go_ret
        exact ⟨by show _ = _; rw [unhide E]; rfl, x1⟩
      · have he : x.hand = (x.cells.length : Int) := by simpa using qe
        have E := hide (show undV bn x = .pointer none by
          have : scanI x = -1 := by unfold scanI; rw [if_neg (fun h => h2 h.1), if_neg (fun h => by omega)]
          unfold undV; rw [if_pos this])
        have Q := hide (fun W (e : Ext w W) => atHand_none x.hand b x.cells.length kn (some ⟨bn, 0, none⟩) W (e.keep c6) (e.keep c13) qe)
        clear h c6 c13 h2 h5 he
        go_enter Tryz.func210, Tryz.ntmps210
        go_wp2_with fail
        refine (unhide Q _ (Ext.refl _)).mono ?_
        rintro e w1 ⟨rfl, x1⟩
        go_wp2_with fail
        go_ret
        exact ⟨by show _ = _; rw [unhide E]; rfl, x1⟩
  · have h2 : x.phase = 2 := by simpa using q2
    have RG := hide h.sb.rg
    cases hgr : x.gray with
    | nil =>
      have E := hide (show undV bn x = .pointer none by
        have : scanI x = -1 := by unfold scanI; rw [if_neg (fun h => by simp [hgr] at h), if_neg (fun h => by omega)]
        unfold undV; rw [if_pos this])
      rw [hgr] at RG
      clear h c6 c13 h2 hg
      go_enter Tryz.func210, Tryz.ntmps210
      go_wp2_with fail
      refine (rfirst_none b bn hd _ (unhide RG)).mono ?_
      rintro e w1 ⟨rfl, x1⟩
      go_wp2_with fail
      go_ret
      exact ⟨by show _ = _; rw [unhide E]; rfl, x1⟩
    | cons g G =>
      have hg0 := hg g (by rw [hgr]; simp)
      have E := hide (show undV bn x = ndp bn g.toNat by
        have : scanI x = g := by unfold scanI; rw [if_pos ⟨h2, by simp [hgr]⟩, hgr]; rfl
        unfold undV; rw [this, if_neg (by omega)])
      rw [hgr] at RG
      clear h c6 c13 h2 hg
      go_enter Tryz.func210, Tryz.ntmps210
      go_wp2_with fail
      refine (rfirst_some b bn hd g G _ (unhide RG)).mono ?_
      rintro e w1 ⟨rfl, x1⟩
      go_wp2_with fail
      go_ret
      exact ⟨by show _ = _; rw [unhide E]; rfl, x1⟩
theorem ptr_nilr (bn o : Nat) (w : World) : (binOp .eql 95 (.pointer (some ⟨bn, o, none⟩)) (.pointer none)).run Tryz.prog w = .ok (.bool false) w := by kernel_rfl
theorem scan_range {x : Hp} (hh : 0 ≤ x.hand ∧ x.hand ≤ x.cells.length) (hg : ∀ g, g ∈ x.gray → 0 ≤ g ∧ g < x.cells.length) : scanI x = -1 ∨ 0 ≤ scanI x := by
  unfold scanI
  split
  · rename_i h
    cases hgr : x.gray with
    | nil => simp [hgr] at h
    | cons g G => right; exact (hg g (by rw [hgr]; simp)).1
  · split
    · omega
    · exact .inl rfl
theorem und_eq (bn i : Nat) {x : Hp} (hr : scanI x = -1 ∨ 0 ≤ scanI x) (w : World) : (binOp .eql 95 (ndp bn i) (undV bn x)).run Tryz.prog w = .ok (.bool (decide (scanI x = (i : Int)))) w := by
  unfold undV
  by_cases h : scanI x = -1
  · rw [if_pos h, ptr_nilr, decide_eq_false (by omega)]
  · rw [if_neg h]
    by_cases e : scanI x = (i : Int)
    · have : (scanI x).toNat = i := by omega
      rw [this, ptr_yes, decide_eq_true e]
    · have : ¬ i * 2 = (scanI x).toNat * 2 := by omega
      rw [ptr_no _ _ _ _ this, decide_eq_false e]
end Go.Proofs.YtddkhnclmeikfacGreat

namespace Go.Proofs.YtddkhnclmeikfacGreat
open Go.RowKit

/-- a number of the box has turned -/
theorem SAt.boxed {B : Nat} {w w' : World} {b : Nat} {x x' : Hp} {ar : Option Addr} {kr : Nat} {v4 v8 : Value} {br bn : Nat} {cB cO : Nat → Nat} {pb : Nat → Nat} {pa : Nat → Option Addr} {pk : Nat → Nat} {kn hd : Nat} {vf : Value} {F : List Int} {vk : Value} {K : List Nat} {role : Nat → Nat} (h : SAt B w b x ar kr v4 v8 br cB cO bn pb pa pk kn hd vf F vk K role) (o : Only (fun q => q = b) w w') (nf : Nf1 b w') (hr : x'.regs = x.regs) (hc : x'.cells = x.cells) (hg : x'.gray = x.gray) (bx : HBox w' b x' (.slice ar x.regs.length kr) v4 v8) (c : ∀ k, 13 ≤ k → w'.cell? ⟨b, k, none⟩ = w.cell? ⟨b, k, none⟩) :
    SAt B w' b x' ar kr v4 v8 br cB cO bn pb pa pk kn hd vf F vk K role := by
  have far : ∀ q, q < w.heap.size → role q ≠ 0 → w'.heap[q]? = w.heap[q]? := fun q hq hn => o.block q hq (fun e => hn (by rw [e]; exact h.sp.b))
  have fn := far bn h.sb.lo.2.2 (by rw [h.sp.n]; omega)
  have cc : ∀ q, x'.c q = x.c q := fun q => by simp only [Hp.c, hc]
  have rw2 := h.rw.same o.size (fun hl => far br (h.rw.nr hl).1.1 (by rw [h.sp.r hl]; omega)) (fun q hq => far (cB q) (h.rw.nc q hq).1.1 (by rw [h.sp.c q hq]; omega)) (fun q hq hl => far (pb q) (h.rw.pl q hq hl).2.1.1 (by rw [h.sp.p q hq hl]; omega))
  refine ⟨⟨by rw [hr]; exact bx, by rw [hr]; exact h.sb.ha, by rw [hc]; exact (c 13 (by omega)).trans h.sb.n13, fun k hk => ?_, ⟨(c 14 (by omega)).trans h.sb.fr.hd, nf.2 14, ownsRow_of_block h.sb.fr.own (fun q hq => far q (h.sb.fr.own.lt q hq).2 (by rw [h.sp.f q hq]; omega)), h.sb.fr.apart⟩, ?_, (c 4017 (by omega)).trans h.sb.k0, ownsRow_of_block h.sb.kp (fun q hq => far q (h.sb.kp.lt q hq).2 (by rw [h.sp.k q hq]; omega)), nf, ⟨h.sb.lo.1, h.sb.lo.2.1, Nat.lt_of_lt_of_le h.sb.lo.2.2 o.size⟩⟩, ?_, ?_⟩
  · rw [hc] at hk
    exact ⟨(World.cell?_of_block (a := ⟨bn, _, none⟩) fn).trans (h.sb.nd k hk).1, (World.cell?_of_block (a := ⟨bn, _, none⟩) fn).trans (h.sb.nd k hk).2⟩
  · rw [hg]; exact h.sb.rg.of fun o h1 _ => c o (by omega)
  · refine ⟨fun i hi => ?_, fun q hq => ?_, fun q hq => ?_, fun q hq k hk => ?_, fun q hq hl => ?_, ?_, ?_, ?_, fun q q' hq hq' hne h1 h2 => ?_, fun q q' hq hq' hne => ?_, fun q hq => ?_⟩
    · have hi2 : i < x.regs.length := by rw [← hr]; exact hi
      have e2 : x'.regs[i] = x.regs[i] := by simp [hr]
      rw [e2]; exact rw2.r i hi2
    · rw [hc] at hq; rw [cc]; exact rw2.s q hq
    · rw [hc] at hq; rw [cc]; exact rw2.p7 q hq
    · rw [hc] at hq; rw [cc] at hk ⊢; exact rw2.p q hq k hk
    · rw [hc] at hq ⊢; rw [cc] at hl; exact rw2.pl q hq hl
    · rw [hr]; exact rw2.nr
    · rw [hc]; exact rw2.nc
    · rw [hc]; exact rw2.d
    · rw [hc] at hq hq'; rw [cc] at h1 h2; exact rw2.dp q q' hq hq' hne h1 h2
    · rw [hc] at hq hq'; exact rw2.dc q q' hq hq' hne
    · rw [hc] at hq; rw [cc]; exact rw2.kp q hq
  · refine ⟨h.sp.b, h.sp.n, by rw [hr]; exact h.sp.r, by rw [hc]; exact h.sp.c, h.sp.f, h.sp.k, fun q hq hl => ?_⟩
    rw [hc] at hq; rw [cc] at hl; exact h.sp.p q hq hl
end Go.Proofs.YtddkhnclmeikfacGreat

namespace Go.Proofs.YtddkhnclmeikfacGreat
open Go.RowKit

/-! Numbers of the box that turn. -/
theorem SAt.usedTo {B : Nat} {w : World} {b : Nat} {x : Hp} {ar : Option Addr} {kr : Nat} {v4 v8 : Value} {br bn : Nat} {cB cO : Nat → Nat} {pb : Nat → Nat} {pa : Nat → Option Addr} {pk : Nat → Nat} {kn hd : Nat} {vf : Value} {F : List Int} {vk : Value} {K : List Nat} {role : Nat → Nat} (h : SAt B w b x ar kr v4 v8 br cB cO bn pb pa pk kn hd vf F vk K role) (u : Int) :
    SAt B (w.setCell ⟨b, 1, none⟩ (iv u)) b { x with used := u } ar kr v4 v8 br cB cO bn pb pa pk kn hd vf F vk K role := by
  refine h.boxed (x' := { x with used := u }) (Only.setCell (S := fun q => q = b) (Only.refl _ w) (p := ⟨b, 1, none⟩) rfl _) (h.sb.nb.set _ _) rfl rfl rfl (h.sb.bx.set1 u) (fun k hk => cell_other _ (.inr (by omega)))
theorem SAt.subs {B : Nat} {w : World} {b : Nat} {x : Hp} {ar : Option Addr} {kr : Nat} {v4 v8 : Value} {br bn : Nat} {cB cO : Nat → Nat} {pb : Nat → Nat} {pa : Nat → Option Addr} {pk : Nat → Nat} {kn hd : Nat} {vf : Value} {F : List Int} {vk : Value} {K : List Nat} {role : Nat → Nat} (h : SAt B w b x ar kr v4 v8 br cB cO bn pb pa pk kn hd vf F vk K role) (v : Int) :
    SAt B (w.setCell ⟨b, 7, none⟩ (iv v)) b { x with sub := v } ar kr v4 v8 br cB cO bn pb pa pk kn hd vf F vk K role := by
  refine h.boxed (x' := { x with sub := v }) (Only.setCell (S := fun q => q = b) (Only.refl _ w) (p := ⟨b, 7, none⟩) rfl _) (h.sb.nb.set _ _) rfl rfl rfl (h.sb.bx.set7 v) (fun k hk => cell_other _ (.inr (by omega)))
end Go.Proofs.YtddkhnclmeikfacGreat
