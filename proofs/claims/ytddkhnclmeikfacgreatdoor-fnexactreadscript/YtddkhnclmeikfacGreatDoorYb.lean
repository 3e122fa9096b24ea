import Derived.Test.YtddkhnclmeikfacGreatDoorYa
import Derived.Test.YtddkhnclmeikfacGreatDoorXf
namespace Go.Proofs.YtddkhnclmeikfacGreatDoor

/-! What a script's text says (mathematics alone). -/
/-- the Op that a word names -/
def opOf (wd : List UInt8) : Option Nat := (List.range 25).find? (fun k => decide (1 ≤ k) && (nameL (k : Nat) == wd))
theorem opOf_some {wd : List UInt8} {k : Nat} (h : opOf wd = some k) : 1 ≤ k ∧ k ≤ 24 ∧ nameL (k : Nat) = wd := by
  unfold opOf at h
  have h1 := List.find?_some h
  have h2 := List.mem_of_find?_eq_some h
  rw [List.mem_range] at h2
  simp at h1
  exact ⟨h1.1, by omega, h1.2⟩
theorem opOf_none {wd : List UInt8} (h : opOf wd = none) (k : Nat) (h1 : 1 ≤ k) (h2 : k ≤ 24) : nameL (k : Nat) ≠ wd := by
  unfold opOf at h
  rw [List.find?_eq_none] at h
  have := h k (List.mem_range.2 (by omega))
  simp at this
  exact this h1
theorem names_apart : (List.range 25).all (fun i => (List.range 25).all (fun j => decide (i = 0) || (decide (j = 0) || (decide (i = j) || !(nameL (i : Nat) == nameL (j : Nat)))))) = true := by decide +kernel
theorem name_inj {i j : Nat} (hi : 1 ≤ i) (hi2 : i ≤ 24) (hj : 1 ≤ j) (hj2 : j ≤ 24) (h : nameL (i : Nat) = nameL (j : Nat)) : i = j := by
  have h1 := List.all_eq_true.1 names_apart i (List.mem_range.2 (by omega))
  have h2 := List.all_eq_true.1 h1 j (List.mem_range.2 (by omega))
  have a : ¬ i = 0 := by omega
  have b : ¬ j = 0 := by omega
  rw [h] at h2
  simpa [a, b] using h2
theorem opOf_is {wd : List UInt8} {k : Nat} (h1 : 1 ≤ k) (h2 : k ≤ 24) (h : nameL (k : Nat) = wd) : opOf wd = some k := by
  cases q : opOf wd with
  | none => exact absurd h (opOf_none q k h1 h2)
  | some j =>
    obtain ⟨a, b, c⟩ := opOf_some q
    rw [name_inj a b h1 h2 (c.trans h.symm)]
/-- the act with a number in the field that a letter names -/
def Ak.put (x : Ak) (c : Int) (n : Int) : Ak := if c = 65 then { x with a := n } else if c = 66 then { x with b := n } else if c = 67 then { x with c := n } else { x with n := n }
def mkAct (op : Int) (l : List (UInt8 × Int)) : Ak := l.foldl (fun x p => x.put (p.1.toNat : Int) p.2) ⟨op, 0, 0, 0, 0⟩
def actOf (op : Nat) (ws : List (List UInt8)) : Ak := mkAct op ((letL (op : Nat)).zip (ws.map numV))
def actGood (op : Nat) (ws : List (List UInt8)) : Bool := decide (ws.length = (letL (op : Nat)).length) && (ws.all numB && okA (actOf op ws))
/-- the act that a line tells -/
def actO (line : List UInt8) : Option Ak := match wordsL line with
  | [] => none
  | w0 :: ws => match opOf w0 with
    | none => none
    | some op => if actGood op ws = true then some (actOf op ws) else none
/-- the room that a line tells -/
def roomGood (r : List UInt8) : Bool := numB r && (decide (1 ≤ numV r) && decide (numV r ≤ 4000))
def roomO (line : List UInt8) : Option Int := match wordsL line with
  | [w0, r] => if (w0 == [114, 111, 111, 109]) = true ∧ roomGood r = true then some (numV r) else none
  | _ => none
/-- what is read: the acts, or the line of the first fault -/
structure Rd where
  ok : Bool
  ln : Nat
  rm : Int
  acts : List Ak
def Rd.good (room : Int) (acts : List Ak) : Rd := ⟨true, 0, room, acts⟩
def Rd.bad (n : Nat) : Rd := ⟨false, n, 0, []⟩
/-- the acts behind the first line; n lines are read -/
def rdActs (room : Int) : Nat → Nat → List Ak → List UInt8 → Rd
  | 0, _, acc, _ => .good room acc
  | fuel + 1, n, acc, rest => if rest = [] then .good room acc else match cutN rest with
    | none => .bad (n + 1)
    | some (line, rest') => if acc.length < 1000 then match actO line with
      | none => .bad (n + 1)
      | some a => rdActs room fuel (n + 1) (acc ++ [a]) rest'
    else .bad (n + 1)
def rdText (tx : List UInt8) : Rd := if 20000 < tx.length then .bad 0 else match cutN tx with
  | none => .bad 1
  | some (line, rest) => match roomO line with
    | none => .bad 1
    | some room => rdActs room rest.length 1 [] rest
def Rd.v (r : Rd) (acts : Value) : Value := .agg #[.bool r.ok, .int .i64 r.ln, .int .i64 r.rm, acts]
theorem rdActs_end (room : Int) (fuel n : Nat) (acc : List Ak) : rdActs room fuel n acc [] = .good room acc := by
  cases fuel <;> simp [rdActs]
theorem rdActs_step {room : Int} {fuel n : Nat} {acc : List Ak} {rest line rest' : List UInt8} {a : Ak} (hf : rest.length ≤ fuel) (h1 : cutN rest = some (line, rest')) (h2 : acc.length < 1000) (h3 : actO line = some a) : rdActs room fuel n acc rest = rdActs room (fuel - 1) (n + 1) (acc ++ [a]) rest' := by
  have hl := cutN_len h1
  obtain ⟨f, rfl⟩ : ∃ f, fuel = f + 1 := ⟨fuel - 1, by omega⟩
  have hne : rest ≠ [] := fun e => by rw [e] at h1; simp [cutN] at h1
  simp [rdActs, hne, h1, h2, h3]
theorem rdActs_cut {room : Int} {fuel n : Nat} {acc : List Ak} {rest : List UInt8} (hf : rest.length ≤ fuel) (hne : rest ≠ []) (h1 : cutN rest = none) : rdActs room fuel n acc rest = .bad (n + 1) := by
  obtain ⟨f, rfl⟩ : ∃ f, fuel = f + 1 := ⟨fuel - 1, by have := List.length_pos_iff.2 hne; omega⟩
  simp [rdActs, hne, h1]
theorem rdActs_many {room : Int} {fuel n : Nat} {acc : List Ak} {rest line rest' : List UInt8} (hf : rest.length ≤ fuel) (h1 : cutN rest = some (line, rest')) (h2 : ¬ acc.length < 1000) : rdActs room fuel n acc rest = .bad (n + 1) := by
  have hl := cutN_len h1
  obtain ⟨f, rfl⟩ : ∃ f, fuel = f + 1 := ⟨fuel - 1, by omega⟩
  have hne : rest ≠ [] := fun e => by rw [e] at h1; simp [cutN] at h1
  simp [rdActs, hne, h1, h2]
theorem rdActs_no {room : Int} {fuel n : Nat} {acc : List Ak} {rest line rest' : List UInt8} (hf : rest.length ≤ fuel) (h1 : cutN rest = some (line, rest')) (h3 : actO line = none) : rdActs room fuel n acc rest = .bad (n + 1) := by
  have hl := cutN_len h1
  obtain ⟨f, rfl⟩ : ∃ f, fuel = f + 1 := ⟨fuel - 1, by omega⟩
  have hne : rest ≠ [] := fun e => by rw [e] at h1; simp [cutN] at h1
  simp [rdActs, hne, h1, h3]
/-! How the model counts the fields. -/
def cntL (op : Int) (i : Nat) : Nat := ((List.range i).filter (fun j => hasL op j)).length
def sNum (op : Int) (ws : List (List UInt8)) (j : Nat) : Int := if hasL op j = true then numV (ws.getD (cntL op j) []) else 0
def sAct (op : Nat) (ws : List (List UInt8)) : Ak := ⟨op, sNum op ws 0, sNum op ws 1, sNum op ws 2, sNum op ws 3⟩
theorem cnt_yes (op : Int) (k : Nat) (h : hasL op k = true) : cntL op (k + 1) = cntL op k + 1 := by
  unfold cntL; rw [List.range_succ, List.filter_append]; simp [h]
theorem cnt_no (op : Int) (k : Nat) (h : hasL op k = false) : cntL op (k + 1) = cntL op k := by
  unfold cntL; rw [List.range_succ, List.filter_append]; simp [h]
set_option maxRecDepth 100000 in
theorem cnt_all : (List.range 25).all (fun k => decide (cntL (k : Nat) 4 = (letL (k : Nat)).length)) = true := by decide +kernel
theorem cnt_len (op : Nat) (h : op ≤ 24) : cntL (op : Nat) 4 = (letL (op : Nat)).length := of_decide_eq_true (List.all_eq_true.1 cnt_all op (List.mem_range.2 (by omega)))
theorem sAct_eq (op : Nat) (h1 : 1 ≤ op) (h2 : op ≤ 24) (ws : List (List UInt8)) (hl : ws.length = (letL (op : Nat)).length) : sAct op ws = actOf op ws := by
  have h := op_cases (op : Int) (by omega) (by omega)
  have hop : op = 1 ∨ op = 2 ∨ op = 3 ∨ op = 4 ∨ op = 5 ∨ op = 6 ∨ op = 7 ∨ op = 8 ∨ op = 9 ∨ op = 10 ∨ op = 11 ∨ op = 12 ∨ op = 13 ∨ op = 14 ∨ op = 15 ∨ op = 16 ∨ op = 17 ∨ op = 18 ∨ op = 19 ∨ op = 20 ∨ op = 21 ∨ op = 22 ∨ op = 23 ∨ op = 24 := by omega
  clear h h1 h2
  match ws, hl with
  | [], hl => rcases hop with rfl | rfl | rfl | rfl | rfl | rfl | rfl | rfl | rfl | rfl | rfl | rfl | rfl | rfl | rfl | rfl | rfl | rfl | rfl | rfl | rfl | rfl | rfl | rfl <;> first | (exact absurd hl (by decide)) | rfl
  | [a], hl => rcases hop with rfl | rfl | rfl | rfl | rfl | rfl | rfl | rfl | rfl | rfl | rfl | rfl | rfl | rfl | rfl | rfl | rfl | rfl | rfl | rfl | rfl | rfl | rfl | rfl <;> first | (exact absurd hl (by decide)) | rfl
  | [a, b], hl => rcases hop with rfl | rfl | rfl | rfl | rfl | rfl | rfl | rfl | rfl | rfl | rfl | rfl | rfl | rfl | rfl | rfl | rfl | rfl | rfl | rfl | rfl | rfl | rfl | rfl <;> first | (exact absurd hl (by decide)) | rfl
  | [a, b, c], hl => rcases hop with rfl | rfl | rfl | rfl | rfl | rfl | rfl | rfl | rfl | rfl | rfl | rfl | rfl | rfl | rfl | rfl | rfl | rfl | rfl | rfl | rfl | rfl | rfl | rfl <;> first | (exact absurd hl (by decide)) | rfl
  | a :: b :: c :: d :: r, hl => exact absurd hl (by have : (letL (op : Nat)).length ≤ 3 := getD_len letT 3 (by decide) _; simp; omega)
end Go.Proofs.YtddkhnclmeikfacGreatDoor
