import Derived.Test.YtddkhnclmeikfacGreatDoorXb
namespace Go.Proofs.YtddkhnclmeikfacGreatDoor
open Go.RowKit
attribute [local go_sem ↓] Go.wp_at_zero Go.wp_at_succ

theorem nameCell (w : World) (k : Nat) (hk : k < 25) : (w.alloc (.cells #[.string ⟨#[]⟩, .string ⟨#[110, 101, 119]⟩, .string ⟨#[110, 117, 109]⟩, .string ⟨#[110, 105, 108]⟩, .string ⟨#[99, 111, 112, 121]⟩, .string ⟨#[107, 101, 121]⟩, .string ⟨#[118, 97, 108]⟩, .string ⟨#[115, 101, 116, 107, 101, 121]⟩, .string ⟨#[115, 101, 116, 118, 97, 108]⟩, .string ⟨#[103, 114, 111, 119]⟩, .string ⟨#[99, 117, 116]⟩, .string ⟨#[119, 101, 97, 107]⟩, .string ⟨#[108, 97, 115, 116]⟩, .string ⟨#[115, 97, 109, 101]⟩, .string ⟨#[119, 111, 114, 100]⟩, .string ⟨#[110, 117, 109, 98, 101, 114]⟩, .string ⟨#[107, 105, 110, 100]⟩, .string ⟨#[115, 105, 122, 101]⟩, .string ⟨#[115, 101, 116, 116, 108, 101]⟩, .string ⟨#[100, 117, 101]⟩, .string ⟨#[99, 111, 117, 110, 116]⟩, .string ⟨#[108, 105, 118, 101]⟩, .string ⟨#[115, 116, 101, 112]⟩, .string ⟨#[112, 97, 99, 101]⟩, .string ⟨#[114, 111, 117, 110, 100]⟩] 9)).cell? ⟨w.heap.size, k, none⟩ = some (.string ⟨(nameL k).toArray⟩) := by
  have : (#[.string ⟨#[]⟩, .string ⟨#[110, 101, 119]⟩, .string ⟨#[110, 117, 109]⟩, .string ⟨#[110, 105, 108]⟩, .string ⟨#[99, 111, 112, 121]⟩, .string ⟨#[107, 101, 121]⟩, .string ⟨#[118, 97, 108]⟩, .string ⟨#[115, 101, 116, 107, 101, 121]⟩, .string ⟨#[115, 101, 116, 118, 97, 108]⟩, .string ⟨#[103, 114, 111, 119]⟩, .string ⟨#[99, 117, 116]⟩, .string ⟨#[119, 101, 97, 107]⟩, .string ⟨#[108, 97, 115, 116]⟩, .string ⟨#[115, 97, 109, 101]⟩, .string ⟨#[119, 111, 114, 100]⟩, .string ⟨#[110, 117, 109, 98, 101, 114]⟩, .string ⟨#[107, 105, 110, 100]⟩, .string ⟨#[115, 105, 122, 101]⟩, .string ⟨#[115, 101, 116, 116, 108, 101]⟩, .string ⟨#[100, 117, 101]⟩, .string ⟨#[99, 111, 117, 110, 116]⟩, .string ⟨#[108, 105, 118, 101]⟩, .string ⟨#[115, 116, 101, 112]⟩, .string ⟨#[112, 97, 99, 101]⟩, .string ⟨#[114, 111, 117, 110, 100]⟩] : Array Value)[k]? = some (.string ⟨(nameL (k : Int)).toArray⟩) := by
    match k, hk with
    | 0, _ => rfl
    | 1, _ => rfl
    | 2, _ => rfl
    | 3, _ => rfl
    | 4, _ => rfl
    | 5, _ => rfl
    | 6, _ => rfl
    | 7, _ => rfl
    | 8, _ => rfl
    | 9, _ => rfl
    | 10, _ => rfl
    | 11, _ => rfl
    | 12, _ => rfl
    | 13, _ => rfl
    | 14, _ => rfl
    | 15, _ => rfl
    | 16, _ => rfl
    | 17, _ => rfl
    | 18, _ => rfl
    | 19, _ => rfl
    | 20, _ => rfl
    | 21, _ => rfl
    | 22, _ => rfl
    | 23, _ => rfl
    | 24, _ => rfl
    | k + 25, h => exact absurd h (by omega)
  simpa [go_sem] using this
set_option maxRecDepth 100000 in
set_option maxHeartbeats 1000000 in
theorem l7name_any (op : Int) (h1 : 1 ≤ op) (h2 : op ≤ 24) (w : World) : Calls Tryz.prog 113 #[.int .i64 op] w fun e w' => e = .returned (.string ⟨(nameL op).toArray⟩) ∧ Ext w w' := by
  obtain ⟨k, rfl⟩ : ∃ k : Nat, op = (k : Int) := ⟨op.toNat, by omega⟩
  have C := nameCell w k (by omega)
  obtain ⟨r, hr⟩ : ∃ r, r = (nameL k).toArray := ⟨_, rfl⟩
  rw [← hr] at C ⊢
  clear hr
  have hk0 : (0 : Int) ≤ (k : Int) := by omega
  have hk1 : (k : Int) < 25 := by omega
  go_enter Tryz.func113, Tryz.ntmps113
  go_wp2
  go_ret
  exact ⟨rfl, (Ext.refl _).alloc _⟩
end Go.Proofs.YtddkhnclmeikfacGreatDoor
