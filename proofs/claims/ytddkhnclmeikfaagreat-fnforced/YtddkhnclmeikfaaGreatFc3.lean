import Derived.Test.YtddkhnclmeikfaaGreatCa5
import Derived.Test.YtddkhnclmeikfaaGreatFa1
import Derived.Test.YtddkhnclmeikfaaGreatFb4
namespace Go.Proofs.YtddkhnclmeikfaaGreat
open Go.RowKit
attribute [local go_sem ↓] Go.wp_at_zero Go.wp_at_succ
theorem Wp.len:∀{L:List Ak} {x:Hp} {Q:Hp→List Int→Prop},Wp x L Q→Wp x L (fun z M=>Q z M∧M.length=L.length)
 | [],_,_,h=>⟨h,rfl⟩
 | _::_,_,_,h=>fun y cd nm d s=>⟨(h y cd nm d s).1,(Wp.len (h y cd nm d s).2).mono (fun z M k=>⟨k.1,by simp [k.2]⟩)⟩
theorem ok_akb{op a b c:Nat}(h:OpOk op)(ha:(a:Int)≤actA op)(hb:(b:Int)≤actB op)(hc:(c:Int)≤actC op):OkAct (ak op a b c):=⟨op,a,b,c,rfl,h,ok_of (by unfold OpOk at h;omega) (by unfold OpOk at h;omega) ha hb hc⟩
theorem mv_ok{R l:Nat}(m:Option (Nat×Option Nat))(h:mvOk R l m)(A:Ak)(hA:A∈mvA m):OkAct A:=by
 match m,h with
 | none,_=>
  simp only [mvA,clearA,List.mem_cons,List.not_mem_nil,or_false] at hA;rcases hA with rfl | rfl | rfl | rfl | rfl | rfl | rfl | rfl | rfl
  all_goals exact ok_akb (by simp [OpOk]) (by decide) (by decide) (by decide)
 | some (n,none),h=>
  have:=h.1;simp only [mvA,List.mem_cons,List.not_mem_nil,or_false] at hA;rcases hA with rfl
  exact ok_akb (by simp [OpOk]) (by decide) (by decide) (by show(n:Int)≤200;omega)
 | some (n,some k),h=>
  have:=h.1;have k4:=(h.2.2 k rfl).2;simp only [mvA,hangA,List.mem_cons,List.not_mem_nil,or_false] at hA;rcases hA with rfl | rfl | rfl | rfl | rfl
  ·exact ok_akb (by simp [OpOk]) (by decide) (by decide) (by show(n:Int)≤200;omega)
  ·exact ok_akb (by simp [OpOk]) (by decide) (by decide) (by show(k:Int)≤199;omega)
  ·exact ok_akb (by simp [OpOk]) (by decide) (by decide) (by decide)
  ·exact ok_akb (by simp [OpOk]) (by decide) (by decide) (by show(k:Int)≤199;omega)
  ·exact ok_akb (by simp [OpOk]) (by decide) (by decide) (by decide)
theorem b_ok{R:Nat}:∀ms,bOk R ms→∀A,A∈bA ms→OkAct A
 | [],_,A,h=>by simp [bA] at h
 | m::ms,k,A,h=>by
  simp only [bA] at h;rcases List.mem_append.1 h with h | h
  ·exact b_ok ms k.1 A h
  ·exact mv_ok m k.2 A h
theorem busy_ok{R:Nat}(st:Nat)(hs:st≤4000)(ms:List (Option (Nat×Option Nat)))(h:bOk R ms)(A:Ak)(hA:A∈headA0 st++bA ms):OkAct A:=by
 rcases List.mem_append.1 hA with hA | hA
 ·simp only [headA0,List.mem_cons,List.not_mem_nil,or_false] at hA;rcases hA with rfl | rfl
  ·exact ok_akb (by simp [OpOk]) (by decide) (by decide) (by show(st:Int)≤4000;omega)
  ·exact ok_akb (by simp [OpOk]) (by decide) (by decide) (by decide)
 ·exact b_ok ms h A hA
def mdL:List Ak→Int
 | []=>0
 | A::L=>(if A.op=1 then 1+A.c else 0)+mdL L
theorem mdL_app:∀(L M:List Ak),mdL (L++M)=mdL L+mdL M
 | [],M=>by simp [mdL]
 | A::L,M=>by simp only [List.cons_append,mdL,mdL_app L M];omega
theorem mdL_mv(m:Option (Nat×Option Nat)):mdL (mvA m)=mvU m:=by
 match m with
 | none=>simp [mvA,clearA,mdL,ak,mvU]
 | some (n,none)=>simp [mvA,mdL,ak,mvU]
 | some (n,some k)=>simp [mvA,hangA,mdL,ak,mvU]
theorem mdL_b(st:Nat):∀ms,mdL (headA0 st++bA ms)=bU ms
 | []=>by simp [headA0,bA,mdL,ak,bU]
 | m::ms=>by
  rw[show headA0 st++bA (m::ms)=(headA0 st++bA ms)++mvA m by simp [bA],mdL_app,mdL_b st ms,mdL_mv];simp [bU]
theorem bz_made{R L mad:Nat}{x:Hp}(h:Bz R x L mad)(hR:3000≤R∧R≤4000):0<x.rounds∨(mad:Int)≤R:=by
 rcases h.ps with⟨_,b,c⟩ | ⟨_,M,_,c,d,e⟩
 ·rcases c with c | c
  ·exact .inl c
  ·right;unfold AR at b;omega
 ·rcases e with e | e
  ·exact .inl e
  ·right;unfold AR at e;omega
theorem bA_ms:∀ms:List (Option (Nat×Option Nat)),ms.length≤(bA ms).length
 | []=>by simp
 | m::ms=>by
  have:=bA_ms ms;simp only [bA,List.length_append,List.length_cons]
  have:1≤(mvA m).length:=by
   match m with
   | none=>simp [mvA,clearA]
   | some (n,none)=>simp [mvA]
   | some (n,some k)=>simp [mvA,hangA]
  omega
end Go.Proofs.YtddkhnclmeikfaaGreat
