/-
  Says: lives holds; what W.Of gives for a class.
-/
import Derived.Test.YtaacmbmnlhoghaaDoorKP1
import Derived.KernelRfl
set_option maxRecDepth 1000000
set_option linter.unusedVariables false
set_option linter.unusedSimpArgs false
namespace Go.Proofs.YtaacmbmnlhoghaaDoor
open Go Go.Vx
attribute [local instance] anyKeeps

section
attribute [local instance] anySyms
theorem lives_run (t : Nat → TypeId) : allL (entOk Tryd.prog (noOrc (tabG t)) (tabG t)) [(14, [], vt)] = true := by kernel_rfl
theorem k14 (t : Nat → TypeId) : Known Tryd.prog (tabG t) 14 [] vt := (ents_of (tabs_G t) (size_V t) (floor_V t) (nothing_known (base_G t)) (lives_run t) (14, [], vt) (List.mem_singleton.2 rfl)).1
end
theorem of_cls (t : Nat → TypeId) (a b W H : Int) (h_a : 0 ≤ a ∧ a ≤ 255) (h_b : 0 ≤ b ∧ b ≤ 255) (hw : 1 + a % 5 = W) (hh : 1 + b % 5 = H) : Known Tryd.prog (tabG t) 8 [.agg ⟨[.int .u8 a, .int .u8 b]⟩] (.agg ⟨[.int .i64 W, .int .i64 H]⟩) := by
  have h := s8 t a b h_a h_b
  have e1 : ∀ x : Int, 0 ≤ x → x ≤ 255 → wrapF .i64 (Int.add 1 (wrapF .i64 (x % 5))) = 1 + x % 5 := fun x h1 h2 => by
    rw [wid_i64 (n := x % 5) (by omega) (by omega)]
    exact wid_i64 (n := 1 + x % 5) (by omega) (by omega)
  unfold F8 at h
  rw [e1 a h_a.1 h_a.2, e1 b h_b.1 h_b.2, hw, hh] at h
  exact h
noncomputable def QL (t : Nat → TypeId) : Orc := valOrc (fun _ => false) (tabG t) (orAns (fnAns 15 A15) (orAns (fnAns 16 A16) (orAns (fnAns 17 A17) (ansT [(14, [], vt)]))))
theorem ansT_ok (t : Nat → TypeId) [Syms] : AnsOk Tryd.prog (tabG t) (ansT [(14, [], vt)]) := fun f args v h V => by
  have hm := ansT_mem h
  obtain ⟨rfl, rfl, rfl⟩ : f = 14 ∧ args = [] ∧ v = vt := by simpa using hm
  exact (k14 t).call (tabs_G t) rfl rfl V
theorem QL_ok (t : Nat → TypeId) [Syms] : OrcOk Tryd.prog (tabG t) (QL t) := valOrc_ok (base_G t) ((a15 t).or ((a16 t).or ((a17 t).or (ansT_ok t))))
/-- The law at a sheet, a number, an edge. -/
noncomputable def lawAt (t : Nat → TypeId) (W H j : Nat) : Bool := isVal vt (@run (tabPrims [] []) Tryd.prog (orElse (valOrc (fun _ => false) (tabG t) (ansT [(8, [va [vy 0, vy 1]], va [vi W, vi H])])) (QL t)) 1000000 (.call 4 [va [vy 0, vy 1], vi (Nat.div j 3), vu (Nat.mod j 3)] (tabG t)))

end Go.Proofs.YtaacmbmnlhoghaaDoor
