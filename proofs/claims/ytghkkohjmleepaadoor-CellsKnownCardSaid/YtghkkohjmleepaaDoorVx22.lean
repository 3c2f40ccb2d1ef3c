/-
  Says: An index for tables.
-/
import Derived.Test.YtghkkohjmleepaaDoorVx21
/-! An index for tables. -/
set_option linter.unusedVariables false
set_option linter.unusedSimpArgs false
namespace Go.Vx
open Go.RowKit

def hsh1 (x : Value) : Nat := match x with
  | .int _ (.ofNat m) => m
  | .int _ (.negSucc m) => Nat.add m 77
  | _ => 0
noncomputable def hshL (l : List Value) : Nat := List.rec (motive := fun _ => Nat) 5 (fun x _ ih => Nat.add (Nat.mul ih 31) (hsh1 x)) l
noncomputable def hshv (x : Value) : Nat := match x with
  | .agg a => hshL a.toList
  | z => hsh1 z
noncomputable def hshA (l : List Value) : Nat := List.rec (motive := fun _ => Nat) 0 (fun x _ ih => Nat.add (Nat.mul ih 1009) (hshv x)) l
noncomputable def hsh (f : Nat) (args : List Value) : Nat := Nat.mod (Nat.add (hshA args) (Nat.mul f 37)) 1024
abbrev Ent := Nat × List Value × Value
noncomputable def inBucket (f : Nat) (args : List Value) (l : List Ent) : Option Value :=
  List.rec (motive := fun _ => Option Value) none (fun e _ ih => Bool.rec (motive := fun _ => Option Value) ih (some e.2.2) (Nat.beq e.1 f && eqA e.2.1 args)) l
noncomputable def findI (t : T (List Ent)) (f : Nat) (args : List Value) : Option Value :=
  Option.rec (motive := fun _ => Option Value) none (fun l => inBucket f args l) (t.get (hsh f args))
noncomputable def allI (p : Ent → Bool) (t : T (List Ent)) : Bool :=
  T.rec (motive := fun _ => Bool) true (fun v _ _ il ir => Option.rec (motive := fun _ => Bool) true (fun l => l.all p) v && (il && ir)) t
def isIn (tabs : List (Nat × List (List Value × Value))) (e : Ent) : Bool := match findF e.1 e.2.1 tabs with
  | some v => eqw v e.2.2
  | none => false

theorem inBucket_mem {f : Nat} {args : List Value} {v : Value} : ∀ {l : List Ent}, inBucket f args l = some v → (f, args, v) ∈ l
  | [], h => by cases h
  | e :: l, h => by
    change Bool.rec (motive := fun _ => Option Value) (inBucket f args l) (some e.2.2) (Nat.beq e.1 f && eqA e.2.1 args) = _ at h
    cases hb : (Nat.beq e.1 f && eqA e.2.1 args) with
    | false => rw [hb] at h; exact List.mem_cons_of_mem _ (inBucket_mem h)
    | true =>
      rw [hb] at h
      simp only [Bool.and_eq_true] at hb
      have h1 := Nat.eq_of_beq_eq_true hb.1
      have h2 := eqA_eq hb.2
      have h3 : e.2.2 = v := Option.some.inj h
      obtain ⟨a, b, c⟩ := e
      simp only at h1 h2 h3
      subst h1 h2 h3
      exact List.mem_cons_self

theorem allI_get {p : Ent → Bool} : ∀ {t : T (List Ent)}, allI p t = true → ∀ i l, t.get i = some l → ∀ e ∈ l, p e = true := by
  intro t
  induction t with
  | nil => intro _ i l h; cases h
  | node v a b iha ihb =>
    intro h i l hg e he
    change (Option.rec (motive := fun _ => Bool) true (fun l => l.all p) v && (allI p a && allI p b)) = true at h
    simp only [Bool.and_eq_true] at h
    obtain ⟨h1, h2, h3⟩ := h
    change Bool.rec (motive := fun _ => Option (List Ent)) (Bool.rec (motive := fun _ => Option (List Ent)) (b.get (i / 2 - 1)) (a.get (i / 2)) (Nat.beq (i % 2) 1)) v (Nat.beq i 0) = some l at hg
    cases h0 : Nat.beq i 0 with
    | true =>
      rw [h0] at hg
      have hv : v = some l := hg
      rw [hv] at h1
      exact List.all_eq_true.1 h1 e he
    | false =>
      rw [h0] at hg
      cases hm : Nat.beq (i % 2) 1 with
      | true => rw [hm] at hg; exact iha h2 _ _ hg e he
      | false => rw [hm] at hg; exact ihb h3 _ _ hg e he

section
variable {P : Program} {G : VW}
theorem orcI_of (hT : Tabs P G) {tabs : List (Nat × List (List Value × Value))} (h : Holds P G tabs) {t : T (List Ent)} (ht : allI (isIn tabs) t = true) : OrcOk P G (findI t) := by
  intro f args v hf V
  unfold findI at hf
  cases hg : t.get (hsh f args) with
  | none => rw [hg] at hf; cases hf
  | some l =>
    rw [hg] at hf
    have hm := inBucket_mem (show inBucket f args l = some v from hf)
    have hi := allI_get ht _ _ hg _ hm
    unfold isIn at hi
    split at hi
    · rename_i u hu
      have := eqw_eq hi
      simp only at this hu
      subst this
      obtain ⟨tb, h1, h2⟩ := findF_mem hu
      obtain ⟨k1, k2, k3⟩ := Holds.all h _ h1 _ h2
      exact k1.call hT k2 k3 V
    · cases hi
end
end Go.Vx
