/-
  Says: Calls that are handed rows, as entries.
-/
import Derived.Test.YtdnekeegpenioaaDoorVx25
set_option linter.unusedVariables false
set_option linter.unusedSimpArgs false
set_option linter.unusedSectionVars false
/-! Calls that are handed rows, as entries. -/
namespace Go.Vx
variable [Syms]
variable [Keeps]
open Go.RowKit

/-- A row that is handed in, or brought. -/
structure RowD where
  cells : List Value
  ty : TypeId
/-- A call and what it answers: blocks from N on are the rows handed in, behind them the new ones. -/
structure DeepE where
  f : Nat
  args : List Value
  rows : List RowD
  val : Value
  new : List RowD

/-! ### Other names for blocks -/
/-- The value c, whose blocks from N on are names for those of a list. -/
inductive LR (N : Nat) (l : List Nat) : Value → Value → Prop where
  | atom {v : Value} (h : atom v = true) : LR N l v v
  | sym {i : Nat} : LR N l (.chan (some i)) (.chan (some i))
  | sl {j b o n c : Nat} (h : l[j]? = some b) : LR N l (.slice (some ⟨N + j, o, none⟩) n c) (.slice (some ⟨b, o, none⟩) n c)
  | slG {b o n c : Nat} (h : b < N) : LR N l (.slice (some ⟨b, o, none⟩) n c) (.slice (some ⟨b, o, none⟩) n c)
  | ptr {j b o : Nat} (h : l[j]? = some b) : LR N l (.pointer (some ⟨N + j, o, none⟩)) (.pointer (some ⟨b, o, none⟩))
  | ptrG {b o : Nat} (h : b < N) : LR N l (.pointer (some ⟨b, o, none⟩)) (.pointer (some ⟨b, o, none⟩))
/-- Lists of such. -/
inductive LRs (N : Nat) (l : List Nat) : List Value → List Value → Prop where
  | nil : LRs N l [] []
  | cons {x y : Value} {a b : List Value} (h : LR N l x y) (t : LRs N l a b) : LRs N l (x :: a) (y :: b)
inductive LA (N : Nat) (l : List Nat) : Value → Value → Prop where
  | leaf {x y : Value} (h : LR N l x y) : LA N l x y
  | agg {a b : List Value} (h : LRs N l a b) : LA N l (.agg ⟨a⟩) (.agg ⟨b⟩)
inductive LAs (N : Nat) (l : List Nat) : List Value → List Value → Prop where
  | nil : LAs N l [] []
  | cons {x y : Value} {a b : List Value} (h : LA N l x y) (t : LAs N l a b) : LAs N l (x :: a) (y :: b)
inductive LV (N : Nat) (l : List Nat) : Value → Value → Prop where
  | one {x y : Value} (h : LA N l x y) : LV N l x y
  | tuple {a b : List Value} (h : LAs N l a b) : LV N l (.tuple ⟨a⟩) (.tuple ⟨b⟩)

/-- A block's name. -/
noncomputable def nmB (N : Nat) (l : List Nat) (x b : Nat) : Bool := match Nat.blt x N with
  | true => Nat.beq x b
  | false => match nthL l (Nat.sub x N) with
    | some b' => Nat.beq b' b
    | none => false
noncomputable def atomB (x y : Value) : Bool := match x with
  | .int .. => eq1 x y
  | .bool _ => eq1 x y
  | .string _ => eq1 x y
  | .chan (some _) => eq1 x y
  | .slice none _ _ => eq1 x y
  | .nilFunc => match y with | .nilFunc => true | _ => false
  | .nilIface => match y with | .nilIface => true | _ => false
  | .pointer none => match y with | .pointer none => true | _ => false
  | .map none => match y with | .map none => true | _ => false
  | .func (.func g) ⟨[]⟩ ⟨[]⟩ => match y with | .func (.func g') ⟨[]⟩ ⟨[]⟩ => Nat.beq g g' | _ => false
  | _ => false
noncomputable def lrB (N : Nat) (l : List Nat) (x y : Value) : Bool := match x with
  | .slice (some ⟨a, o, none⟩) n c => (match y with
    | .slice (some ⟨b, o', none⟩) n' c' => Nat.beq n n' && (Nat.beq c c' && (Nat.beq o o' && nmB N l a b))
    | _ => false)
  | .pointer (some ⟨a, o, none⟩) => (match y with
    | .pointer (some ⟨b, o', none⟩) => Nat.beq o o' && nmB N l a b
    | _ => false)
  | x => atomB x y
noncomputable def lrsB (N : Nat) (l : List Nat) : List Value → List Value → Bool
  | [], [] => true
  | x :: a, y :: b => lrB N l x y && lrsB N l a b
  | _, _ => false
noncomputable def laB (N : Nat) (l : List Nat) (x y : Value) : Bool := match x with
  | .agg a => (match y with
    | .agg b => lrsB N l a.toList b.toList
    | _ => false)
  | x => lrB N l x y
noncomputable def lasB (N : Nat) (l : List Nat) : List Value → List Value → Bool
  | [], [] => true
  | x :: a, y :: b => laB N l x y && lasB N l a b
  | _, _ => false
noncomputable def lvB (N : Nat) (l : List Nat) (x y : Value) : Bool := match x with
  | .tuple a => (match y with
    | .tuple b => lasB N l a.toList b.toList
    | _ => false)
  | x => laB N l x y

theorem atomB_spec {N : Nat} {l : List Nat} {x y : Value} (h : atomB x y = true) : LR N l x y := by
  unfold atomB at h
  split at h
  · obtain rfl := eq1_eq h; exact .atom rfl
  · obtain rfl := eq1_eq h; exact .atom rfl
  · obtain rfl := eq1_eq h; exact .atom rfl
  · obtain rfl := eq1_eq h; exact .sym
  · obtain rfl := eq1_eq h; exact .atom rfl
  · split at h
    · exact .atom rfl
    · cases h
  · split at h
    · exact .atom rfl
    · cases h
  · split at h
    · exact .atom rfl
    · cases h
  · split at h
    · exact .atom rfl
    · cases h
  · split at h
    · rename_i g g'
      obtain rfl := Nat.eq_of_beq_eq_true h
      exact .atom rfl
    · cases h
  · cases h
theorem nmB_spec {N : Nat} {l : List Nat} {x b : Nat} (h : nmB N l x b = true) : (x < N ∧ x = b) ∨ ∃ j, x = N + j ∧ l[j]? = some b := by
  unfold nmB at h
  split at h
  · rename_i hb
    exact .inl ⟨blt_lt hb, Nat.eq_of_beq_eq_true h⟩
  · rename_i hb
    have hx : N ≤ x := by
      rcases Nat.lt_or_ge x N with k | k
      · rw [blt_tt k] at hb; cases hb
      · exact k
    split at h
    · rename_i b' hn
      rw [nthL_eq] at hn
      obtain rfl := Nat.eq_of_beq_eq_true h
      exact .inr ⟨x - N, by omega, hn⟩
    · cases h
theorem lrB_spec {N : Nat} {l : List Nat} {x y : Value} (h : lrB N l x y = true) : LR N l x y := by
  unfold lrB at h
  split at h
  · split at h
    · simp only [Bool.and_eq_true] at h
      obtain ⟨h1, h2, h3, h4⟩ := h
      obtain rfl := Nat.eq_of_beq_eq_true h1
      obtain rfl := Nat.eq_of_beq_eq_true h2
      obtain rfl := Nat.eq_of_beq_eq_true h3
      rcases nmB_spec h4 with ⟨k1, rfl⟩ | ⟨j, rfl, k⟩
      · exact .slG k1
      · exact .sl k
    · cases h
  · split at h
    · simp only [Bool.and_eq_true] at h
      obtain ⟨h3, h4⟩ := h
      obtain rfl := Nat.eq_of_beq_eq_true h3
      rcases nmB_spec h4 with ⟨k1, rfl⟩ | ⟨j, rfl, k⟩
      · exact .ptrG k1
      · exact .ptr k
    · cases h
  · exact atomB_spec h
theorem lrsB_spec {N : Nat} {l : List Nat} : ∀ {a b : List Value}, lrsB N l a b = true → LRs N l a b
  | [], [], _ => .nil
  | x :: a, y :: b, h => by
    unfold lrsB at h
    simp only [Bool.and_eq_true] at h
    exact .cons (lrB_spec h.1) (lrsB_spec h.2)
  | [], _ :: _, h => by cases h
  | _ :: _, [], h => by cases h
theorem laB_spec {N : Nat} {l : List Nat} {x y : Value} (h : laB N l x y = true) : LA N l x y := by
  unfold laB at h
  split at h
  · split at h
    · rename_i a _ b
      obtain ⟨a⟩ := a
      obtain ⟨b⟩ := b
      exact .agg (lrsB_spec h)
    · cases h
  · exact .leaf (lrB_spec h)
theorem lasB_spec {N : Nat} {l : List Nat} : ∀ {a b : List Value}, lasB N l a b = true → LAs N l a b
  | [], [], _ => .nil
  | x :: a, y :: b, h => by
    unfold lasB at h
    simp only [Bool.and_eq_true] at h
    exact .cons (laB_spec h.1) (lasB_spec h.2)
  | [], _ :: _, h => by cases h
  | _ :: _, [], h => by cases h
theorem lvB_spec {N : Nat} {l : List Nat} {x y : Value} (h : lvB N l x y = true) : LV N l x y := by
  unfold lvB at h
  split at h
  · split at h
    · rename_i a _ b
      obtain ⟨a⟩ := a
      obtain ⟨b⟩ := b
      exact .tuple (lasB_spec h)
    · cases h
  · exact .one (laB_spec h)

/-- What the names stand for. -/
def atN (N : Nat) (l : List Nat) (β : Nat → Ren) : Nat → Ren := fun y => if y < N then β y else match l[y - N]? with
  | some b => β b
  | none => .fresh
theorem atN_lo {N : Nat} {l : List Nat} {β : Nat → Ren} {y : Nat} (h : y < N) : atN N l β y = β y := if_pos h
theorem atN_hi {N : Nat} {l : List Nat} {β : Nat → Ren} {j b : Nat} (h : l[j]? = some b) : atN N l β (N + j) = β b := by
  unfold atN
  rw [if_neg (by omega), show N + j - N = j by omega, h]
theorem atN_out {N : Nat} {l : List Nat} {β : Nat → Ren} {j : Nat} (h : l[j]? = none) : atN N l β (N + j) = .fresh := by
  unfold atN
  rw [if_neg (by omega), show N + j - N = j by omega, h]

section
variable {N : Nat} {l : List Nat} {β : Nat → Ren}
theorem LR.down {x y v : Value} (h : LR N l x y) (hv : VR β y v) : VR (atN N l β) x v := by
  cases h with
  | atom ha => rw [hv.of_atom ha]; exact .atom ha
  | sym => cases hv with
    | atom h => simp [Vx.atom] at h
    | sym => exact .sym
  | sl h => cases hv with
    | atom h => simp [Vx.atom] at h
    | sl k hn hc => exact .sl ((atN_hi h).trans k) hn hc
    | slD k hn hc => exact .slD ((atN_hi h).trans k) hn hc
  | slG h => cases hv with
    | atom h => simp [Vx.atom] at h
    | sl k hn hc => exact .sl ((atN_lo h).trans k) hn hc
    | slD k hn hc => exact .slD ((atN_lo h).trans k) hn hc
  | ptr h => cases hv with
    | atom h => simp [Vx.atom] at h
    | ptr k => exact .ptr ((atN_hi h).trans k)
    | ptrD k => exact .ptrD ((atN_hi h).trans k)
  | ptrG h => cases hv with
    | atom h => simp [Vx.atom] at h
    | ptr k => exact .ptr ((atN_lo h).trans k)
    | ptrD k => exact .ptrD ((atN_lo h).trans k)
theorem LR.up {x y v : Value} (h : LR N l x y) (hv : VR (atN N l β) x v) : VR β y v := by
  cases h with
  | atom ha => rw [hv.of_atom ha]; exact .atom ha
  | sym => cases hv with
    | atom h => simp [Vx.atom] at h
    | sym => exact .sym
  | sl h => cases hv with
    | atom h => simp [Vx.atom] at h
    | sl k hn hc => exact .sl ((atN_hi h).symm.trans k) hn hc
    | slD k hn hc => exact .slD ((atN_hi h).symm.trans k) hn hc
  | slG h => cases hv with
    | atom h => simp [Vx.atom] at h
    | sl k hn hc => exact .sl ((atN_lo h).symm.trans k) hn hc
    | slD k hn hc => exact .slD ((atN_lo h).symm.trans k) hn hc
  | ptr h => cases hv with
    | atom h => simp [Vx.atom] at h
    | ptr k => exact .ptr ((atN_hi h).symm.trans k)
    | ptrD k => exact .ptrD ((atN_hi h).symm.trans k)
  | ptrG h => cases hv with
    | atom h => simp [Vx.atom] at h
    | ptr k => exact .ptr ((atN_lo h).symm.trans k)
    | ptrD k => exact .ptrD ((atN_lo h).symm.trans k)
theorem LRs.down {x y v : List Value} (h : LRs N l x y) (hv : VRs β y v) : VRs (atN N l β) x v := by
  induction h generalizing v with
  | nil => cases hv; exact .nil
  | cons h t ih => cases hv with
    | cons k m => exact .cons (h.down k) (ih m)
theorem LRs.up {x y v : List Value} (h : LRs N l x y) (hv : VRs (atN N l β) x v) : VRs β y v := by
  induction h generalizing v with
  | nil => cases hv; exact .nil
  | cons h t ih => cases hv with
    | cons k m => exact .cons (h.up k) (ih m)
theorem LA.down {x y v : Value} (h : LA N l x y) (hv : VR β y v) : VR (atN N l β) x v := by
  cases h with
  | leaf h => exact h.down hv
  | agg h => cases hv with
    | atom h => simp [Vx.atom] at h
    | agg k => exact .agg (h.down k)
theorem LA.up {x y v : Value} (h : LA N l x y) (hv : VR (atN N l β) x v) : VR β y v := by
  cases h with
  | leaf h => exact h.up hv
  | agg h => cases hv with
    | atom h => simp [Vx.atom] at h
    | agg k => exact .agg (h.up k)
theorem LAs.down {x y v : List Value} (h : LAs N l x y) (hv : VRs β y v) : VRs (atN N l β) x v := by
  induction h generalizing v with
  | nil => cases hv; exact .nil
  | cons h t ih => cases hv with
    | cons k m => exact .cons (h.down k) (ih m)
theorem LAs.up {x y v : List Value} (h : LAs N l x y) (hv : VRs (atN N l β) x v) : VRs β y v := by
  induction h generalizing v with
  | nil => cases hv; exact .nil
  | cons h t ih => cases hv with
    | cons k m => exact .cons (h.up k) (ih m)
theorem LV.down {x y v : Value} (h : LV N l x y) (hv : VR β y v) : VR (atN N l β) x v := by
  cases h with
  | one h => exact h.down hv
  | tuple h => cases hv with
    | atom h => simp [Vx.atom] at h
    | tuple k => exact .tuple (h.down k)
theorem LV.up {x y v : Value} (h : LV N l x y) (hv : VR (atN N l β) x v) : VR β y v := by
  cases h with
  | one h => exact h.up hv
  | tuple h => cases hv with
    | atom h => simp [Vx.atom] at h
    | tuple k => exact .tuple (h.up k)
end

/-! ### Which blocks a value names -/
noncomputable def hasB (b : Nat) (v : Value) : Bool := match v with
  | .slice (some ⟨a, _, none⟩) _ _ => Nat.beq a b
  | .pointer (some ⟨a, _, none⟩) => Nat.beq a b
  | _ => false
noncomputable def hasA (b : Nat) (v : Value) : Bool := match v with
  | .agg a => a.toList.any (hasB b)
  | v => hasB b v
noncomputable def hasV (b : Nat) (v : Value) : Bool := match v with
  | .tuple a => a.toList.any (hasA b)
  | v => hasA b v
def There (β : Nat → Ren) (b : Nat) : Prop := (∃ r cp sh, β b = .live r cp sh) ∨ β b = .dead
section
variable {β : Nat → Ren}
theorem hasB_spec {b : Nat} {v v' : Value} (h : hasB b v = true) (hv : VR β v v') : There β b := by
  unfold hasB at h
  split at h
  · obtain rfl := Nat.eq_of_beq_eq_true h
    cases hv with
    | atom h => simp [Vx.atom] at h
    | sl k _ _ => exact .inl ⟨_, _, _, k⟩
    | slD k _ _ => exact .inr k
  · obtain rfl := Nat.eq_of_beq_eq_true h
    cases hv with
    | atom h => simp [Vx.atom] at h
    | ptr k => exact .inl ⟨_, _, _, k⟩
    | ptrD k => exact .inr k
  · cases h
theorem VRs.of_any {p : Value → Bool} {b : Nat} (hp : ∀ {v v' : Value}, p v = true → VR β v v' → There β b) : ∀ {l l' : List Value}, l.any p = true → VRs β l l' → There β b
  | _, _, h, .nil => by cases h
  | _, _, h, .cons k m => by
    rw [List.any_cons, Bool.or_eq_true] at h
    rcases h with h | h
    · exact hp h k
    · exact VRs.of_any hp h m
theorem hasA_spec {b : Nat} {v v' : Value} (h : hasA b v = true) (hv : VR β v v') : There β b := by
  unfold hasA at h
  split at h
  · rename_i a
    obtain ⟨a⟩ := a
    cases hv with
    | atom h => simp [Vx.atom] at h
    | agg k => exact VRs.of_any hasB_spec h k
  · exact hasB_spec h hv
theorem hasV_spec {b : Nat} {v v' : Value} (h : hasV b v = true) (hv : VR β v v') : There β b := by
  unfold hasV at h
  split at h
  · rename_i a
    obtain ⟨a⟩ := a
    cases hv with
    | atom h => simp [Vx.atom] at h
    | tuple k => exact VRs.of_any hasA_spec h k
  · exact hasA_spec h hv
end

/-! ### Rows on a heap -/
noncomputable def pushRows (fz : Bool) (l : List RowD) : VW → VW := List.rec (motive := fun _ => VW → VW) (fun V => V) (fun r _ ih V => ih (V.push (.cells r.cells r.ty fz))) l
theorem pushRows_cons (fz : Bool) (r : RowD) (l : List RowD) (V : VW) : pushRows fz (r :: l) V = pushRows fz l (V.push (.cells r.cells r.ty fz)) := rfl
theorem pushRows_size (fz : Bool) : ∀ (l : List RowD) (V : VW), (pushRows fz l V).size = V.size + l.length
  | [], V => rfl
  | r :: l, V => by rw [pushRows_cons, pushRows_size fz l, VW.size_push]; simp; omega
theorem pushRows_floor (fz : Bool) : ∀ (l : List RowD) (V : VW), (pushRows fz l V).floor = V.floor
  | [], V => rfl
  | r :: l, V => by rw [pushRows_cons, pushRows_floor fz l]; rfl
theorem pushRows_get (fz : Bool) : ∀ (l : List RowD) (V : VW), V.size + l.length ≤ top → ∀ i, (pushRows fz l V).heap.get i = if i < V.size then V.heap.get i else match l[i - V.size]? with
    | some r => some (.cells r.cells r.ty fz)
    | none => V.heap.get i
  | [], V, _, i => by simp [pushRows]
  | r :: l, V, h, i => by
    simp only [List.length_cons] at h
    rw [pushRows_cons, pushRows_get fz l _ (by rw [VW.size_push]; omega) i, VW.size_push, VW.get_push (by omega)]
    by_cases h1 : i < V.size
    · rw [if_pos (by omega), if_pos h1, if_neg (by omega)]
    · rw [if_neg h1]
      by_cases h2 : i = V.size
      · subst h2
        rw [if_pos (by omega), if_pos rfl]
        simp
      · rw [if_neg (by omega), show i - V.size = (i - (V.size + 1)) + 1 by omega]
        simp only [List.getElem?_cons_succ]
        split
        · rfl
        · rw [if_neg h2]

/-- A block holds a row. -/
noncomputable def rowAt (V : VW) (b : Nat) (r : RowD) : Bool := match V.heap.get b with
  | some (.cells c t _) => Nat.beq t r.ty && eqA r.cells c
  | some (.grow rc _ t) => Nat.beq t r.ty && eqA r.cells (revOn rc [])
  | _ => false
noncomputable def rowsAt (V : VW) (l : List Nat) (rs : List RowD) : Bool :=
  List.rec (motive := fun _ => List Nat → Bool) (fun l => match l with | [] => true | _ => false)
    (fun r _ ih l => match l with | b :: t => rowAt V b r && ih t | [] => false) rs l
theorem rowAt_spec {P : Program} {V : VW} {b : Nat} {r : RowD} (h : rowAt V b r = true) : ∃ ob, V.heap.get b = some ob ∧ ob ≠ .dfr true ∧ ∀ {β : Nat → Ren} {cp sh : Nat} {o' : Obj}, ObjR P β cp sh ob o' → ∃ fz, ObjR P β cp sh (.cells r.cells r.ty fz) o' := by
  unfold rowAt at h
  split at h
  · rename_i c t fz hg
    simp only [Bool.and_eq_true] at h
    obtain ⟨k2, k3⟩ := h
    have k2 := Nat.eq_of_beq_eq_true k2
    have k3 := eqA_eq k3
    subst k2 k3
    exact ⟨_, hg, nofun, fun h => ⟨_, h⟩⟩
  · rename_i rc n t hg
    simp only [Bool.and_eq_true] at h
    obtain ⟨k2, k3⟩ := h
    have k2 := Nat.eq_of_beq_eq_true k2
    have k3 := eqA_eq k3
    rw [revOn_eq, List.append_nil] at k3
    refine ⟨_, hg, nofun, fun h => ⟨false, ?_⟩⟩
    rw [k3, ← k2]
    exact h.grow'.2
  · cases h
theorem rowsAt_spec {V : VW} : ∀ {rs : List RowD} {l : List Nat}, rowsAt V l rs = true → l.length = rs.length ∧ ∀ (j b : Nat) (r : RowD), l[j]? = some b → rs[j]? = some r → rowAt V b r = true
  | [], [], _ => ⟨rfl, fun j b r h => by simp at h⟩
  | [], _ :: _, h => by cases h
  | _ :: _, [], h => by cases h
  | r :: rs, b :: l, h => by
    change (rowAt V b r && rowsAt V l rs) = true at h
    simp only [Bool.and_eq_true] at h
    obtain ⟨h1, h2⟩ := rowsAt_spec h.2
    refine ⟨by simp [h1], fun j b' r' g1 g2 => ?_⟩
    cases j with
    | zero => simp only [List.getElem?_cons_zero, Option.some.injEq] at g1 g2; subst g1 g2; exact h.1
    | succ j => simp only [List.getElem?_cons_succ] at g1 g2; exact h2 j b' r' g1 g2
/-- No two are the same, all from N on. -/
noncomputable def aloneB (N : Nat) : List Nat → Bool
  | [] => true
  | b :: l => Nat.ble N b && (l.all (fun x => !Nat.beq x b) && aloneB N l)
theorem aloneB_spec {N : Nat} : ∀ {l : List Nat}, aloneB N l = true → (∀ (j b : Nat), l[j]? = some b → N ≤ b) ∧ ∀ (i j b : Nat), l[i]? = some b → l[j]? = some b → i = j
  | [], _ => ⟨fun j b h => by simp at h, fun i j b h => by simp at h⟩
  | x :: l, h => by
    unfold aloneB at h
    simp only [Bool.and_eq_true] at h
    obtain ⟨h1, h2, h3⟩ := h
    obtain ⟨k1, k2⟩ := aloneB_spec h3
    have hx : ∀ (j : Nat), l[j]? ≠ some x := fun j hj => by
      have := List.all_eq_true.1 h2 x (List.mem_of_getElem? hj)
      simp at this
    refine ⟨fun j b hb => ?_, fun i j b hi hj => ?_⟩
    · cases j with
      | zero => simp only [List.getElem?_cons_zero, Option.some.injEq] at hb; subst hb; exact Nat.le_of_ble_eq_true h1
      | succ j => exact k1 j b (by simpa using hb)
    · cases i with
      | zero =>
        simp only [List.getElem?_cons_zero, Option.some.injEq] at hi; subst hi
        cases j with
        | zero => rfl
        | succ j => exact absurd (by simpa using hj) (hx j)
      | succ i =>
        cases j with
        | zero => simp only [List.getElem?_cons_zero, Option.some.injEq] at hj; subst hj; exact absurd (by simpa using hi) (hx i)
        | succ j => rw [k2 i j b (by simpa using hi) (by simpa using hj)]

/-! ### What such an entry says -/
section
variable {P : Program} {G : VW}
structure SBox where
  s : Syms
/-- A call that is handed rows comes back with a value and new rows, and turns nothing that is there. -/
def KnownD (P : Program) (G : VW) (e : DeepE) : Prop :=
  ∀ (S : SBox) (w : World), Lies P G w → ∀ (β : Nat → Ren), (∀ g, g < P.globals.size → β g = .live g 0 0) → (∀ y, P.globals.size + e.rows.length ≤ y → β y = .fresh) →
    (∀ j r, e.rows[j]? = some r → ∃ b cp sh fz o', β (P.globals.size + j) = .live b cp sh ∧ w.heap[b]? = some o' ∧ @ObjR S.s P (fun _ => .fresh) cp sh (.cells r.cells r.ty fz) o') →
    (∀ i j b cp sh cp' sh', β i = .live b cp sh → β j = .live b cp' sh' → i = j) →
    ∀ args', @VRs S.s.toVals β e.args args' → ∀ cs, ∃ w' fr v' β', Steps P (lone (Frame.enter P e.f ⟨args'⟩ .normal) cs w) (lone fr cs w') ∧ fr.fn = e.f ∧ fr.leaving P w' (.returned v') ∧ Below w.heap.size w w' ∧
      (∀ y, y < P.globals.size + e.rows.length → β' y = β y) ∧ (∀ y, P.globals.size + e.rows.length + e.new.length ≤ y → β' y = .fresh) ∧
      (∀ i r, e.new[i]? = some r → ∃ b cp sh o', β' (P.globals.size + e.rows.length + i) = .live b cp sh ∧ w.heap.size ≤ b ∧ w'.heap[b]? = some o' ∧ ∀ S' : SBox, @ObjR S'.s P (fun _ => .fresh) cp sh (.cells r.cells r.ty false) o') ∧
      (∀ i j b cp sh cp' sh', i < e.new.length → j < e.new.length → β' (P.globals.size + e.rows.length + i) = .live b cp sh → β' (P.globals.size + e.rows.length + j) = .live b cp' sh' → i = j) ∧
      ∀ S' : SBox, @VR S'.s.toVals β' e.val v'

/-- New rows are there. -/
theorem push_new {B : Base} {β' : Nat → Ren} {K : Nat} {w0 w' : World} (hw : B.w0.heap.size ≤ w0.heap.size) (hp : ∀ b, B.prot b → b < w0.heap.size) :
    ∀ (rs : List RowD) (β : Nat → Ren) (V : VW) (k : Nat), WR P B β V w' → V.size + rs.length ≤ top →
      (∀ i b cp sh, β i = .live b cp sh → b < w0.heap.size ∨ ∃ j < k, ∃ cp' sh', β' (K + j) = .live b cp' sh') →
      (∀ i r, rs[i]? = some r → ∃ b cp sh o', β' (K + (k + i)) = .live b cp sh ∧ w0.heap.size ≤ b ∧ w'.heap[b]? = some o' ∧ ∀ S' : SBox, @ObjR S'.s P (fun _ => .fresh) cp sh (.cells r.cells r.ty false) o') →
      (∀ i j b cp sh cp' sh', i < k + rs.length → j < k + rs.length → β' (K + i) = .live b cp sh → β' (K + j) = .live b cp' sh' → i = j) →
      ∃ β2, Ext β β2 ∧ WR P B β2 (pushRows false rs V) w' ∧ (∀ y, y < V.size → β2 y = β y) ∧ ∀ i, i < rs.length → β2 (V.size + i) = β' (K + (k + i))
  | [], β, V, k, hW, _, _, _, _ => ⟨β, .refl _, hW, fun _ _ => rfl, fun i hi => by simp at hi⟩
  | r :: rs, β, V, k, hW, ht, hlo, hr, hi => by
    simp only [List.length_cons] at ht hi
    obtain ⟨b, cp, sh, o', h1, h2, h3, h4⟩ := hr 0 r rfl
    rw [Nat.add_zero] at h1
    have hx : Ext (fun _ => Ren.fresh) β := ⟨fun j b cp sh e => by (cases e), fun j e => by (cases e)⟩
    obtain ⟨g1, g2⟩ := hW.attach (by omega) h3 ⟨Nat.le_trans hw h2, fun hpb => absurd (hp b hpb) (by omega)⟩ (fun i cp' sh' hl => by
      rcases hlo i b cp' sh' hl with k1 | ⟨j, k1, c2, s2, k2⟩
      · omega
      · have := hi j k b _ _ _ _ (by omega) (by omega) k2 h1
        omega) cp sh ((h4 ⟨‹Syms›⟩).mono hx)
    rw [putObj_self h3] at g1
    obtain ⟨β2, e1, e2, e3, e4⟩ := push_new hw hp rs _ (V.push (.cells r.cells r.ty false)) (k + 1) g1 (by rw [VW.size_push]; omega) (fun i b' cp' sh' hl => by
        by_cases hiv : i = V.size
        · subst hiv
          rw [upd_same] at hl
          cases hl
          exact .inr ⟨k, by omega, _, _, h1⟩
        · rw [upd_ne _ _ hiv] at hl
          rcases hlo i b' cp' sh' hl with k1 | ⟨j, k1, c2, s2, k2⟩
          · exact .inl k1
          · exact .inr ⟨j, by omega, c2, s2, k2⟩)
      (fun i r' hr' => by
        obtain ⟨b', cp', sh', o2, q1, q2⟩ := hr (i + 1) r' (by simpa using hr')
        exact ⟨b', cp', sh', o2, by rw [← q1]; congr 1; omega, q2⟩)
      (fun i j b' c1 s1 c2 s2 q1 q2 => hi i j b' c1 s1 c2 s2 (by omega) (by omega))
    refine ⟨β2, g2.trans e1, e2, fun y hy => ?_, fun i hi' => ?_⟩
    · rw [e3 y (by rw [VW.size_push]; omega), upd_ne _ _ (by omega)]
    · cases i with
      | zero => rw [Nat.add_zero, e3 _ (by rw [VW.size_push]; omega), upd_same, Nat.add_zero, h1]
      | succ i =>
        have := e4 i (by simp at hi'; omega)
        rw [VW.size_push] at this
        rw [show V.size + (i + 1) = V.size + 1 + i by omega, this]
        congr 1
        omega

/-- The numbers of new blocks. -/
noncomputable def upto (a : Nat) : Nat → List Nat
  | 0 => []
  | n + 1 => a :: upto (a + 1) n
theorem upto_len : ∀ (n a : Nat), (upto a n).length = n
  | 0, a => rfl
  | n + 1, a => by simp [upto, upto_len n]
theorem upto_get : ∀ (n a i : Nat), i < n → (upto a n)[i]? = some (a + i)
  | n + 1, a, 0, _ => rfl
  | n + 1, a, i + 1, h => by
    show (upto (a + 1) n)[i]? = _
    rw [upto_get n (a + 1) i (by omega)]
    congr 1; omega

/-- An entry fits a call, its rows lie at these blocks; what comes back. -/
noncomputable def fitD (P : Program) (l : List Nat) (args : List Value) (V : VW) (e : DeepE) (v : Value) : Bool :=
  (lasB P.globals.size l e.args args && rowsAt V l e.rows) && ((aloneB P.globals.size l && l.all (fun b => args.any (hasA b))) && (Nat.ble (V.size + e.new.length) top && lvB P.globals.size (l ++ upto V.size e.new.length) e.val v))

theorem atN_inv {N : Nat} {l : List Nat} {β : Nat → Ren} {i b cp sh : Nat} (h : atN N l β i = .live b cp sh) : (i < N ∧ β i = .live b cp sh) ∨ ∃ k b', i = N + k ∧ l[k]? = some b' ∧ β b' = .live b cp sh := by
  by_cases hi : i < N
  · exact .inl ⟨hi, by rwa [atN_lo hi] at h⟩
  · unfold atN at h
    rw [if_neg hi] at h
    cases hl : l[i - N]? with
    | none => rw [hl] at h; cases h
    | some b' => rw [hl] at h; exact .inr ⟨i - N, b', by omega, hl, h⟩
theorem VRs.frozen {β β' : Nat → Ren} {l l' : List Value} (h : VRs β l l') (ha : l.all Vx.atom = true) : VRs β' l l' := by
  rw [h.of_atoms ha]
  exact VRs.atoms ha

def DeepOk (P : Program) (G : VW) (e : DeepE) : Prop := KnownD P G e ∧ e.rows.all (fun r => r.cells.all atom) = true

theorem KnownD.call (hT : Tabs P G) {e : DeepE} (hk : DeepOk P G e) {l : List Nat} {args : List Value} {V : VW} {v : Value} (hf : fitD P l args V e v = true) : CallOk P G (.val v (pushRows false e.new V)) e.f args V := by
  intro v1 V1 he B β w args' hB hW hA _ cs
  cases he
  obtain ⟨h, hat⟩ := hk
  unfold fitD at hf
  simp only [Bool.and_eq_true] at hf
  obtain ⟨⟨f1, f2⟩, ⟨f3, f4⟩, f5, f6⟩ := hf
  have f5 := Nat.le_of_ble_eq_true f5
  obtain ⟨r1, r2⟩ := rowsAt_spec f2
  obtain ⟨a1, a2⟩ := aloneB_spec f3
  -- the rows handed in are there
  have hl : ∀ j b, l[j]? = some b → ∃ r cp sh, β b = .live r cp sh := fun j b hj => by
    have hb : args.any (hasA b) = true := List.all_eq_true.1 f4 b (List.mem_of_getElem? hj)
    rcases VRs.of_any hasA_spec hb hA with k | k
    · exact k
    · have hlt : j < e.rows.length := by rw [← r1]; exact (List.getElem?_eq_some_iff.1 hj).1
      obtain ⟨ob, q1, q2, _⟩ := rowAt_spec (P := P) (r2 j b _ hj (List.getElem?_eq_getElem hlt))
      have := hW.dead b k
      rw [q1] at this
      exact absurd (Option.some.inj this) q2
  obtain ⟨w', fr, v', β', s1, s2, s3, s4, s5, s5', s6, s7, s8⟩ := h ⟨‹Syms›⟩ w (lies_of hT hB hW) (atN P.globals.size l β) (fun g hg => by rw [atN_lo hg]; exact hW.glob g hg)
    (fun y hy => by
      have : l[y - P.globals.size]? = none := List.getElem?_eq_none (by omega)
      have h2 := atN_out (N := P.globals.size) (β := β) this
      rwa [show P.globals.size + (y - P.globals.size) = y by omega] at h2)
    (fun j r hj => by
      have hlt : j < l.length := by rw [r1]; exact (List.getElem?_eq_some_iff.1 hj).1
      have hlj := List.getElem?_eq_getElem hlt
      obtain ⟨ob, q1, q2, q3⟩ := rowAt_spec (P := P) (r2 j _ r hlj hj)
      obtain ⟨rb, cp, sh, hlive⟩ := hl j _ hlj
      obtain ⟨o, o', p1, p2, p3⟩ := hW.obj _ _ _ _ hlive
      rw [q1] at p1
      cases p1
      obtain ⟨fz, hobj⟩ := q3 p3
      refine ⟨rb, cp, sh, fz, o', (atN_hi hlj).trans hlive, p2, ?_⟩
      obtain ⟨pre, mid, post, frz, rfl, hp, hr, hcap, hfz⟩ := hobj.inv
      exact .cells hp (hr.frozen (List.all_eq_true.1 hat r (List.mem_of_getElem? hj))) hcap hfz)
    (fun i j b cp sh cp' sh' hi hj => by
      rcases atN_inv hi with ⟨i1, i2⟩ | ⟨k, b1, rfl, k2, k3⟩
      · rcases atN_inv hj with ⟨j1, j2⟩ | ⟨m, b2, rfl, m2, m3⟩
        · exact hW.inj _ _ _ _ _ _ _ i2 j2
        · have := hW.inj _ _ _ _ _ _ _ i2 m3
          have := a1 _ _ m2
          omega
      · rcases atN_inv hj with ⟨j1, j2⟩ | ⟨m, b2, rfl, m2, m3⟩
        · have := hW.inj _ _ _ _ _ _ _ j2 k3
          have := a1 _ _ k2
          omega
        · obtain rfl := hW.inj _ _ _ _ _ _ _ k3 m3
          rw [a2 _ _ _ k2 m2]) args' ((lasB_spec f1).down hA) cs
  have hlow : ∀ i b cp sh, β i = .live b cp sh → b < w.heap.size := fun i b cp sh hi => by
    obtain ⟨o, o', _, p2, _⟩ := hW.obj _ _ _ _ hi
    exact block_lt p2
  obtain ⟨β2, t1, t2, t3, t4⟩ := push_new (K := P.globals.size + e.rows.length) hW.base.size (fun b hb => (hW.kept b hb).1) e.new β V 0 (hW.later s4) f5
    (fun i b cp sh hi => .inl (hlow i b cp sh hi)) (fun i r hr => by rw [Nat.zero_add]; exact s6 i r hr) (fun i j b c1 z1 c2 z2 hi hj => s7 i j b c1 z1 c2 z2 (by omega) (by omega))
  have hgs : P.globals.size ≤ V.size := Nat.le_trans hW.gfl hW.gsz
  have heq : atN P.globals.size (l ++ upto V.size e.new.length) β2 = β' := by
    funext y
    by_cases hy : y < P.globals.size
    · rw [atN_lo hy, t3 y (by omega), s5 y (by omega), atN_lo hy]
    · obtain ⟨j, rfl⟩ : ∃ j, y = P.globals.size + j := ⟨y - P.globals.size, by omega⟩
      by_cases hj : j < l.length
      · have hlj := List.getElem?_eq_getElem hj
        obtain ⟨rb, cp, sh, hlive⟩ := hl j _ hlj
        rw [atN_hi (b := l[j]) (by rw [List.getElem?_append_left hj]; exact hlj), t3 _ (hW.lt hlive), s5 _ (by omega), atN_hi hlj]
      · by_cases hj2 : j < l.length + e.new.length
        · rw [atN_hi (b := V.size + (j - l.length)) (by rw [List.getElem?_append_right (by omega)]; exact upto_get _ _ _ (by omega)), t4 _ (by omega)]
          congr 1
          omega
        · rw [atN_out (by rw [List.getElem?_append_right (by omega)]; exact List.getElem?_eq_none (by rw [upto_len]; omega)), s5' _ (by omega)]
  refine ⟨β2, v', w', fr, t1, t2, (lvB_spec f6).up ?_, s1, s2, s3⟩
  rw [heq]
  exact s8 ⟨‹Syms›⟩

/-! ### Entries by runs -/
noncomputable def noSymL (v : Value) : Bool := match v with
  | .chan (some _) => false
  | _ => true
noncomputable def noSymA (v : Value) : Bool := match v with
  | .agg a => a.toList.all noSymL
  | v => noSymL v
noncomputable def noSymV (v : Value) : Bool := match v with
  | .tuple a => a.toList.all noSymA
  | v => noSymA v
theorem LR.swap {N : Nat} {l : List Nat} {x y v : Value} {β : Nat → Ren} {S S' : Syms} (h : LR N l x y) (hn : noSymL x = true) (hv : @VR S.toVals β x v) : @VR S'.toVals β x v := by
  cases h with
  | atom ha => rw [@VR.of_atom S.toVals β x v hv ha]; exact @VR.atom S'.toVals β x ha
  | sym => simp [noSymL] at hn
  | sl h => cases hv with
    | atom h => simp [Vx.atom] at h
    | sl k hn hc => exact @VR.sl S'.toVals _ _ _ _ _ _ _ _ k hn hc
    | slD k hn hc => exact @VR.slD S'.toVals _ _ _ _ _ _ _ k hn hc
  | slG h => cases hv with
    | atom h => simp [Vx.atom] at h
    | sl k hn hc => exact @VR.sl S'.toVals _ _ _ _ _ _ _ _ k hn hc
    | slD k hn hc => exact @VR.slD S'.toVals _ _ _ _ _ _ _ k hn hc
  | ptr h => cases hv with
    | atom h => simp [Vx.atom] at h
    | ptr k => exact @VR.ptr S'.toVals _ _ _ _ _ _ k
    | ptrD k => exact @VR.ptrD S'.toVals _ _ _ _ k
  | ptrG h => cases hv with
    | atom h => simp [Vx.atom] at h
    | ptr k => exact @VR.ptr S'.toVals _ _ _ _ _ _ k
    | ptrD k => exact @VR.ptrD S'.toVals _ _ _ _ k
theorem LRs.swap {N : Nat} {l : List Nat} {x y v : List Value} {β : Nat → Ren} {S S' : Syms} (h : LRs N l x y) (hn : x.all noSymL = true) (hv : @VRs S.toVals β x v) : @VRs S'.toVals β x v := by
  induction h generalizing v with
  | nil => cases hv; exact @VRs.nil S'.toVals β
  | cons h t ih =>
    simp only [List.all_cons, Bool.and_eq_true] at hn
    cases hv with
    | cons k m => exact @VRs.cons S'.toVals _ _ _ _ _ (h.swap (S := S) (S' := S') hn.1 k) (ih hn.2 m)
theorem LA.swap {N : Nat} {l : List Nat} {x y v : Value} {β : Nat → Ren} {S S' : Syms} (h : LA N l x y) (hn : noSymA x = true) (hv : @VR S.toVals β x v) : @VR S'.toVals β x v := by
  cases h with
  | leaf h =>
    refine h.swap (S := S) (S' := S') ?_ hv
    cases h <;> first | rfl | (simp [noSymA, noSymL] at hn; done) | skip
    rename_i ha
    cases x <;> first | rfl | (rename_i o; cases o <;> first | rfl | (simp [Vx.atom] at ha))
  | agg h => cases hv with
    | atom h => simp [Vx.atom] at h
    | agg k => exact @VR.agg S'.toVals _ _ _ (h.swap (S := S) (S' := S') hn k)
theorem LAs.swap {N : Nat} {l : List Nat} {x y v : List Value} {β : Nat → Ren} {S S' : Syms} (h : LAs N l x y) (hn : x.all noSymA = true) (hv : @VRs S.toVals β x v) : @VRs S'.toVals β x v := by
  induction h generalizing v with
  | nil => cases hv; exact @VRs.nil S'.toVals β
  | cons h t ih =>
    simp only [List.all_cons, Bool.and_eq_true] at hn
    cases hv with
    | cons k m => exact @VRs.cons S'.toVals _ _ _ _ _ (h.swap (S := S) (S' := S') hn.1 k) (ih hn.2 m)
theorem LV.swap {N : Nat} {l : List Nat} {x y v : Value} {β : Nat → Ren} {S S' : Syms} (h : LV N l x y) (hn : noSymV x = true) (hv : @VR S.toVals β x v) : @VR S'.toVals β x v := by
  cases h with
  | one h =>
    refine h.swap (S := S) (S' := S') ?_ hv
    cases x <;> first | exact hn | (cases h with | leaf h => cases h with | atom h => simp [Vx.atom] at h)
  | tuple h => cases hv with
    | atom h => simp [Vx.atom] at h
    | tuple k => exact @VR.tuple S'.toVals _ _ _ (h.swap (S := S) (S' := S') hn k)

/-- Where such a call starts. -/
noncomputable def baseD (P : Program) (G : VW) (e : DeepE) : VW := ⟨(pushRows true e.rows ⟨G.heap, P.globals.size, P.globals.size⟩).heap, P.globals.size + e.rows.length, P.globals.size + e.rows.length⟩
/-- The new blocks that a value names. -/
noncomputable def newL (K : Nat) (v : Value) (l : List Nat) : List Nat := match v with
  | .slice (some ⟨b, _, none⟩) _ _ => if Nat.ble K b && l.all (fun x => !Nat.beq x b) then l ++ [b] else l
  | .pointer (some ⟨b, _, none⟩) => if Nat.ble K b && l.all (fun x => !Nat.beq x b) then l ++ [b] else l
  | _ => l
noncomputable def newA (K : Nat) (v : Value) (l : List Nat) : List Nat := match v with
  | .agg a => a.toList.foldl (fun l v => newL K v l) l
  | v => newL K v l
noncomputable def newV (K : Nat) (v : Value) (l : List Nat) : List Nat := match v with
  | .tuple a => a.toList.foldl (fun l v => newA K v l) l
  | v => newA K v l
noncomputable def rowNew (V : VW) (b : Nat) (r : RowD) : Bool := match V.heap.get b with
  | some (.cells c t false) => Nat.ble V.floor b && (Nat.beq t r.ty && eqA r.cells c)
  | some (.grow rc _ t) => Nat.ble V.floor b && (Nat.beq t r.ty && eqA r.cells (revOn rc []))
  | _ => false
noncomputable def rowsNew (V : VW) (l : List Nat) (rs : List RowD) : Bool :=
  List.rec (motive := fun _ => List Nat → Bool) (fun l => match l with | [] => true | _ => false)
    (fun r _ ih l => match l with | b :: t => rowNew V b r && ih t | [] => false) rs l
theorem rowNew_spec {P : Program} {V : VW} {b : Nat} {r : RowD} (h : rowNew V b r = true) : ∃ ob, V.heap.get b = some ob ∧ ob ≠ .dfr true ∧ V.floor ≤ b ∧ ∀ {β : Nat → Ren} {cp sh : Nat} {o' : Obj}, ObjR P β cp sh ob o' → ObjR P β cp sh (.cells r.cells r.ty false) o' := by
  unfold rowNew at h
  split at h
  · rename_i c t hg
    simp only [Bool.and_eq_true] at h
    obtain ⟨k1, k2, k3⟩ := h
    have k2 := Nat.eq_of_beq_eq_true k2
    have k3 := eqA_eq k3
    subst k2 k3
    exact ⟨_, hg, nofun, Nat.le_of_ble_eq_true k1, fun h => h⟩
  · rename_i rc n t hg
    simp only [Bool.and_eq_true] at h
    obtain ⟨k1, k2, k3⟩ := h
    have k2 := Nat.eq_of_beq_eq_true k2
    have k3 := eqA_eq k3
    rw [revOn_eq, List.append_nil] at k3
    refine ⟨_, hg, nofun, Nat.le_of_ble_eq_true k1, fun h => ?_⟩
    rw [k3, ← k2]
    exact h.grow'.2
  · cases h
theorem rowsNew_spec {V : VW} : ∀ {rs : List RowD} {l : List Nat}, rowsNew V l rs = true → l.length = rs.length ∧ ∀ (j b : Nat) (r : RowD), l[j]? = some b → rs[j]? = some r → rowNew V b r = true
  | [], [], _ => ⟨rfl, fun j b r h => by simp at h⟩
  | [], _ :: _, h => by cases h
  | _ :: _, [], h => by cases h
  | r :: rs, b :: l, h => by
    change (rowNew V b r && rowsNew V l rs) = true at h
    simp only [Bool.and_eq_true] at h
    obtain ⟨h1, h2⟩ := rowsNew_spec h.2
    refine ⟨by simp [h1], fun j b' r' g1 g2 => ?_⟩
    cases j with
    | zero => simp only [List.getElem?_cons_zero, Option.some.injEq] at g1 g2; subst g1 g2; exact h.1
    | succ j => simp only [List.getElem?_cons_succ] at g1 g2; exact h2 j b' r' g1 g2
noncomputable def fitN (P : Program) (e : DeepE) (u : Value) (V : VW) (nb : List Nat) : Bool :=
  (lvB P.globals.size (upto P.globals.size e.rows.length ++ nb) e.val u && rowsNew V nb e.new) && (aloneB (P.globals.size + e.rows.length) nb && nb.all (fun b => hasV b u))
noncomputable def isDeep (P : Program) (e : DeepE) : R → Bool
  | .val u V => fitN P e u V (newV (P.globals.size + e.rows.length) u [])
  | _ => false
noncomputable def flatD (P : Program) (e : DeepE) : Bool :=
  (e.rows.all (fun r => r.cells.all atom) && e.new.all (fun r => r.cells.all atom)) && ((lasB P.globals.size (upto P.globals.size e.rows.length) e.args e.args && e.args.all noSymA) && (noSymV e.val && Nat.ble (P.globals.size + e.rows.length) top))
omit [Syms] in
noncomputable def deepOk [Prims] (P : Program) (Q : Orc) (G : VW) (e : DeepE) : Bool :=
  flatD P e && ((fnOf P e.f).isSome && isDeep P e (run P Q 1000000 (.call e.f e.args (baseD P G e))))

theorem start_deep (hT : Tabs P G) {w : World} (hL : Lies P G w) {rows : List RowD} (hat : rows.all (fun r => r.cells.all atom) = true) (ht : P.globals.size + rows.length ≤ top) {β : Nat → Ren} (hg : ∀ g, g < P.globals.size → β g = .live g 0 0) (ho : ∀ y, P.globals.size + rows.length ≤ y → β y = .fresh)
    (hr : ∀ j r, rows[j]? = some r → ∃ b cp sh fz o', β (P.globals.size + j) = .live b cp sh ∧ w.heap[b]? = some o' ∧ ObjR P (fun _ => .fresh) cp sh (.cells r.cells r.ty fz) o')
    (hi : ∀ i j b cp sh cp' sh', β i = .live b cp sh → β j = .live b cp' sh' → i = j) {V1 : VW} (hV : V1 = ⟨(pushRows true rows ⟨G.heap, P.globals.size, P.globals.size⟩).heap, P.globals.size + rows.length, P.globals.size + rows.length⟩) :
    WR P ⟨w, V1, β, w, fun _ => False⟩ β V1 w := by
  have hget : ∀ i, V1.heap.get i = if i < P.globals.size then G.heap.get i else match rows[i - P.globals.size]? with
      | some r => some (.cells r.cells r.ty true)
      | none => G.heap.get i := fun i => by
    rw [hV]
    exact pushRows_get true rows ⟨G.heap, P.globals.size, P.globals.size⟩ ht i
  have hsz : V1.size = P.globals.size + rows.length := by rw [hV]
  have hfl : V1.floor = P.globals.size + rows.length := by rw [hV]
  have hnd : ∀ i, β i ≠ .dead := fun i hd => by
    by_cases h1 : i < P.globals.size
    · rw [hg i h1] at hd; cases hd
    · by_cases h2 : i < P.globals.size + rows.length
      · have hlt : i - P.globals.size < rows.length := by omega
        obtain ⟨b, cp, sh, fz, o', k1, _⟩ := hr _ _ (List.getElem?_eq_getElem hlt)
        rw [show P.globals.size + (i - P.globals.size) = i by omega] at k1
        rw [k1] at hd; cases hd
      · rw [ho i (by omega)] at hd; cases hd
  refine ⟨hg, by rw [hfl]; omega, by rw [hfl, hsz]; exact Nat.le_refl _, by rw [hsz]; exact ht, fun i h => ho i (by rw [hsz] at h; exact h), fun i b cp sh e => ?_, fun i h => absurd h (hnd i), hi, fun i b cp sh e hl => ?_, fun _ _ => rfl, rfl, fun _ _ => rfl, Nat.le_refl _, .refl _ _, fun _ h => h.elim, fun _ _ h => ⟨h, rfl⟩, fun i o hp => ?_⟩
  · by_cases h1 : i < P.globals.size
    · rw [hg i h1] at e
      cases e
      rcases hL.1 _ h1 with ⟨c, ty, fr, post, g1, g2⟩ | ⟨g1, g2⟩
      rotate_left
      · exact ⟨_, _, by rw [hget, if_pos h1]; exact g1, Array.getElem?_eq_getElem g2, .dfrT⟩
      rcases hT.cells _ h1 with ⟨c', e', g3, g4⟩ | g3
      rotate_left
      · rw [g1] at g3
        cases g3
      rw [g1] at g3; cases g3
      exact ⟨_, _, by rw [hget, if_pos h1]; exact g1, g2, ObjR.cells (pre := []) rfl (VRs.atoms g4) (by simp) (fun h => by cases h)⟩
    · have h2 : i < P.globals.size + rows.length := by
        rcases Nat.lt_or_ge i (P.globals.size + rows.length) with k | k
        · exact k
        · rw [ho i k] at e; cases e
      have hlt : i - P.globals.size < rows.length := by omega
      obtain ⟨b', cp', sh', fz, o', k1, k2, k3⟩ := hr _ _ (List.getElem?_eq_getElem hlt)
      rw [show P.globals.size + (i - P.globals.size) = i by omega] at k1
      rw [k1] at e
      cases e
      refine ⟨.cells rows[i - P.globals.size].cells rows[i - P.globals.size].ty true, o', by rw [hget, if_neg h1, List.getElem?_eq_getElem hlt], k2, ?_⟩
      obtain ⟨pre, mid, post, frz, rfl, hp, hrr, hcap, hfz⟩ := k3.inv
      exact .cells hp (hrr.frozen (List.all_eq_true.1 hat _ (List.getElem_mem hlt))) hcap (fun h => by cases h)
  · have hl : V1.floor ≤ i := hl
    rw [hfl] at hl
    rw [ho i hl] at e; cases e
  · rw [hget] at hp
    have glob : ∀ o, i < P.globals.size → G.heap.get i = some o → Bd P V1.size o := fun o h ho => by
      rcases hT.cells i h with ⟨c, e, h1, h2⟩ | h1
      rotate_left
      · rw [h1] at ho
        cases ho
        exact .dead P _
      rw [h1] at ho; cases ho
      exact ⟨fun _ => .fresh, 0, 0, .cells ⟨[] ++ (c ++ [])⟩ e (0, 0), fun _ _ => rfl, ObjR.cells (pre := []) rfl (VRs.atoms h2) (by simp) (fun h => by cases h)⟩
    by_cases h1 : i < P.globals.size
    · rw [if_pos h1] at hp
      exact glob o h1 hp
    · rw [if_neg h1] at hp
      split at hp
      · rename_i r hrr
        cases hp
        exact ⟨fun _ => .fresh, 0, 0, .cells ⟨[] ++ (r.cells ++ [])⟩ r.ty (0, 0), fun _ _ => rfl, ObjR.cells (pre := []) rfl (VRs.atoms (List.all_eq_true.1 hat _ (List.mem_of_getElem? hrr))) (by simp) (fun h => by cases h)⟩
      · rw [hT.rest i (by omega)] at hp; cases hp

theorem deep_of (hT : Tabs P G) {Q : Orc} (hQ : OrcOk P G Q) {e : DeepE} (h : deepOk P Q G e = true) : DeepOk P G e := by
  unfold deepOk at h
  simp only [Bool.and_eq_true] at h
  obtain ⟨hfl, h3, h4⟩ := h
  unfold flatD at hfl
  simp only [Bool.and_eq_true] at hfl
  obtain ⟨⟨q1, q2⟩, ⟨q3, q4⟩, q5, q6⟩ := hfl
  have q6 := Nat.le_of_ble_eq_true q6
  refine ⟨?_, q1⟩
  cases hfn : fnOf P e.f with
  | none => rw [hfn] at h3; cases h3
  | some x =>
  obtain ⟨g1, g2, _⟩ := fnOf_spec hfn
  cases hrun : run P Q 1000000 (.call e.f e.args (baseD P G e)) with
  | fall y s => rw [hrun] at h4; cases h4
  | bad m n => rw [hrun] at h4; cases h4
  | val u V2 =>
  rw [hrun] at h4
  have h4 : fitN P e u V2 (newV (P.globals.size + e.rows.length) u []) = true := h4
  generalize newV (P.globals.size + e.rows.length) u [] = nb at h4
  unfold fitN at h4
  simp only [Bool.and_eq_true] at h4
  obtain ⟨⟨k1, k2⟩, k3, k4⟩ := h4
  obtain ⟨n1, n2⟩ := rowsNew_spec k2
  obtain ⟨a1, a2⟩ := aloneB_spec k3
  intro S w hL β hg ho hr hi args' hA cs
  have hA0 : VRs β e.args args' := (lasB_spec q3).swap (S := S.s) (S' := ‹Syms›) q4 hA
  have hW := start_deep hT hL q1 q6 hg ho (fun j r hj => by
    obtain ⟨b, cp, sh, fz, o', z1, z2, z3⟩ := hr j r hj
    refine ⟨b, cp, sh, fz, o', z1, z2, ?_⟩
    obtain ⟨pre, mid, post, frz, rfl, hp, hrr, hcap, hfz⟩ := @ObjR.inv S.s P _ _ _ _ _ _ _ z3
    refine .cells hp ?_ hcap hfz
    have ha := List.all_eq_true.1 q1 r (List.mem_of_getElem? hj)
    rw [@VRs.of_atoms S.s.toVals _ _ _ hrr ha]
    exact VRs.atoms ha) hi (V1 := baseD P G e) rfl
  obtain ⟨β2, v', w', fr, m1, m2, m3, m4, m5, m6⟩ := (run_good hT hQ 1000000).call e.f e.args (baseD P G e) u V2 hrun _ β w args' ⟨fun g hg' => by
      show (baseD P G e).heap.get g = _
      unfold baseD
      rw [show (VW.mk (pushRows true e.rows ⟨G.heap, P.globals.size, P.globals.size⟩).heap (P.globals.size + e.rows.length) (P.globals.size + e.rows.length)).heap = (pushRows true e.rows ⟨G.heap, P.globals.size, P.globals.size⟩).heap from rfl, pushRows_get true e.rows ⟨G.heap, P.globals.size, P.globals.size⟩ q6 g]
      exact if_pos hg', hL.2⟩ hW hA0 ⟨_, _, g1, g2⟩ cs
  have hfloor : V2.floor = P.globals.size + e.rows.length := m2.flo
  have hlow : ∀ y, y < P.globals.size + e.rows.length → β2 y = β y := fun y hy => m2.low y (by rw [hfloor]; exact hy)
  have hlen : (upto P.globals.size e.rows.length).length = e.rows.length := upto_len _ _
  have hat : ∀ y, y < P.globals.size + e.rows.length → atN P.globals.size (upto P.globals.size e.rows.length ++ nb) β2 y = β y := fun y hy => by
    by_cases h1 : y < P.globals.size
    · rw [atN_lo h1, hlow y hy]
    · obtain ⟨j, rfl⟩ : ∃ j, y = P.globals.size + j := ⟨y - P.globals.size, by omega⟩
      rw [atN_hi (b := P.globals.size + j) (by rw [List.getElem?_append_left (by omega)]; exact upto_get _ _ _ (by omega)), hlow _ hy]
  have hnew : ∀ i, i < nb.length → atN P.globals.size (upto P.globals.size e.rows.length ++ nb) β2 (P.globals.size + e.rows.length + i) = β2 (nb.getD i 0) := fun i hi' => by
    rw [Nat.add_assoc, atN_hi (b := nb.getD i 0) (by
      rw [List.getElem?_append_right (by omega), hlen, show e.rows.length + i - e.rows.length = i by omega, List.getElem?_eq_getElem hi', List.getD_eq_getElem?_getD, List.getElem?_eq_getElem hi']
      rfl)]
  refine ⟨w', fr, v', atN P.globals.size (upto P.globals.size e.rows.length ++ nb) β2, m4, m5, m6, m2.base, hat, fun y hy => ?_, fun i r hir => ?_, fun i j b c1 s1 c2 s2 hi1 hj1 hb1 hb2 => ?_, fun S' => ?_⟩
  · obtain ⟨j, rfl⟩ : ∃ j, y = P.globals.size + j := ⟨y - P.globals.size, by omega⟩
    exact atN_out (List.getElem?_eq_none (by simp [hlen, n1]; omega))
  · have hlt : i < nb.length := by rw [n1]; exact (List.getElem?_eq_some_iff.1 hir).1
    have hgi := List.getElem?_eq_getElem hlt
    have hd : nb.getD i 0 = nb[i] := by rw [List.getD_eq_getElem?_getD, hgi]; rfl
    obtain ⟨ob, z1, z2, z3, z4⟩ := rowNew_spec (P := P) (n2 i _ r hgi hir)
    have hb : hasV nb[i] u = true := List.all_eq_true.1 k4 _ (List.getElem_mem hlt)
    rcases hasV_spec hb m3 with ⟨b, cp, sh, hl⟩ | hd'
    · obtain ⟨o, o', y1, y2, y3⟩ := m2.obj _ _ _ _ hl
      rw [z1] at y1
      cases y1
      refine ⟨b, cp, sh, o', by rw [hnew i hlt, hd]; exact hl, (m2.own _ _ _ _ hl z3).1, y2, fun S' => ?_⟩
      obtain ⟨pre, mid, post, frz, rfl, hp, hrr, hcap, hfz⟩ := (z4 y3).inv
      have ha := List.all_eq_true.1 q2 r (List.mem_of_getElem? hir)
      have := hrr.of_atoms ha
      subst this
      exact @ObjR.cells S'.s _ _ _ _ _ _ _ _ _ _ _ hp (@VRs.atoms S'.s.toVals _ _ ha) hcap hfz
    · have := m2.dead _ hd'
      rw [z1] at this
      exact absurd (Option.some.inj this) z2
  · rw [← n1] at hi1 hj1
    rw [hnew i hi1] at hb1
    rw [hnew j hj1] at hb2
    have := m2.inj _ _ _ _ _ _ _ hb1 hb2
    have e1 : nb[i]? = some (nb.getD i 0) := by rw [List.getElem?_eq_getElem hi1, List.getD_eq_getElem?_getD, List.getElem?_eq_getElem hi1]; rfl
    have e2 : nb[j]? = some (nb.getD j 0) := by rw [List.getElem?_eq_getElem hj1, List.getD_eq_getElem?_getD, List.getElem?_eq_getElem hj1]; rfl
    rw [← this] at e2
    exact a2 i j _ e1 e2
  · exact (lvB_spec k1).swap (S := ‹Syms›) (S' := S'.s) q5 ((lvB_spec k1).down m3)

/-! ### An index for them -/
noncomputable def hshC (l : List Value) : Nat := hshL l
noncomputable def hshR (rs : List RowD) : Nat := List.rec (motive := fun _ => Nat) 7 (fun r _ ih => Nat.add (Nat.mul ih 31) (hshL r.cells)) rs
/-- What a leaf counts, whatever its blocks. -/
noncomputable def hshE (x : Value) : Nat := match x with
  | .slice _ n _ => Nat.add n 3
  | .agg a => List.rec (motive := fun _ => Nat) 5 (fun x _ ih => Nat.add (Nat.mul ih 31) (match x with | .slice _ n _ => Nat.add n 3 | x => hsh1 x)) a.toList
  | z => hsh1 z
noncomputable def hshX (l : List Value) : Nat := List.rec (motive := fun _ => Nat) 0 (fun x _ ih => Nat.add (Nat.mul ih 1009) (hshE x)) l
noncomputable def hshD (f : Nat) (args : List Value) (rh : Nat) : Nat := Nat.mod (Nat.add (Nat.add (hshX args) (Nat.mul f 37)) (Nat.mul rh 101)) 8192
/-- The rows at some blocks. -/
noncomputable def hashAt (V : VW) (l : List Nat) : Nat := List.rec (motive := fun _ => Nat) 7 (fun b _ ih => Nat.add (Nat.mul ih 31) (match rowOf (V.heap.get b) with | some c => hshL c | none => 0)) l
noncomputable def seenA (N : Nat) (args : List Value) : List Nat := args.foldl (fun l v => newA N v l) []
noncomputable def insD (t : T (List DeepE)) (h : Nat) (e : DeepE) : T (List DeepE) := T.set 21 t h (e :: Option.rec (motive := fun _ => List DeepE) [] (fun l => l) (t.get h))
noncomputable def mkD (l : List DeepE) : T (List DeepE) := List.rec (motive := fun _ => T (List DeepE)) .nil (fun e _ ih => insD ih (hshD e.f e.args (hshR e.rows)) e) l
theorem mkD_mem : ∀ {l : List DeepE} {i : Nat} {b : List DeepE}, (mkD l).get i = some b → ∀ e ∈ b, e ∈ l
  | [], i, b, h, e, he => by cases h
  | x :: l, i, b, h, e, he => by
    change (T.set 21 (mkD l) (hshD x.f x.args (hshR x.rows)) (x :: Option.rec (motive := fun _ => List DeepE) [] (fun l => l) ((mkD l).get (hshD x.f x.args (hshR x.rows))))).get i = some b at h
    have hb : hshD x.f x.args (hshR x.rows) < top := Nat.lt_of_lt_of_le (Nat.mod_lt _ (by decide)) (show 8192 ≤ top by decide)
    rw [T.get_put _ _ _ hb] at h
    split at h
    · cases h
      rcases List.mem_cons.1 he with rfl | he
      · exact List.mem_cons_self
      · cases hg : (mkD l).get (hshD x.f x.args (hshR x.rows)) with
        | none => rw [hg] at he; cases he
        | some b' => rw [hg] at he; exact List.mem_cons_of_mem _ (mkD_mem hg e he)
    · exact List.mem_cons_of_mem _ (mkD_mem h e he)
/-- The value that comes back, by its blocks' names here. -/
noncomputable def renL (N : Nat) (l : List Nat) (x : Value) : Value := match x with
  | .slice (some ⟨a, o, none⟩) n c => .slice (some ⟨(if Nat.blt a N then a else (nthL l (Nat.sub a N)).getD 0), o, none⟩) n c
  | .pointer (some ⟨a, o, none⟩) => .pointer (some ⟨(if Nat.blt a N then a else (nthL l (Nat.sub a N)).getD 0), o, none⟩)
  | x => x
noncomputable def renA (N : Nat) (l : List Nat) (x : Value) : Value := match x with
  | .agg a => .agg ⟨mapL (renL N l) a.toList⟩
  | x => renL N l x
noncomputable def renV (N : Nat) (l : List Nat) (x : Value) : Value := match x with
  | .tuple a => .tuple ⟨mapL (renA N l) a.toList⟩
  | x => renA N l x
noncomputable def pickD (P : Program) (f : FuncId) (l : List Nat) (args : List Value) (V : VW) (es : List DeepE) : Option (Value × VW) :=
  List.rec (motive := fun _ => Option (Value × VW)) none (fun e _ ih => Bool.rec (motive := fun _ => Option (Value × VW)) ih
    (some (renV P.globals.size (l ++ upto V.size e.new.length) e.val, pushRows false e.new V))
    (Nat.beq e.f f && fitD P l args V e (renV P.globals.size (l ++ upto V.size e.new.length) e.val))) es
noncomputable def lookD (P : Program) (t : T (List DeepE)) (f : FuncId) (args : List Value) (V : VW) (l : List Nat) : Option (Value × VW) :=
  match t.get (hshD f args (hashAt V l)) with
  | some es => pickD P f l args V es
  | none => none
/-- Entries of the functions whose numbers are bits of m. -/
noncomputable def deepL (P : Program) (m : Nat) (t : T (List DeepE)) (f : FuncId) (args : List Value) (V : VW) : Option (Value × VW) :=
  match bitsT m f with
  | true => lookD P t f args V (seenA P.globals.size args)
  | false => none
theorem pickD_mem {f : FuncId} {l : List Nat} {args : List Value} {V : VW} {v : Value} {V' : VW} : ∀ {es : List DeepE}, pickD P f l args V es = some (v, V') → ∃ e ∈ es, e.f = f ∧ fitD P l args V e v = true ∧ V' = pushRows false e.new V
  | [], h => by cases h
  | e :: es, h => by
    change Bool.rec (motive := fun _ => Option (Value × VW)) (pickD P f l args V es) (some (renV P.globals.size (l ++ upto V.size e.new.length) e.val, pushRows false e.new V)) (Nat.beq e.f f && fitD P l args V e (renV P.globals.size (l ++ upto V.size e.new.length) e.val)) = _ at h
    cases hb : (Nat.beq e.f f && fitD P l args V e (renV P.globals.size (l ++ upto V.size e.new.length) e.val)) with
    | false =>
      rw [hb] at h
      obtain ⟨x, h1, h2⟩ := pickD_mem (show pickD P f l args V es = some (v, V') from h)
      exact ⟨x, List.mem_cons_of_mem _ h1, h2⟩
    | true =>
      rw [hb] at h
      simp only [Bool.and_eq_true] at hb
      have h := Option.some.inj h
      cases h
      exact ⟨e, List.mem_cons_self, Nat.eq_of_beq_eq_true hb.1, hb.2, rfl⟩
def DeepsOk (P : Program) (G : VW) (l : List DeepE) : Prop := ∀ e ∈ l, DeepOk P G e
theorem DeepsOk.nil : DeepsOk P G [] := fun _ h => by cases h
theorem DeepsOk.app {l m : List DeepE} (h : DeepsOk P G l) (k : DeepsOk P G m) : DeepsOk P G (l ++ m) := fun e he => (List.mem_append.1 he).elim (h e) (k e)
theorem deepL_ok (hT : Tabs P G) {l : List DeepE} (h : DeepsOk P G l) {m : Nat} : ∀ f args V v V', deepL P m (mkD l) f args V = some (v, V') → CallOk P G (.val v V') f args V := by
  intro f args V v V' hd
  unfold deepL at hd
  split at hd
  · unfold lookD at hd
    split at hd
    · rename_i es hg
      obtain ⟨e, h1, rfl, h3, rfl⟩ := pickD_mem hd
      exact KnownD.call hT (h e (mkD_mem hg e h1)) h3
    · cases hd
  · cases hd
theorem deeps_of (hT : Tabs P G) {Q : Orc} (hQ : OrcOk P G Q) {l : List DeepE} (h : allL (deepOk P Q G) l = true) : DeepsOk P G l := by
  rw [allL_eq] at h
  exact fun e he => deep_of hT hQ (List.all_eq_true.1 h e he)
/-- An oracle that knows values, rows, and calls with rows. -/
noncomputable def deepOrc (P : Program) (V : VW) (a : FuncId → List Value → Option Value) (m : Nat) (l : List DeepE) (c : Code → Env → St → Option R) : Orc := ⟨a, fun _ _ => none, fun _ => false, V, deepL P m (mkD l), c⟩
def CutsOk (P : Program) (G : VW) (k : Code → Env → St → Option R) : Prop := ∀ c E s r, OkC P E.fn (.loop c) → k c E s = some r → CodeOk P G r [.inLoop c] E s
theorem noCuts_ok : CutsOk P G noCuts := fun _ _ _ _ _ h => by cases h
theorem deepOrc_ok (hT : Tabs P G) {V : VW} {a : FuncId → List Value → Option Value} {m : Nat} {l : List DeepE} {c : Code → Env → St → Option R} (hV : V = ⟨G.heap, P.globals.size, P.globals.size⟩) (h : AnsOk P G a) (hl : DeepsOk P G l) (hc : CutsOk P G c) : OrcOk P G (deepOrc P V a m l c) :=
  ⟨h, fun _ _ _ hh => (by cases hh), hV, deepL_ok hT hl, hc⟩
end
end Go.Vx
