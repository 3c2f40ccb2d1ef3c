/-
  Says: Calls that are handed rows, as entries.
-/
import Derived.Test.YtkmmnlhmfiabfaaGreatDoorVx18
set_option linter.unusedVariables false
set_option linter.unusedSimpArgs false
set_option linter.unusedSectionVars false
/-! The whole machine: what it says, a call does. -/
namespace Go.Vx
variable [Syms]
variable [Keeps]
open Go.RowKit

section
variable {P : Program} {G : VW} {rec : Rec}

theorem code_good (hG : Good P G rec) : ∀ (c : Code) (E : Env) (s : St), OkC P E.fn c → CodeOk P G (codeC c rec P E s) [.code c] E s := by
  intro c E s hc
  cases c with
  | skip => exact CodeOk.fall fun a w b k cs => .one stepR_skip
  | label l => exact CodeOk.fall fun a w b k cs => .one stepR_label
  | seq x y =>
    replace hc := hc.seq
    exact CodeOk.then (items1 := [.code x]) (items2 := [.code y]) (fun a w b k cs => .one stepR_seq) (hG.code x E s hc.1) (fun s1 _ => hG.code y E s1 hc.2) (fun hne h => Way.pass (i := .code y) rfl hne h)
  | cond o x y => exact cond_good hG hc.cond.1 hc.cond.2.1 hc.cond.2.2
  | block id x => exact block_good (c := x) hG ⟨hc.1, hc.2⟩
  | loop x => exact loop_good (c := x) (items := [.code (.loop x)]) hG hc (fun a w b k cs => .one stepR_loop)
  | exit id => exact CodeOk.fall fun a w b k cs => ⟨k, rfl, .refl _ _⟩
  | goto l => exact CodeOk.fall fun a w b k cs => ⟨k, rfl, .refl _ _⟩
  | ret => exact CodeOk.fall fun a w b k cs => ⟨k, .refl _ _⟩
  | scope x => exact scope_good (b0 := x) (c := x) (items := [.code (.scope x)]) hG ⟨hc.1, hc.2⟩ ⟨hc.1, hc.2⟩ (fun a w b k cs => .one stepR_scope)
  | region id ops d =>
    cases d with
    | false => exact list_good hG hc.1
    | true => exact draw_good hG hc.1
  | rangeFunc f ps as x =>
    exact range_good hG hc.range.1 hc.range.2.1 hc.range.2.2
  | refuse r => intro x s' h; cases h

/-- What is known of calls. -/
structure OrcOk (P : Program) (G : VW) (Q : Orc) : Prop where
  ans : ∀ f args v, Q.ans f args = some v → ∀ V, CallOk P G (.val v V) f args V
  rows : ∀ f args h, Q.rows f args = some h → ∀ V : VW, V.size < top → CallOk P G (.val (h.val V.size) (V.push (.cells h.cells h.ty false))) f args V
  base : Q.base = ⟨G.heap, P.globals.size, P.globals.size⟩
  deep : ∀ f args V v V', Q.deep f args V = some (v, V') → CallOk P G (.val v V') f args V
  cuts : ∀ c E s r, OkC P E.fn (.loop c) → Q.cuts c E s = some r → CodeOk P G r [.inLoop c] E s

theorem VRs.flatL {β : Nat → Ren} : ∀ {l : List Value}, l.all flat = true → VRs β l l
  | [], _ => .nil
  | x :: l, h => by simp only [List.all_cons, Bool.and_eq_true] at h; exact .cons (VR.flat h.1) (VRs.flatL h.2)
theorem flat_args {β : Nat → Ren} : ∀ {l l' : List Value}, VRs β l l' → l.all flat = true → l' = l
  | _, _, .nil, _ => rfl
  | _, _, .cons h t, ha => by
    simp only [List.all_cons, Bool.and_eq_true] at ha
    rw [h.of_flat ha.1, flat_args t ha.2]

theorem Known.call (hT : Tabs P G) {f : FuncId} {args : List Value} {v : Value} (h : Known P G f args v) (ha : args.all flat = true) (hv : flat v = true) (V : VW) : CallOk P G (.val v V) f args V := by
  intro v1 V1 he B β w args' hB hW hA _ cs
  cases he
  rw [flat_args hA ha]
  obtain ⟨w', fr, h1, h2, h3, h4⟩ := h w (lies_of hT hB hW) cs
  exact ⟨β, _, w', fr, .refl _, hW.later h4, VR.flat hv, h1, h2, h3⟩

theorem base_of (hT : Tabs P G) {f : FuncId} {args args' : List Value} {r : R} (hr : CallOk P G r f args ⟨G.heap, P.globals.size, P.globals.size⟩) {v : Value} {V' : VW} (he : r = .val v V')
    (ha : ∀ β, VRs β args args') (hv : flat v = true) (hf : ∃ fn c, P.funcs[f]? = some fn ∧ fn.body = some c) : Known P G f args' v := by
  intro w hL cs
  have hW := start_ok hT hL
  obtain ⟨β', v', w', fr, h1, h2, h3, h4, h5, h6⟩ := hr v V' he _ _ w args' ⟨fun _ _ => rfl, hL.2⟩ hW (ha _) hf cs
  have := h3.of_flat hv
  subst this
  exact ⟨w', fr, h4, h5, h6, h2.base⟩

theorem call_good (hT : Tabs P G) {Q : Orc} (hQ : OrcOk P G Q) (hG : Good P G rec) (f : FuncId) (args : List Value) (V : VW) : CallOk P G (callT f args V P Q rec) f args V := by
  intro v1 V1 hp B β w args' hB hW hA hf cs
  unfold callT at hp
  split at hp
  · rename_i v hv
    exact hQ.ans f args v hv V v1 V1 hp B β w args' hB hW hA hf cs
  unfold deepT at hp
  split at hp
  · rename_i u U hu
    exact hQ.deep f args V u U hu v1 V1 hp B β w args' hB hW hA hf cs
  · unfold rowsT at hp
    split at hp
    · rename_i h hh
      split at hp
      · rename_i hlt
        exact hQ.rows f args h hh V (blt_lt hlt) v1 V1 hp B β w args' hB hW hA hf cs
      · cases hp
    · unfold tryT at hp
      split at hp
      · split at hp
        · rename_i hfl
          unfold flatBack at hp
          split at hp
          · rename_i v V2 hb
            split at hp
            · rename_i hv
              cases hp
              have hfl' : args.all flat = true := by unfold allFlat at hfl; rw [allL_eq] at hfl; exact hfl
              exact (hG.base f args v1 V2 hb hfl' hv hf).call hT hfl' hv V v1 V rfl B β w args' hB hW hA hf cs
            · cases hp
          · cases hp
          · cases hp
        · exact fresh_good hG f args V v1 V1 hp B β w args' hB hW hA hf cs
      · exact fresh_good hG f args V v1 V1 hp B β w args' hB hW hA hf cs

theorem step_good (hT : Tabs P G) {Q : Orc} (hQ : OrcOk P G Q) (hG : Good P G rec) : Good P G (stepX P Q rec) := by
  refine ⟨fun c E s hc => code_good hG c E s hc, fun c E s hc => ?_, fun x c E s hx hc => ?_, fun f args V => call_good hT hQ hG f args V, fun l args V => ?_, fun f args => ?_⟩
  · show CodeOk P G (againT c E s P Q rec) _ _ _
    unfold againT
    split
    · rename_i r hr
      exact hQ.cuts c E s r hc hr
    · exact loop_good (items := [.inLoop c]) hG hc (fun a w b k cs => .one stepR_inLoop)
  · exact scope_good (items := [.code c, .inScope x]) hG hx hc (fun a w b k cs => .refl _ _)
  · exact round_good hG l args V
  · intro v V' hp ha hv hf
    have hp : freshT f args Q.base P rec = .val v V' := hp
    rw [hQ.base] at hp
    exact base_of hT (fresh_good hG f args _) hp (fun _ => VRs.flatL ha) hv hf

theorem run_good (hT : Tabs P G) {Q : Orc} (hQ : OrcOk P G Q) : ∀ n, Good P G (run P Q n)
  | 0 => ⟨fun _ _ _ _ _ _ h => (by cases h), fun _ _ _ _ _ _ h => (by cases h), fun _ _ _ _ _ _ _ _ h => (by cases h), fun _ _ _ _ _ h => (by cases h), fun _ _ _ _ _ h => (by cases h), fun _ _ _ _ h => (by cases h)⟩
  | n + 1 => step_good hT hQ (run_good hT hQ n)

/-- What the arguments stand for is what counts. -/
theorem known_sym (hT : Tabs P G) {Q : Orc} (hQ : OrcOk P G Q) {n : Nat} {f : FuncId} {args args' : List Value} {v : Value} {V' : VW} (hr : run P Q n (.call f args ⟨G.heap, P.globals.size, P.globals.size⟩) = .val v V')
    (ha : ∀ β, VRs β args args') (hv : flat v = true) (hf : ∃ fn c, P.funcs[f]? = some fn ∧ fn.body = some c) : Known P G f args' v :=
  base_of hT ((run_good hT hQ n).call f args _) hr ha hv hf
theorem known_of (hT : Tabs P G) {Q : Orc} (hQ : OrcOk P G Q) {n : Nat} {f : FuncId} {args : List Value} {v : Value} {V' : VW} (hr : run P Q n (.call f args ⟨G.heap, P.globals.size, P.globals.size⟩) = .val v V')
    (ha : args.all flat = true) (hv : flat v = true) (hf : ∃ fn c, P.funcs[f]? = some fn ∧ fn.body = some c) : Known P G f args v :=
  known_sym hT hQ hr (fun _ => VRs.flatL ha) hv hf

/-- A call with symbols: known where they stand for what it is known of. -/
theorem Known.callS (hT : Tabs P G) {f : FuncId} {args args' : List Value} {v : Value} (h : Known P G f args' v) (hi : ∀ β A, VRs β args A → A = args') (hv : flat v = true) (V : VW) : CallOk P G (.val v V) f args V := by
  intro v1 V1 he B β w A hB hW hA _ cs
  cases he
  rw [hi β A hA]
  obtain ⟨w', fr, h1, h2, h3, h4⟩ := h w (lies_of hT hB hW) cs
  exact ⟨β, _, w', fr, .refl _, hW.later h4, VR.flat hv, h1, h2, h3⟩

theorem Known.calls {f : FuncId} {args : List Value} {v : Value} (h : Known P G f args v) {w : World} (hL : Lies P G w) : Calls P f ⟨args⟩ w fun e w' => e = .returned v ∧ Below w.heap.size w w' := by
  intro cs
  obtain ⟨w', fr, h1, h2, h3, h4⟩ := h w hL cs
  exact ⟨_, w', fr, ⟨rfl, h4⟩, h1, h2, h3⟩

/-- The one oracle, or else the other. -/
def orElse (Q1 Q2 : Orc) : Orc := ⟨fun f args => match Q1.ans f args with
  | some v => some v
  | none => Q2.ans f args, fun f args => match Q1.rows f args with
  | some v => some v
  | none => Q2.rows f args, Q2.tries, Q2.base, fun f args V => match Q1.deep f args V with
  | some v => some v
  | none => Q2.deep f args V, fun c E s => match Q1.cuts c E s with
  | some v => some v
  | none => Q2.cuts c E s⟩
theorem OrcOk.or {Q1 Q2 : Orc} (h1 : OrcOk P G Q1) (h2 : OrcOk P G Q2) : OrcOk P G (orElse Q1 Q2) := by
  refine ⟨fun f args v h => ?_, fun f args v h => ?_, h2.base, fun f args V v V' h => ?_, fun c E s r hc h => ?_⟩
  · simp only [orElse] at h
    split at h
    · rename_i u hu
      cases h
      exact h1.ans f args _ hu
    · exact h2.ans f args v h
  · simp only [orElse] at h
    split at h
    · rename_i u hu
      cases h
      exact h1.rows f args _ hu
    · exact h2.rows f args v h
  · simp only [orElse] at h
    split at h
    · rename_i u hu
      cases h
      exact h1.deep f args V _ _ hu
    · exact h2.deep f args V v V' h
  · simp only [orElse] at h
    split at h
    · rename_i u hu
      cases h
      exact h1.cuts c E s _ hc hu
    · exact h2.cuts c E s r hc h
/-- What is told of values, holds. -/
def AnsOk (P : Program) (G : VW) (a : FuncId → List Value → Option Value) : Prop := ∀ f args v, a f args = some v → ∀ V, CallOk P G (.val v V) f args V
/-- The one, or else the other. -/
def orAns (a b : FuncId → List Value → Option Value) (f : FuncId) (args : List Value) : Option Value := match a f args with
  | some v => some v
  | none => b f args
theorem AnsOk.or {a b : FuncId → List Value → Option Value} (h1 : AnsOk P G a) (h2 : AnsOk P G b) : AnsOk P G (orAns a b) := fun f args v h => by
  unfold orAns at h
  split at h
  · rename_i u hu
    cases h
    exact h1 f args _ hu
  · exact h2 f args v h
theorem AnsOk.none : AnsOk P G (fun _ _ => none) := fun _ _ _ h => by cases h
/-- An oracle that knows values alone. -/
def valOrc (tries : FuncId → Bool) (V : VW) (a : FuncId → List Value → Option Value) : Orc := ⟨a, fun _ _ => none, tries, V, noDeep, noCuts⟩
theorem valOrc_ok {tries : FuncId → Bool} {V : VW} {a : FuncId → List Value → Option Value} (hV : V = ⟨G.heap, P.globals.size, P.globals.size⟩) (h : AnsOk P G a) : OrcOk P G (valOrc tries V a) :=
  ⟨h, fun _ _ _ hh => (by cases hh), hV, fun _ _ _ _ _ hh => (by cases hh), fun _ _ _ _ _ hh => (by cases hh)⟩
theorem nothing_known {V : VW} (hV : V = ⟨G.heap, P.globals.size, P.globals.size⟩) : OrcOk P G (noOrc V) := ⟨fun _ _ _ h => (by cases h), fun _ _ _ h => (by cases h), hV, fun _ _ _ _ _ h => (by cases h), fun _ _ _ _ _ h => (by cases h)⟩
end
end Go.Vx
/-! Tables of what is known of calls. -/
namespace Go.Vx
variable [Syms]
variable [Keeps]
open Go.RowKit

def findV (args : List Value) : List (List Value × Value) → Option Value
  | [] => none
  | e :: l => match eqA e.1 args with
    | true => some e.2
    | false => findV args l
def findF (f : Nat) (args : List Value) : List (Nat × List (List Value × Value)) → Option Value
  | [] => none
  | p :: l => match Nat.beq p.1 f with
    | true => match findV args p.2 with
      | some v => some v
      | none => findF f args l
    | false => findF f args l

theorem findV_mem {args : List Value} {v : Value} : ∀ {l : List (List Value × Value)}, findV args l = some v → (args, v) ∈ l
  | [], h => by cases h
  | e :: l, h => by
    simp only [findV] at h
    split at h
    · rename_i he
      cases h
      rw [← eqA_eq he]
      exact List.mem_cons_self
    · exact List.mem_cons_of_mem _ (findV_mem h)
theorem findF_mem {f : Nat} {args : List Value} {v : Value} : ∀ {l : List (Nat × List (List Value × Value))}, findF f args l = some v → ∃ t, (f, t) ∈ l ∧ (args, v) ∈ t
  | [], h => by cases h
  | p :: l, h => by
    simp only [findF] at h
    split at h
    · rename_i he
      have := Nat.eq_of_beq_eq_true he
      subst this
      split at h
      · rename_i v' hv
        cases h
        exact ⟨p.2, List.mem_cons_self, findV_mem hv⟩
      · obtain ⟨t, h1, h2⟩ := findF_mem h
        exact ⟨t, List.mem_cons_of_mem _ h1, h2⟩
    · obtain ⟨t, h1, h2⟩ := findF_mem h
      exact ⟨t, List.mem_cons_of_mem _ h1, h2⟩

section
variable {P : Program} {G : VW}
/-- An entry holds. -/
def Entry (P : Program) (G : VW) (f : FuncId) (e : List Value × Value) : Prop := Known P G f e.1 e.2 ∧ e.1.all flat = true ∧ flat e.2 = true
/-- Tables hold. -/
def Holds (P : Program) (G : VW) : List (Nat × List (List Value × Value)) → Prop
  | [] => True
  | p :: l => (∀ e ∈ p.2, Entry P G p.1 e) ∧ Holds P G l
theorem Holds.all : ∀ {l : List (Nat × List (List Value × Value))}, Holds P G l → ∀ p ∈ l, ∀ e ∈ p.2, Entry P G p.1 e
  | p :: l, h, q, hq => by
    rcases List.mem_cons.1 hq with rfl | hq
    · exact h.1
    · exact Holds.all h.2 q hq
theorem orc_of (hT : Tabs P G) {tabs : List (Nat × List (List Value × Value))} (h : ∀ p ∈ tabs, ∀ e ∈ p.2, Entry P G p.1 e) : AnsOk P G fun f args => findF f args tabs := by
  intro f args v hf V
  obtain ⟨t, h1, h2⟩ := findF_mem hf
  obtain ⟨k1, k2, k3⟩ := h _ h1 _ h2
  exact k1.call hT k2 k3 V

def isVal (v : Value) : R → Bool
  | .val u _ => eqw v u
  | _ => false
omit [Syms] in
noncomputable def entryOk [Prims] (P : Program) (Q : Orc) (V : VW) (f : FuncId) (e : List Value × Value) : Bool :=
  e.1.all flat && (flat e.2 && ((fnOf P f).isSome && isVal e.2 (run P Q 1000000 (.call f e.1 V))))
theorem entry_of (hT : Tabs P G) (hG1 : G.size = P.globals.size) (hG2 : G.floor = P.globals.size) {Q : Orc} (hQ : OrcOk P G Q) {f : FuncId} {e : List Value × Value} (h : entryOk P Q G f e = true) : Entry P G f e := by
  unfold entryOk at h
  simp only [Bool.and_eq_true] at h
  obtain ⟨h1, h2, h3, h4⟩ := h
  refine ⟨?_, h1, h2⟩
  cases hfn : fnOf P f with
  | none => rw [hfn] at h3; cases h3
  | some x =>
    obtain ⟨g1, g2, _⟩ := fnOf_spec hfn
    cases hr : run P Q 1000000 (.call f e.1 G) with
    | val u V' =>
      rw [hr] at h4
      have hu := eqw_eq (show eqw e.2 u = true from h4)
      have hG : G = ⟨G.heap, P.globals.size, P.globals.size⟩ := by
        obtain ⟨a, b, c⟩ := G
        simp only at hG1 hG2
        subst hG1 hG2
        rfl
      rw [hG] at hr
      have hr' : run P Q 1000000 (.call f e.1 ⟨G.heap, P.globals.size, P.globals.size⟩) = .val e.2 V' := by rw [hu]; exact hr
      exact known_of hT hQ hr' h1 h2 ⟨_, _, g1, g2⟩
    | fall y s => rw [hr] at h4; cases h4
    | bad m n => rw [hr] at h4; cases h4
theorem entries_of (hT : Tabs P G) (hG1 : G.size = P.globals.size) (hG2 : G.floor = P.globals.size) {Q : Orc} (hQ : OrcOk P G Q) {f : FuncId} {l : List (List Value × Value)} (h : l.all (entryOk P Q G f) = true) : ∀ e ∈ l, Entry P G f e :=
  fun e he => entry_of hT hG1 hG2 hQ (List.all_eq_true.1 h e he)
end
end Go.Vx
/-! An index for tables. -/
namespace Go.Vx
variable [Syms]
variable [Keeps]
open Go.RowKit

def hsh1 (x : Value) : Nat := match x with
  | .int _ (.ofNat m) => m
  | .int _ (.negSucc m) => Nat.add m 77
  | _ => 0
noncomputable def hshL (l : List Value) : Nat := List.rec (motive := fun _ => Nat) 5 (fun x _ ih => Nat.add (Nat.mul ih 31) (hsh1 x)) l
noncomputable def hshv (x : Value) : Nat := match x with
  | .agg a => hshL a.toList
  | z => hsh1 z
noncomputable def hshA (l : List Value) : Nat := List.rec (motive := fun _ => Nat) 0 (fun x _ ih => Nat.add (Nat.mul ih 1009) (hshv x)) l
noncomputable def hsh (f : Nat) (args : List Value) : Nat := Nat.mod (Nat.add (hshA args) (Nat.mul f 37)) 8192
abbrev Ent := Nat × List Value × Value
noncomputable def inBucket (f : Nat) (args : List Value) (l : List Ent) : Option Value :=
  List.rec (motive := fun _ => Option Value) none (fun e _ ih => Bool.rec (motive := fun _ => Option Value) ih (some e.2.2) (Nat.beq e.1 f && eqA e.2.1 args)) l
noncomputable def findI (t : T (List Ent)) (f : Nat) (args : List Value) : Option Value :=
  Option.rec (motive := fun _ => Option Value) none (fun l => inBucket f args l) (t.get (hsh f args))
noncomputable def allI (p : Ent → Bool) (t : T (List Ent)) : Bool :=
  T.rec (motive := fun _ => Bool) true (fun v _ _ il ir => Option.rec (motive := fun _ => Bool) true (fun l => l.all p) v && (il && ir)) t
def isIn (tabs : List (Nat × List (List Value × Value))) (e : Ent) : Bool := match findF e.1 e.2.1 tabs with
  | some v => eqw v e.2.2
  | none => false

theorem inBucket_mem {f : Nat} {args : List Value} {v : Value} : ∀ {l : List Ent}, inBucket f args l = some v → (f, args, v) ∈ l
  | [], h => by cases h
  | e :: l, h => by
    change Bool.rec (motive := fun _ => Option Value) (inBucket f args l) (some e.2.2) (Nat.beq e.1 f && eqA e.2.1 args) = _ at h
    cases hb : (Nat.beq e.1 f && eqA e.2.1 args) with
    | false => rw [hb] at h; exact List.mem_cons_of_mem _ (inBucket_mem h)
    | true =>
      rw [hb] at h
      simp only [Bool.and_eq_true] at hb
      have h1 := Nat.eq_of_beq_eq_true hb.1
      have h2 := eqA_eq hb.2
      have h3 : e.2.2 = v := Option.some.inj h
      obtain ⟨a, b, c⟩ := e
      simp only at h1 h2 h3
      subst h1 h2 h3
      exact List.mem_cons_self

theorem allI_get {p : Ent → Bool} : ∀ {t : T (List Ent)}, allI p t = true → ∀ i l, t.get i = some l → ∀ e ∈ l, p e = true := by
  intro t
  induction t with
  | nil => intro _ i l h; cases h
  | node v a b iha ihb =>
    intro h i l hg e he
    change (Option.rec (motive := fun _ => Bool) true (fun l => l.all p) v && (allI p a && allI p b)) = true at h
    simp only [Bool.and_eq_true] at h
    obtain ⟨h1, h2, h3⟩ := h
    change Bool.rec (motive := fun _ => Option (List Ent)) (Bool.rec (motive := fun _ => Option (List Ent)) (b.get (i / 2 - 1)) (a.get (i / 2)) (Nat.beq (i % 2) 1)) v (Nat.beq i 0) = some l at hg
    cases h0 : Nat.beq i 0 with
    | true =>
      rw [h0] at hg
      have hv : v = some l := hg
      rw [hv] at h1
      exact List.all_eq_true.1 h1 e he
    | false =>
      rw [h0] at hg
      cases hm : Nat.beq (i % 2) 1 with
      | true => rw [hm] at hg; exact iha h2 _ _ hg e he
      | false => rw [hm] at hg; exact ihb h3 _ _ hg e he

section
variable {P : Program} {G : VW}
theorem orcI_of (hT : Tabs P G) {tabs : List (Nat × List (List Value × Value))} (h : Holds P G tabs) {t : T (List Ent)} (ht : allI (isIn tabs) t = true) : AnsOk P G (findI t) := by
  intro f args v hf V
  unfold findI at hf
  cases hg : t.get (hsh f args) with
  | none => rw [hg] at hf; cases hf
  | some l =>
    rw [hg] at hf
    have hm := inBucket_mem (show inBucket f args l = some v from hf)
    have hi := allI_get ht _ _ hg _ hm
    unfold isIn at hi
    split at hi
    · rename_i u hu
      have := eqw_eq hi
      simp only at this hu
      subst this
      obtain ⟨tb, h1, h2⟩ := findF_mem hu
      obtain ⟨k1, k2, k3⟩ := Holds.all h _ h1 _ h2
      exact k1.call hT k2 k3 V
    · cases hi
end
end Go.Vx
/-! Tables that are reckoned: an entry for each number below a bound. -/
namespace Go.Vx
variable [Syms]
variable [Keeps]
open Go.RowKit

/-! Short names of values. -/
def vi (n : Nat) : Value := .int .i64 (.ofNat n)
def vn (n : Nat) : Value := .int .i64 (.negSucc n)
def vu (n : Nat) : Value := .int .u8 (.ofNat n)
def vk (k : IntKind) (n : Nat) : Value := .int k (.ofNat n)
def vl (k : IntKind) (n : Nat) : Value := .int k (.negSucc n)
def vy (n : Nat) : Value := .chan (some n)
def vt : Value := .bool true
def vf : Value := .bool false
def va (l : List Value) : Value := .agg ⟨l⟩
def vp (l : List Value) : Value := .tuple ⟨l⟩
def vs (l : List UInt8) : Value := .string ⟨⟨l⟩⟩
def vz (a b : Nat) : Value := .slice none a b

/-- The functions whose numbers are bits of m. -/
def bitsT (m : Nat) (f : Nat) : Bool := Nat.beq (Nat.mod (Nat.div m (Nat.pow (nat_lit 2) f)) (nat_lit 2)) (nat_lit 1)
/-- All numbers from lo on, n of them. -/
noncomputable def allN (p : Nat → Bool) (n : Nat) : Nat → Bool :=
  Nat.rec (motive := fun _ => Nat → Bool) (fun _ => true) (fun _ ih lo => Bool.rec (motive := fun _ => Bool) false (ih (Nat.succ lo)) (p lo)) n
theorem allN_get {p : Nat → Bool} : ∀ {n lo : Nat}, allN p n lo = true → ∀ i, lo ≤ i → i < lo + n → p i = true
  | 0, lo, _, i, h1, h2 => by omega
  | n + 1, lo, h, i, h1, h2 => by
    change Bool.rec (motive := fun _ => Bool) false (allN p n (Nat.succ lo)) (p lo) = true at h
    cases hp : p lo with
    | false => rw [hp] at h; cases h
    | true =>
      rw [hp] at h
      by_cases he : i = lo
      · rw [he]; exact hp
      · exact allN_get (lo := lo + 1) h i (by omega) (by omega)

/-- A table of one function: where an entry would stand, what it says. -/
structure Tab where
  f : Nat
  n : Nat
  key : Nat → List Value
  val : Nat → Value
  dec : List Value → Nat
noncomputable def Tab.at (t : Tab) (args : List Value) (i : Nat) : Option Value :=
  Bool.rec (motive := fun _ => Option Value) none (Bool.rec (motive := fun _ => Option Value) none (some (t.val i)) (eqA (t.key i) args)) (Nat.ble (Nat.succ i) t.n)
noncomputable def Tab.orc (t : Tab) (g : FuncId) (args : List Value) : Option Value :=
  Bool.rec (motive := fun _ => Option Value) none (t.at args (t.dec args)) (Nat.beq g t.f)

/-! An index that is made of a list. -/
noncomputable def insAt (t : T (List Ent)) (h : Nat) (e : Ent) : T (List Ent) := T.set 21 t h (e :: Option.rec (motive := fun _ => List Ent) [] (fun l => l) (t.get h))
noncomputable def mkI (l : List Ent) : T (List Ent) := List.rec (motive := fun _ => T (List Ent)) .nil (fun e _ ih => insAt ih (hsh e.1 e.2.1) e) l
theorem mkI_mem : ∀ {l : List Ent} {i : Nat} {b : List Ent}, (mkI l).get i = some b → ∀ e ∈ b, e ∈ l
  | [], i, b, h, e, he => by cases h
  | x :: l, i, b, h, e, he => by
    change (T.set 21 (mkI l) (hsh x.1 x.2.1) (x :: Option.rec (motive := fun _ => List Ent) [] (fun l => l) ((mkI l).get (hsh x.1 x.2.1)))).get i = some b at h
    have hb : hsh x.1 x.2.1 < top := Nat.lt_of_lt_of_le (Nat.mod_lt _ (by decide)) (show 8192 ≤ top by decide)
    rw [T.get_put _ _ _ hb] at h
    split at h
    · cases h
      rcases List.mem_cons.1 he with rfl | he
      · exact List.mem_cons_self
      · cases hg : (mkI l).get (hsh x.1 x.2.1) with
        | none => rw [hg] at he; cases he
        | some b' => rw [hg] at he; exact List.mem_cons_of_mem _ (mkI_mem hg e he)
    · exact List.mem_cons_of_mem _ (mkI_mem h e he)
noncomputable def orcL (l : List Ent) (f : FuncId) (args : List Value) : Option Value := findI (mkI l) f args

section
variable {P : Program} {G : VW}
omit [Syms] in
noncomputable def entOk [Prims] (P : Program) (Q : Orc) (V : VW) (e : Ent) : Bool := entryOk P Q V e.1 e.2
def Ents (P : Program) (G : VW) (l : List Ent) : Prop := ∀ e ∈ l, Entry P G e.1 e.2
theorem Ents.nil : Ents P G [] := fun _ h => by cases h
theorem Ents.app {l m : List Ent} (h : Ents P G l) (k : Ents P G m) : Ents P G (l ++ m) := fun e he => (List.mem_append.1 he).elim (h e) (k e)
theorem ents_of (hT : Tabs P G) (hG1 : G.size = P.globals.size) (hG2 : G.floor = P.globals.size) {Q : Orc} (hQ : OrcOk P G Q) {l : List Ent} (h : allL (entOk P Q G) l = true) : Ents P G l := by
  rw [allL_eq] at h
  exact fun e he => entry_of hT hG1 hG2 hQ (List.all_eq_true.1 h e he)
theorem orcL_ok (hT : Tabs P G) {l : List Ent} (h : Ents P G l) : AnsOk P G (orcL l) := by
  intro f args v hf V
  change findI (mkI l) f args = some v at hf
  unfold findI at hf
  cases hg : (mkI l).get (hsh f args) with
  | none => rw [hg] at hf; cases hf
  | some b =>
    rw [hg] at hf
    obtain ⟨k1, k2, k3⟩ := h _ (mkI_mem hg _ (inBucket_mem (show inBucket f args b = some v from hf)))
    exact k1.call hT k2 k3 V
/-- What a table says, holds. -/
def Tab.Ok (P : Program) (G : VW) (t : Tab) : Prop := ∀ i, i < t.n → Entry P G t.f (t.key i, t.val i)
theorem Tab.orc_ok (hT : Tabs P G) {t : Tab} (h : t.Ok P G) : AnsOk P G t.orc := by
  intro g args v hq V
  change Bool.rec (motive := fun _ => Option Value) none (t.at args (t.dec args)) (Nat.beq g t.f) = some v at hq
  cases hg : Nat.beq g t.f with
  | false => rw [hg] at hq; cases hq
  | true =>
    rw [hg] at hq
    have hg' := Nat.eq_of_beq_eq_true hg
    subst hg'
    change Bool.rec (motive := fun _ => Option Value) none (Bool.rec (motive := fun _ => Option Value) none (some (t.val (t.dec args))) (eqA (t.key (t.dec args)) args)) (Nat.ble (Nat.succ (t.dec args)) t.n) = some v at hq
    cases hn : Nat.ble (Nat.succ (t.dec args)) t.n with
    | false => rw [hn] at hq; cases hq
    | true =>
      rw [hn] at hq
      cases he : eqA (t.key (t.dec args)) args with
      | false => rw [he] at hq; cases hq
      | true =>
        rw [he] at hq
        have hv : t.val (t.dec args) = v := Option.some.inj hq
        have ha := eqA_eq he
        obtain ⟨k1, k2, k3⟩ := h _ (Nat.le_of_ble_eq_true hn)
        simp only [ha, hv] at k1 k2 k3
        exact k1.call hT k2 k3 V
theorem entries_allN (hT : Tabs P G) (hG1 : G.size = P.globals.size) (hG2 : G.floor = P.globals.size) {Q : Orc} (hQ : OrcOk P G Q) {f : FuncId} {key : Nat → List Value} {val : Nat → Value} {n lo : Nat}
    (h : allN (fun i => entryOk P Q G f (key i, val i)) n lo = true) : ∀ i, lo ≤ i → i < lo + n → Entry P G f (key i, val i) :=
  fun i h1 h2 => entry_of hT hG1 hG2 hQ (allN_get h i h1 h2)
end

/-! ### Symbols by tables -/
def act (ρ : Nat → Value) (v : Value) : Value := match v with
  | .chan (some i) => ρ i
  | v => v
def simp1 : Value → Bool
  | .chan (some _) => true
  | .int .. => true
  | .bool _ => true
  | _ => false
def opN : BinOp → Nat
  | .add => 0 | .sub => 1 | .mul => 2 | .quo => 3 | .rem => 4 | .and => 5 | .or => 6 | .xor => 7 | .shl => 8 | .shr => 9 | .andNot => 10 | .eql => 11 | .neq => 12 | .lss => 13 | .leq => 14 | .gtr => 15 | .geq => 16
theorem opN_inj {a b : BinOp} (h : opN a = opN b) : a = b := by
  cases a <;> cases b <;> first | rfl | (simp [opN] at h)
abbrev BinE := Nat × Value × Value × Value
abbrev ConvE := Nat × Value × Value
noncomputable def binT (l : List BinE) (op : BinOp) (x y : Value) : Option Value :=
  List.rec (motive := fun _ => Option Value) none (fun e _ ih => Bool.rec (motive := fun _ => Option Value) ih (some e.2.2.2) (Nat.beq e.1 (opN op) && (eqv e.2.1 x && eqv e.2.2.1 y))) l
noncomputable def convT (l : List ConvE) (k : IntKind) (x : Value) : Option Value :=
  List.rec (motive := fun _ => Option Value) none (fun e _ ih => Bool.rec (motive := fun _ => Option Value) ih (some e.2.2) (Nat.beq e.1 (kindN k) && eqv e.2.1 x)) l
@[reducible] noncomputable def tabPrims (bt : List BinE) (ct : List ConvE) : Prims := ⟨binT bt, convT ct⟩
theorem binT_mem {op : BinOp} {x y v : Value} : ∀ {l : List BinE}, binT l op x y = some v → (opN op, x, y, v) ∈ l
  | [], h => by cases h
  | e :: l, h => by
    change Bool.rec (motive := fun _ => Option Value) (binT l op x y) (some e.2.2.2) (Nat.beq e.1 (opN op) && (eqv e.2.1 x && eqv e.2.2.1 y)) = _ at h
    cases hb : (Nat.beq e.1 (opN op) && (eqv e.2.1 x && eqv e.2.2.1 y)) with
    | false => rw [hb] at h; exact List.mem_cons_of_mem _ (binT_mem h)
    | true =>
      rw [hb] at h
      simp only [Bool.and_eq_true] at hb
      have h1 := Nat.eq_of_beq_eq_true hb.1
      have h2 := eqv_eq hb.2.1
      have h3 := eqv_eq hb.2.2
      have h4 : e.2.2.2 = v := Option.some.inj h
      obtain ⟨a, b, c, d⟩ := e
      simp only at h1 h2 h3 h4
      subst h1 h2 h3 h4
      exact List.mem_cons_self
theorem convT_mem {k : IntKind} {x v : Value} : ∀ {l : List ConvE}, convT l k x = some v → (kindN k, x, v) ∈ l
  | [], h => by cases h
  | e :: l, h => by
    change Bool.rec (motive := fun _ => Option Value) (convT l k x) (some e.2.2) (Nat.beq e.1 (kindN k) && eqv e.2.1 x) = _ at h
    cases hb : (Nat.beq e.1 (kindN k) && eqv e.2.1 x) with
    | false => rw [hb] at h; exact List.mem_cons_of_mem _ (convT_mem h)
    | true =>
      rw [hb] at h
      simp only [Bool.and_eq_true] at hb
      have h1 := Nat.eq_of_beq_eq_true hb.1
      have h2 := eqv_eq hb.2
      have h4 : e.2.2 = v := Option.some.inj h
      obtain ⟨a, b, d⟩ := e
      simp only at h1 h2 h4
      subst h1 h2 h4
      exact List.mem_cons_self
/-- An entry on an operation says what the operation does. -/
def BinHolds (ρ : Nat → Value) (e : BinE) : Prop := simp1 e.2.1 = true ∧ simp1 e.2.2.1 = true ∧ simp1 e.2.2.2 = true ∧ ∀ op, opN op = e.1 → binFast op (act ρ e.2.1) (act ρ e.2.2.1) = some (act ρ e.2.2.2)
def ConvHolds (ρ : Nat → Value) (e : ConvE) : Prop := simp1 e.2.1 = true ∧ simp1 e.2.2 = true ∧ ∃ k0 n, act ρ e.2.1 = .int k0 n ∧ ∀ k, kindN k = e.1 → act ρ e.2.2 = .int k (wrapF k n)
def Plain1 (ρ : Nat → Value) : Prop := (∀ i, (ρ i).oneCell' = true) ∧ ∀ i b, ρ i ≠ .bool b
@[reducible] def valsOf (ρ : Nat → Value) (h : Plain1 ρ) : Vals := ⟨ρ, h.1, h.2⟩
omit [Syms] in
theorem act_of {ρ : Nat → Value} (hp : Plain1 ρ) {β : Nat → Ren} {x x' : Value} (h : @VR (valsOf ρ hp) β x x') (hs : simp1 x = true) : x' = act ρ x := by
  letI := valsOf ρ hp
  cases h with
  | atom ha => cases x <;> first | rfl | (simp [simp1] at hs; done) | (rename_i o; cases o <;> first | rfl | (simp [simp1] at hs; done) | (simp [atom] at ha; done))
  | sym => rfl
  | _ => simp [simp1] at hs
omit [Syms] in
theorem act_vr {ρ : Nat → Value} (hp : Plain1 ρ) {β : Nat → Ren} {x : Value} (hs : simp1 x = true) : @VR (valsOf ρ hp) β x (act ρ x) := by
  letI := valsOf ρ hp
  cases x <;> first | (simp [simp1] at hs; done) | exact .atom rfl | skip
  rename_i o
  cases o with
  | none => simp [simp1] at hs
  | some i => exact VR.sym
omit [Syms] in
@[reducible] noncomputable def tabSyms (ρ : Nat → Value) (hp : Plain1 ρ) (bt : List BinE) (ct : List ConvE) (hb : ∀ e ∈ bt, BinHolds ρ e) (hc : ∀ e ∈ ct, ConvHolds ρ e) : Syms :=
  { toVals := valsOf ρ hp, toPrims := tabPrims bt ct
    binOk := fun op x y v h β x' y' hx hy => by
      haveI := anySyms
      obtain ⟨h1, h2, h3, h4⟩ := hb _ (binT_mem h)
      rw [act_of hp hx h1, act_of hp hy h2]
      exact ⟨_, act_vr hp h3, h4 op rfl⟩
    convOk := fun k x v h β x' hx => by
      haveI := anySyms
      obtain ⟨h1, h2, k0, n, h3, h4⟩ := hc _ (convT_mem h)
      refine ⟨k0, n, (act_of hp hx h1).trans h3, ?_⟩
      have := act_vr (β := β) hp h2
      rw [h4 k rfl] at this
      exact this }
end Go.Vx
set_option linter.unusedVariables false
set_option linter.unusedSimpArgs false
set_option linter.unusedSectionVars false
/-! Runs on symbols: what a path of a call says of all that take it. -/
namespace Go.Vx
variable [Syms]
variable [Keeps]
open Go.RowKit

/-! ### What values with symbols stand for -/
def act1 (ρ : Nat → Value) (v : Value) : Value := match v with
  | .agg ⟨l⟩ => .agg ⟨l.map (act ρ)⟩
  | v => act ρ v
def actV (ρ : Nat → Value) (v : Value) : Value := match v with
  | .tuple ⟨l⟩ => .tuple ⟨l.map (act1 ρ)⟩
  | v => act1 ρ v
def simpA : Value → Bool
  | .agg ⟨l⟩ => l.all simp1
  | v => simp1 v
def simpV : Value → Bool
  | .tuple ⟨l⟩ => l.all simpA
  | v => simpA v
section
variable {ρ : Nat → Value} (hp : Plain1 ρ) {β : Nat → Ren}
omit [Syms] in
theorem acts_of {l : List Value} : ∀ {l' : List Value}, @VRs (valsOf ρ hp) β l l' → l.all simp1 = true → l' = l.map (act ρ) := by
  letI := valsOf ρ hp
  induction l with
  | nil => intro l' h _; cases h; rfl
  | cons x l ih =>
    intro l' h hs
    cases h with
    | cons h t =>
      simp only [List.all_cons, Bool.and_eq_true] at hs
      rw [act_of hp h hs.1, ih t hs.2]
      rfl
omit [Syms] in
theorem acts_vr {l : List Value} (hs : l.all simp1 = true) : @VRs (valsOf ρ hp) β l (l.map (act ρ)) := by
  letI := valsOf ρ hp
  induction l with
  | nil => exact VRs.nil
  | cons x l ih =>
    simp only [List.all_cons, Bool.and_eq_true] at hs
    exact VRs.cons (act_vr hp hs.1) (ih hs.2)
omit [Syms] in
theorem act1_of {x x' : Value} (h : @VR (valsOf ρ hp) β x x') (hs : simpA x = true) : x' = act1 ρ x := by
  letI := valsOf ρ hp
  cases x with
  | agg a =>
    obtain ⟨l⟩ := a
    cases h with
    | atom h => simp [atom] at h
    | agg hl =>
      rw [acts_of hp hl hs]
      rfl
  | _ => exact act_of hp h hs
omit [Syms] in
theorem act1_vr {x : Value} (hs : simpA x = true) : @VR (valsOf ρ hp) β x (act1 ρ x) := by
  letI := valsOf ρ hp
  cases x with
  | agg a => obtain ⟨l⟩ := a; exact VR.agg (acts_vr hp hs)
  | _ => exact act_vr hp hs
omit [Syms] in
theorem act1s_of {l : List Value} : ∀ {l' : List Value}, @VRs (valsOf ρ hp) β l l' → l.all simpA = true → l' = l.map (act1 ρ) := by
  letI := valsOf ρ hp
  induction l with
  | nil => intro l' h _; cases h; rfl
  | cons x l ih =>
    intro l' h hs
    cases h with
    | cons h t =>
      simp only [List.all_cons, Bool.and_eq_true] at hs
      rw [act1_of hp h hs.1, ih t hs.2]
      rfl
omit [Syms] in
theorem act1s_vr {l : List Value} (hs : l.all simpA = true) : @VRs (valsOf ρ hp) β l (l.map (act1 ρ)) := by
  letI := valsOf ρ hp
  induction l with
  | nil => exact VRs.nil
  | cons x l ih =>
    simp only [List.all_cons, Bool.and_eq_true] at hs
    exact VRs.cons (act1_vr hp hs.1) (ih hs.2)
omit [Syms] in
theorem actV_of {x x' : Value} (h : @VR (valsOf ρ hp) β x x') (hs : simpV x = true) : x' = actV ρ x := by
  letI := valsOf ρ hp
  cases x with
  | tuple a =>
    obtain ⟨l⟩ := a
    cases h with
    | atom h => simp [atom] at h
    | tuple hl =>
      rw [act1s_of hp hl hs]
      rfl
  | agg a => exact act1_of hp h hs
  | _ => exact act_of hp h hs
end

/-! ### Facts about operations -/
variable {ρ : Nat → Value}
def AllB (ρ : Nat → Value) : List BinE → Prop
  | [] => True
  | e :: l => BinHolds ρ e ∧ AllB ρ l
def AllC (ρ : Nat → Value) : List ConvE → Prop
  | [] => True
  | e :: l => ConvHolds ρ e ∧ AllC ρ l
omit [Syms] in
theorem AllB.mem : ∀ {l : List BinE}, AllB ρ l → ∀ e ∈ l, BinHolds ρ e
  | e :: l, h, x, hx => by
    rcases List.mem_cons.1 hx with rfl | hx
    · exact h.1
    · exact AllB.mem h.2 x hx
omit [Syms] in
theorem AllC.mem : ∀ {l : List ConvE}, AllC ρ l → ∀ e ∈ l, ConvHolds ρ e
  | e :: l, h, x, hx => by
    rcases List.mem_cons.1 hx with rfl | hx
    · exact h.1
    · exact AllC.mem h.2 x hx
section
omit [Syms] in
theorem bin_int {x y v : Value} {k : IntKind} {a b : Int} {n : Nat} {op : BinOp} (ho : n = opN op) (hsh : op ≠ .shl ∧ op ≠ .shr) (sv : simp1 v = true) (h : fastC op k a b = some (act ρ v)) (hx : act ρ x = .int k a) (hy : act ρ y = .int k b) (sx : simp1 x = true) (sy : simp1 y = true) : BinHolds ρ (n, x, y, v) := by
  haveI := anySyms
  refine ⟨sx, sy, sv, fun op' hop => ?_⟩
  obtain rfl : op' = op := opN_inj (hop.trans ho)
  show binFast op' (act ρ x) (act ρ y) = some (act ρ v)
  haveI := anySyms
  rw [hx, hy, binFast_eq]
  unfold binFast'
  simp only []
  rw [show Nat.beq (kindN k) (kindN k) = true by simp]
  cases op' <;> first | exact h | exact absurd rfl hsh.1 | exact absurd rfl hsh.2
omit [Syms] in
theorem bh_lss {x y : Value} {k : IntKind} {a b : Int} {r : Bool} (hx : act ρ x = .int k a) (hy : act ρ y = .int k b) (sx : simp1 x = true) (sy : simp1 y = true) (h : ltI a b = r) : BinHolds ρ (13, x, y, .bool r) := bin_int (op := .lss) rfl ⟨by simp, by simp⟩ rfl (by rw [← h]; rfl) hx hy sx sy
omit [Syms] in
theorem bh_geqT {x y : Value} {k : IntKind} {a b : Int} (hx : act ρ x = .int k a) (hy : act ρ y = .int k b) (sx : simp1 x = true) (sy : simp1 y = true) (h : ltI a b = false) : BinHolds ρ (16, x, y, .bool true) := bin_int (op := .geq) rfl ⟨by simp, by simp⟩ rfl (by show some (Value.bool (not (ltI a b))) = _; rw [h]; rfl) hx hy sx sy
omit [Syms] in
theorem bh_geqF {x y : Value} {k : IntKind} {a b : Int} (hx : act ρ x = .int k a) (hy : act ρ y = .int k b) (sx : simp1 x = true) (sy : simp1 y = true) (h : ltI a b = true) : BinHolds ρ (16, x, y, .bool false) := bin_int (op := .geq) rfl ⟨by simp, by simp⟩ rfl (by show some (Value.bool (not (ltI a b))) = _; rw [h]; rfl) hx hy sx sy
omit [Syms] in
theorem bh_gtr {x y : Value} {k : IntKind} {a b : Int} {r : Bool} (hx : act ρ x = .int k a) (hy : act ρ y = .int k b) (sx : simp1 x = true) (sy : simp1 y = true) (h : ltI b a = r) : BinHolds ρ (15, x, y, .bool r) := bin_int (op := .gtr) rfl ⟨by simp, by simp⟩ rfl (by rw [← h]; rfl) hx hy sx sy
omit [Syms] in
theorem bh_leqT {x y : Value} {k : IntKind} {a b : Int} (hx : act ρ x = .int k a) (hy : act ρ y = .int k b) (sx : simp1 x = true) (sy : simp1 y = true) (h : ltI b a = false) : BinHolds ρ (14, x, y, .bool true) := bin_int (op := .leq) rfl ⟨by simp, by simp⟩ rfl (by show some (Value.bool (not (ltI b a))) = _; rw [h]; rfl) hx hy sx sy
omit [Syms] in
theorem bh_leqF {x y : Value} {k : IntKind} {a b : Int} (hx : act ρ x = .int k a) (hy : act ρ y = .int k b) (sx : simp1 x = true) (sy : simp1 y = true) (h : ltI b a = true) : BinHolds ρ (14, x, y, .bool false) := bin_int (op := .leq) rfl ⟨by simp, by simp⟩ rfl (by show some (Value.bool (not (ltI b a))) = _; rw [h]; rfl) hx hy sx sy
omit [Syms] in
theorem bh_eql {x y : Value} {k : IntKind} {a b : Int} {r : Bool} (hx : act ρ x = .int k a) (hy : act ρ y = .int k b) (sx : simp1 x = true) (sy : simp1 y = true) (h : eqI a b = r) : BinHolds ρ (11, x, y, .bool r) := bin_int (op := .eql) rfl ⟨by simp, by simp⟩ rfl (by rw [← h]; rfl) hx hy sx sy
omit [Syms] in
theorem bh_neqT {x y : Value} {k : IntKind} {a b : Int} (hx : act ρ x = .int k a) (hy : act ρ y = .int k b) (sx : simp1 x = true) (sy : simp1 y = true) (h : eqI a b = false) : BinHolds ρ (12, x, y, .bool true) := bin_int (op := .neq) rfl ⟨by simp, by simp⟩ rfl (by show some (Value.bool (not (eqI a b))) = _; rw [h]; rfl) hx hy sx sy
omit [Syms] in
theorem bh_neqF {x y : Value} {k : IntKind} {a b : Int} (hx : act ρ x = .int k a) (hy : act ρ y = .int k b) (sx : simp1 x = true) (sy : simp1 y = true) (h : eqI a b = true) : BinHolds ρ (12, x, y, .bool false) := bin_int (op := .neq) rfl ⟨by simp, by simp⟩ rfl (by show some (Value.bool (not (eqI a b))) = _; rw [h]; rfl) hx hy sx sy
omit [Syms] in
theorem bh_add {x y v : Value} {k : IntKind} {a b : Int} (hx : act ρ x = .int k a) (hy : act ρ y = .int k b) (sx : simp1 x = true) (sy : simp1 y = true) (sv : simp1 v = true) (hv : act ρ v = .int k (wrapF k (Int.add a b))) : BinHolds ρ (0, x, y, v) := bin_int (op := .add) rfl ⟨by simp, by simp⟩ sv (by rw [hv]; rfl) hx hy sx sy
omit [Syms] in
theorem bh_sub {x y v : Value} {k : IntKind} {a b : Int} (hx : act ρ x = .int k a) (hy : act ρ y = .int k b) (sx : simp1 x = true) (sy : simp1 y = true) (sv : simp1 v = true) (hv : act ρ v = .int k (wrapF k (Int.sub a b))) : BinHolds ρ (1, x, y, v) := bin_int (op := .sub) rfl ⟨by simp, by simp⟩ sv (by rw [hv]; rfl) hx hy sx sy
omit [Syms] in
theorem bh_mul {x y v : Value} {k : IntKind} {a b : Int} (hx : act ρ x = .int k a) (hy : act ρ y = .int k b) (sx : simp1 x = true) (sy : simp1 y = true) (sv : simp1 v = true) (hv : act ρ v = .int k (wrapF k (Int.mul a b))) : BinHolds ρ (2, x, y, v) := bin_int (op := .mul) rfl ⟨by simp, by simp⟩ sv (by rw [hv]; rfl) hx hy sx sy
omit [Syms] in
theorem divF_pos {k : IntKind} {a b : Int} (h1 : 0 ≤ a) (h2 : a < posL k) (h3 : 0 < b) : divF k a b = some (.int k (a.tdiv b)) := by
  haveI := anySyms
  obtain ⟨m, rfl⟩ := Int.eq_ofNat_of_zero_le h1
  obtain ⟨n, rfl⟩ := Int.eq_ofNat_of_zero_le (Int.le_of_lt h3)
  have hm : m < posL k := by omega
  have hn : Nat.beq n 0 = false := by haveI := anySyms; exact beq_ff (by omega)
  show (match Nat.blt m (posL k) with
    | true => match Nat.beq n 0 with
      | true => none
      | false => some (Value.int k (.ofNat (Nat.div m n)))
    | false => none) = _
  haveI := anySyms
  rw [blt_tt hm, hn]
  rfl
omit [Syms] in
theorem remF_pos {k : IntKind} {a b : Int} (h1 : 0 ≤ a) (h3 : 0 < b) : remF k a b = some (.int k (a.tmod b)) := by
  haveI := anySyms
  obtain ⟨m, rfl⟩ := Int.eq_ofNat_of_zero_le h1
  obtain ⟨n, rfl⟩ := Int.eq_ofNat_of_zero_le (Int.le_of_lt h3)
  have hn : Nat.beq n 0 = false := by haveI := anySyms; exact beq_ff (by omega)
  show (match Nat.beq n 0 with
      | true => none
      | false => some (Value.int k (.ofNat (Nat.mod m n)))) = _
  rw [hn]
  rfl
omit [Syms] in
theorem bh_quo {x y v : Value} {k : IntKind} {a b : Int} (hx : act ρ x = .int k a) (hy : act ρ y = .int k b) (sx : simp1 x = true) (sy : simp1 y = true) (sv : simp1 v = true) (h1 : 0 ≤ a) (h2 : a < posL k) (h3 : 0 < b) (hv : act ρ v = .int k (a / b)) : BinHolds ρ (3, x, y, v) := bin_int (op := .quo) rfl ⟨by simp, by simp⟩ sv (by rw [hv, ← Int.tdiv_eq_ediv_of_nonneg h1]; exact divF_pos h1 h2 h3) hx hy sx sy
omit [Syms] in
theorem bh_rem {x y v : Value} {k : IntKind} {a b : Int} (hx : act ρ x = .int k a) (hy : act ρ y = .int k b) (sx : simp1 x = true) (sy : simp1 y = true) (sv : simp1 v = true) (h1 : 0 ≤ a) (h3 : 0 < b) (hv : act ρ v = .int k (a % b)) : BinHolds ρ (4, x, y, v) := bin_int (op := .rem) rfl ⟨by simp, by simp⟩ sv (by rw [hv, ← Int.tmod_eq_emod_of_nonneg h1]; exact remF_pos h1 h3) hx hy sx sy
omit [Syms] in
theorem ch_conv {x v : Value} {k : IntKind} {a : Int} {k2 : IntKind} {n : Nat} (ho : n = kindN k2) (sv : simp1 v = true) (hv : act ρ v = .int k2 (wrapF k2 a)) (hx : act ρ x = .int k a) (sx : simp1 x = true) : ConvHolds ρ (n, x, v) :=
  ⟨sx, sv, k, a, hx, fun k' hk => by
    haveI := anySyms
    haveI := anySyms
    obtain rfl : k' = k2 := kindN_inj (by rw [hk, ho]; simp)
    exact hv⟩
end

/-- Symbols for integers. -/
def ofInts (l : List (IntKind × Int)) (i : Nat) : Value := match l[i]? with
  | some p => .int p.1 p.2
  | none => .int .i64 0
omit [Syms] in
theorem ofInts_plain (l : List (IntKind × Int)) : Plain1 (ofInts l) := by
  refine ⟨fun i => ?_, fun i b h => ?_⟩
  · unfold ofInts; split <;> rfl
  · unfold ofInts at h; split at h <;> cases h
omit [Syms] in
theorem lt_of {a b : Int} {r : Bool} (h : decide (a < b) = r) : ltI a b = r := by haveI := anySyms; rw [ltI_eq]; exact h
omit [Syms] in
theorem eq_of {a b : Int} {r : Bool} (h : decide (a = b) = r) : eqI a b = r := by haveI := anySyms; rw [eqI_eq, ← h]; rfl
omit [Syms] in
theorem lt_t {a b : Int} (h : ltI a b = true) : a < b := by haveI := anySyms; rw [ltI_eq] at h; simpa using h
omit [Syms] in
theorem lt_f {a b : Int} (h : ltI a b = false) : b ≤ a := by haveI := anySyms; rw [ltI_eq] at h; simpa using h
omit [Syms] in
theorem eq_t {a b : Int} (h : eqI a b = true) : a = b := by haveI := anySyms; rw [eqI_eq] at h; exact eq_of_beq h
omit [Syms] in
theorem eq_f {a b : Int} (h : eqI a b = false) : a ≠ b := by haveI := anySyms; rw [eqI_eq] at h; intro e; subst e; simp at h

/-! ### A path -/
variable {P : Program} {G : VW}
omit [Syms] in
theorem path_known (hT : Tabs P G) (hG1 : G.size = P.globals.size) (hG2 : G.floor = P.globals.size) (hp : Plain1 ρ) {bt : List BinE} {ct : List ConvE} (hb : AllB ρ bt) (hc : AllC ρ ct) {Q : Orc}
    (hQ : @OrcOk (tabSyms ρ hp bt ct hb.mem hc.mem) _ P G Q) {f : FuncId} {args : List Value} {v : Value} (ha : args.all simpA = true) (hs : simpV v = true) (hf : (fnOf P f).isSome = true)
    (hr : isVal v (@run (tabPrims bt ct) P Q 1000000 (.call f args G)) = true) : Known P G f (args.map (act1 ρ)) (actV ρ v) := by
  letI := tabSyms ρ hp bt ct hb.mem hc.mem
  cases hc' : run P Q 1000000 (.call f args G) with
  | fall z s => have := hr; rw [show @run (tabPrims bt ct) P Q 1000000 (.call f args G) = .fall z s from hc'] at this; cases this
  | bad m n => have := hr; rw [show @run (tabPrims bt ct) P Q 1000000 (.call f args G) = .bad m n from hc'] at this; cases this
  | val u V' =>
    have h2 := hr
    rw [show @run (tabPrims bt ct) P Q 1000000 (.call f args G) = .val u V' from hc'] at h2
    have hu := eqw_eq (show eqw v u = true from h2)
    subst hu
    have hG : G = ⟨G.heap, P.globals.size, P.globals.size⟩ := by
      obtain ⟨a, b, c⟩ := G
      simp only at hG1 hG2
      subst hG1 hG2
      rfl
    rw [hG] at hc'
    cases hfn : fnOf P f with
    | none => rw [hfn] at hf; cases hf
    | some x =>
      obtain ⟨g1, g2, _⟩ := fnOf_spec hfn
      intro w hL cs
      have hW := start_ok hT hL
      obtain ⟨β', v', w', fr, h1, h2, h3, h4, h5, h6⟩ := ((run_good hT hQ 1000000).call f args _) v V' hc' _ _ w (args.map (act1 ρ)) ⟨fun _ _ => rfl, hL.2⟩ hW (act1s_vr hp ha) ⟨_, _, g1, g2⟩ cs
      have := actV_of hp h3 hs
      subst this
      exact ⟨w', fr, h4, h5, h6, h2.base⟩
omit [Syms] in
theorem path_plain (hT : Tabs P G) (hG1 : G.size = P.globals.size) (hG2 : G.floor = P.globals.size) (hp : Plain1 ρ) {bt : List BinE} {ct : List ConvE} (hb : AllB ρ bt) (hc : AllC ρ ct) {Q : Orc}
    (hQ : ∀ [Syms], OrcOk P G Q) {f : FuncId} {args : List Value} {v : Value} (ha : args.all simpA = true) (hs : simpV v = true) (hf : (fnOf P f).isSome = true)
    (hr : isVal v (@run (tabPrims bt ct) P Q 1000000 (.call f args G)) = true) : Known P G f (args.map (act1 ρ)) (actV ρ v) :=
  path_known hT hG1 hG2 hp hb hc (@hQ (tabSyms ρ hp bt ct hb.mem hc.mem)) ha hs hf hr

/-! ### Calls on symbols -/
omit [Syms] in
theorem actV_vr {ρ : Nat → Value} (hp : Plain1 ρ) {β : Nat → Ren} {x : Value} (hs : simpV x = true) : @VR (valsOf ρ hp) β x (actV ρ x) := by
  letI := valsOf ρ hp
  cases x with
  | tuple a => obtain ⟨l⟩ := a; exact VR.tuple (act1s_vr hp hs)
  | agg a => exact act1_vr hp hs
  | _ => exact act_vr hp hs
noncomputable def ansT (l : List Ent) (f : FuncId) (args : List Value) : Option Value :=
  List.rec (motive := fun _ => Option Value) none (fun e _ ih => Bool.rec (motive := fun _ => Option Value) ih (some e.2.2) (Nat.beq e.1 f && eqA e.2.1 args)) l
omit [Syms] in
theorem ansT_mem {f : FuncId} {args : List Value} {v : Value} : ∀ {l : List Ent}, ansT l f args = some v → (f, args, v) ∈ l
  | [], h => by cases h
  | e :: l, h => by
    haveI := anySyms
    change Bool.rec (motive := fun _ => Option Value) (ansT l f args) (some e.2.2) (Nat.beq e.1 f && eqA e.2.1 args) = _ at h
    cases hb : (Nat.beq e.1 f && eqA e.2.1 args) with
    | false => rw [hb] at h; exact List.mem_cons_of_mem _ (ansT_mem h)
    | true =>
      rw [hb] at h
      simp only [Bool.and_eq_true] at hb
      have h1 := Nat.eq_of_beq_eq_true hb.1
      have h2 := eqA_eq hb.2
      have h3 : e.2.2 = v := Option.some.inj h
      obtain ⟨a, b, c⟩ := e
      simp only at h1 h2 h3
      subst h1 h2 h3
      exact List.mem_cons_self
/-- An entry on a call says what the call answers. -/
def EntHolds (P : Program) (G : VW) (ρ : Nat → Value) (e : Ent) : Prop := e.2.1.all simpA = true ∧ simpV e.2.2 = true ∧ Known P G e.1 (e.2.1.map (act1 ρ)) (actV ρ e.2.2)
def AllE (P : Program) (G : VW) (ρ : Nat → Value) : List Ent → Prop
  | [] => True
  | e :: l => EntHolds P G ρ e ∧ AllE P G ρ l
omit [Syms] in
theorem AllE.mem : ∀ {l : List Ent}, AllE P G ρ l → ∀ e ∈ l, EntHolds P G ρ e
  | e :: l, h, x, hx => by
    rcases List.mem_cons.1 hx with rfl | hx
    · exact h.1
    · exact AllE.mem h.2 x hx
omit [Syms] in
theorem path_calls (hT : Tabs P G) (hG1 : G.size = P.globals.size) (hG2 : G.floor = P.globals.size) (hp : Plain1 ρ) {bt : List BinE} {ct : List ConvE} (hb : AllB ρ bt) (hc : AllC ρ ct) {el : List Ent} (he : AllE P G ρ el)
    {f : FuncId} {args : List Value} {v : Value} (ha : args.all simpA = true) (hs : simpV v = true) (hf : (fnOf P f).isSome = true)
    (hr : isVal v (@run (tabPrims bt ct) P (valOrc (fun _ => false) G (ansT el)) 1000000 (.call f args G)) = true) : Known P G f (args.map (act1 ρ)) (actV ρ v) := by
  refine path_known hT hG1 hG2 hp hb hc ?_ ha hs hf hr
  letI := tabSyms ρ hp bt ct hb.mem hc.mem
  refine valOrc_ok ?_ fun f' args' v' h V => ?_
  · obtain ⟨a, b, c⟩ := G
    simp only at hG1 hG2
    subst hG1 hG2
    rfl
  · obtain ⟨h1, h2, h3⟩ := he.mem _ (ansT_mem h)
    intro v1 V1 hv B β w A hB hW hA _ cs
    cases hv
    have := act1s_of hp hA h1
    subst this
    obtain ⟨w', fr, g1, g2, g3, g4⟩ := h3 w (lies_of hT hB hW) cs
    exact ⟨β, _, w', fr, .refl _, hW.later g4, actV_vr hp h2, g1, g2, g3⟩
end Go.Vx
set_option linter.unusedVariables false
set_option linter.unusedSimpArgs false
set_option linter.unusedSectionVars false
/-! Calls that are handed rows, as entries. -/
namespace Go.Vx
variable [Syms]
variable [Keeps]
open Go.RowKit

/-- A row that is handed in, or brought. -/
structure RowD where
  cells : List Value
  ty : TypeId
/-- A call and what it answers: blocks from N on are the rows handed in, behind them the new ones. -/
structure DeepE where
  f : Nat
  args : List Value
  rows : List RowD
  val : Value
  new : List RowD

/-! ### Other names for blocks -/
/-- The value c, whose blocks from N on are names for those of a list. -/
inductive LR (N : Nat) (l : List Nat) : Value → Value → Prop where
  | atom {v : Value} (h : atom v = true) : LR N l v v
  | sym {i : Nat} : LR N l (.chan (some i)) (.chan (some i))
  | sl {j b o n c : Nat} (h : l[j]? = some b) : LR N l (.slice (some ⟨N + j, o, none⟩) n c) (.slice (some ⟨b, o, none⟩) n c)
  | slG {b o n c : Nat} (h : b < N) : LR N l (.slice (some ⟨b, o, none⟩) n c) (.slice (some ⟨b, o, none⟩) n c)
  | ptr {j b o : Nat} (h : l[j]? = some b) : LR N l (.pointer (some ⟨N + j, o, none⟩)) (.pointer (some ⟨b, o, none⟩))
  | ptrG {b o : Nat} (h : b < N) : LR N l (.pointer (some ⟨b, o, none⟩)) (.pointer (some ⟨b, o, none⟩))
/-- Lists of such. -/
inductive LRs (N : Nat) (l : List Nat) : List Value → List Value → Prop where
  | nil : LRs N l [] []
  | cons {x y : Value} {a b : List Value} (h : LR N l x y) (t : LRs N l a b) : LRs N l (x :: a) (y :: b)
inductive LA (N : Nat) (l : List Nat) : Value → Value → Prop where
  | leaf {x y : Value} (h : LR N l x y) : LA N l x y
  | agg {a b : List Value} (h : LRs N l a b) : LA N l (.agg ⟨a⟩) (.agg ⟨b⟩)
inductive LAs (N : Nat) (l : List Nat) : List Value → List Value → Prop where
  | nil : LAs N l [] []
  | cons {x y : Value} {a b : List Value} (h : LA N l x y) (t : LAs N l a b) : LAs N l (x :: a) (y :: b)
inductive LV (N : Nat) (l : List Nat) : Value → Value → Prop where
  | one {x y : Value} (h : LA N l x y) : LV N l x y
  | tuple {a b : List Value} (h : LAs N l a b) : LV N l (.tuple ⟨a⟩) (.tuple ⟨b⟩)

/-- A block's name. -/
noncomputable def nmB (N : Nat) (l : List Nat) (x b : Nat) : Bool := match Nat.blt x N with
  | true => Nat.beq x b
  | false => match nthL l (Nat.sub x N) with
    | some b' => Nat.beq b' b
    | none => false
noncomputable def atomB (x y : Value) : Bool := match x with
  | .int .. => eq1 x y
  | .bool _ => eq1 x y
  | .string _ => eq1 x y
  | .chan (some _) => eq1 x y
  | .slice none _ _ => eq1 x y
  | .nilFunc => match y with | .nilFunc => true | _ => false
  | .nilIface => match y with | .nilIface => true | _ => false
  | .pointer none => match y with | .pointer none => true | _ => false
  | .map none => match y with | .map none => true | _ => false
  | .func (.func g) ⟨[]⟩ ⟨[]⟩ => match y with | .func (.func g') ⟨[]⟩ ⟨[]⟩ => Nat.beq g g' | _ => false
  | _ => false
noncomputable def lrB (N : Nat) (l : List Nat) (x y : Value) : Bool := match x with
  | .slice (some ⟨a, o, none⟩) n c => (match y with
    | .slice (some ⟨b, o', none⟩) n' c' => Nat.beq n n' && (Nat.beq c c' && (Nat.beq o o' && nmB N l a b))
    | _ => false)
  | .pointer (some ⟨a, o, none⟩) => (match y with
    | .pointer (some ⟨b, o', none⟩) => Nat.beq o o' && nmB N l a b
    | _ => false)
  | x => atomB x y
noncomputable def lrsB (N : Nat) (l : List Nat) : List Value → List Value → Bool
  | [], [] => true
  | x :: a, y :: b => lrB N l x y && lrsB N l a b
  | _, _ => false
noncomputable def laB (N : Nat) (l : List Nat) (x y : Value) : Bool := match x with
  | .agg a => (match y with
    | .agg b => lrsB N l a.toList b.toList
    | _ => false)
  | x => lrB N l x y
noncomputable def lasB (N : Nat) (l : List Nat) : List Value → List Value → Bool
  | [], [] => true
  | x :: a, y :: b => laB N l x y && lasB N l a b
  | _, _ => false
noncomputable def lvB (N : Nat) (l : List Nat) (x y : Value) : Bool := match x with
  | .tuple a => (match y with
    | .tuple b => lasB N l a.toList b.toList
    | _ => false)
  | x => laB N l x y

theorem atomB_spec {N : Nat} {l : List Nat} {x y : Value} (h : atomB x y = true) : LR N l x y := by
  unfold atomB at h
  split at h
  · obtain rfl := eq1_eq h; exact .atom rfl
  · obtain rfl := eq1_eq h; exact .atom rfl
  · obtain rfl := eq1_eq h; exact .atom rfl
  · obtain rfl := eq1_eq h; exact .sym
  · obtain rfl := eq1_eq h; exact .atom rfl
  · split at h
    · exact .atom rfl
    · cases h
  · split at h
    · exact .atom rfl
    · cases h
  · split at h
    · exact .atom rfl
    · cases h
  · split at h
    · exact .atom rfl
    · cases h
  · split at h
    · rename_i g g'
      obtain rfl := Nat.eq_of_beq_eq_true h
      exact .atom rfl
    · cases h
  · cases h
theorem nmB_spec {N : Nat} {l : List Nat} {x b : Nat} (h : nmB N l x b = true) : (x < N ∧ x = b) ∨ ∃ j, x = N + j ∧ l[j]? = some b := by
  unfold nmB at h
  split at h
  · rename_i hb
    exact .inl ⟨blt_lt hb, Nat.eq_of_beq_eq_true h⟩
  · rename_i hb
    have hx : N ≤ x := by
      rcases Nat.lt_or_ge x N with k | k
      · rw [blt_tt k] at hb; cases hb
      · exact k
    split at h
    · rename_i b' hn
      rw [nthL_eq] at hn
      obtain rfl := Nat.eq_of_beq_eq_true h
      exact .inr ⟨x - N, by omega, hn⟩
    · cases h
theorem lrB_spec {N : Nat} {l : List Nat} {x y : Value} (h : lrB N l x y = true) : LR N l x y := by
  unfold lrB at h
  split at h
  · split at h
    · simp only [Bool.and_eq_true] at h
      obtain ⟨h1, h2, h3, h4⟩ := h
      obtain rfl := Nat.eq_of_beq_eq_true h1
      obtain rfl := Nat.eq_of_beq_eq_true h2
      obtain rfl := Nat.eq_of_beq_eq_true h3
      rcases nmB_spec h4 with ⟨k1, rfl⟩ | ⟨j, rfl, k⟩
      · exact .slG k1
      · exact .sl k
    · cases h
  · split at h
    · simp only [Bool.and_eq_true] at h
      obtain ⟨h3, h4⟩ := h
      obtain rfl := Nat.eq_of_beq_eq_true h3
      rcases nmB_spec h4 with ⟨k1, rfl⟩ | ⟨j, rfl, k⟩
      · exact .ptrG k1
      · exact .ptr k
    · cases h
  · exact atomB_spec h
theorem lrsB_spec {N : Nat} {l : List Nat} : ∀ {a b : List Value}, lrsB N l a b = true → LRs N l a b
  | [], [], _ => .nil
  | x :: a, y :: b, h => by
    unfold lrsB at h
    simp only [Bool.and_eq_true] at h
    exact .cons (lrB_spec h.1) (lrsB_spec h.2)
  | [], _ :: _, h => by cases h
  | _ :: _, [], h => by cases h
theorem laB_spec {N : Nat} {l : List Nat} {x y : Value} (h : laB N l x y = true) : LA N l x y := by
  unfold laB at h
  split at h
  · split at h
    · rename_i a _ b
      obtain ⟨a⟩ := a
      obtain ⟨b⟩ := b
      exact .agg (lrsB_spec h)
    · cases h
  · exact .leaf (lrB_spec h)
theorem lasB_spec {N : Nat} {l : List Nat} : ∀ {a b : List Value}, lasB N l a b = true → LAs N l a b
  | [], [], _ => .nil
  | x :: a, y :: b, h => by
    unfold lasB at h
    simp only [Bool.and_eq_true] at h
    exact .cons (laB_spec h.1) (lasB_spec h.2)
  | [], _ :: _, h => by cases h
  | _ :: _, [], h => by cases h
theorem lvB_spec {N : Nat} {l : List Nat} {x y : Value} (h : lvB N l x y = true) : LV N l x y := by
  unfold lvB at h
  split at h
  · split at h
    · rename_i a _ b
      obtain ⟨a⟩ := a
      obtain ⟨b⟩ := b
      exact .tuple (lasB_spec h)
    · cases h
  · exact .one (laB_spec h)

/-- What the names stand for. -/
def atN (N : Nat) (l : List Nat) (β : Nat → Ren) : Nat → Ren := fun y => if y < N then β y else match l[y - N]? with
  | some b => β b
  | none => .fresh
theorem atN_lo {N : Nat} {l : List Nat} {β : Nat → Ren} {y : Nat} (h : y < N) : atN N l β y = β y := if_pos h
theorem atN_hi {N : Nat} {l : List Nat} {β : Nat → Ren} {j b : Nat} (h : l[j]? = some b) : atN N l β (N + j) = β b := by
  unfold atN
  rw [if_neg (by omega), show N + j - N = j by omega, h]
theorem atN_out {N : Nat} {l : List Nat} {β : Nat → Ren} {j : Nat} (h : l[j]? = none) : atN N l β (N + j) = .fresh := by
  unfold atN
  rw [if_neg (by omega), show N + j - N = j by omega, h]

section
variable {N : Nat} {l : List Nat} {β : Nat → Ren}
theorem LR.down {x y v : Value} (h : LR N l x y) (hv : VR β y v) : VR (atN N l β) x v := by
  cases h with
  | atom ha => rw [hv.of_atom ha]; exact .atom ha
  | sym => cases hv with
    | atom h => simp [Vx.atom] at h
    | sym => exact .sym
  | sl h => cases hv with
    | atom h => simp [Vx.atom] at h
    | sl k hn hc => exact .sl ((atN_hi h).trans k) hn hc
    | slD k hn hc => exact .slD ((atN_hi h).trans k) hn hc
  | slG h => cases hv with
    | atom h => simp [Vx.atom] at h
    | sl k hn hc => exact .sl ((atN_lo h).trans k) hn hc
    | slD k hn hc => exact .slD ((atN_lo h).trans k) hn hc
  | ptr h => cases hv with
    | atom h => simp [Vx.atom] at h
    | ptr k => exact .ptr ((atN_hi h).trans k)
    | ptrD k => exact .ptrD ((atN_hi h).trans k)
  | ptrG h => cases hv with
    | atom h => simp [Vx.atom] at h
    | ptr k => exact .ptr ((atN_lo h).trans k)
    | ptrD k => exact .ptrD ((atN_lo h).trans k)
theorem LR.up {x y v : Value} (h : LR N l x y) (hv : VR (atN N l β) x v) : VR β y v := by
  cases h with
  | atom ha => rw [hv.of_atom ha]; exact .atom ha
  | sym => cases hv with
    | atom h => simp [Vx.atom] at h
    | sym => exact .sym
  | sl h => cases hv with
    | atom h => simp [Vx.atom] at h
    | sl k hn hc => exact .sl ((atN_hi h).symm.trans k) hn hc
    | slD k hn hc => exact .slD ((atN_hi h).symm.trans k) hn hc
  | slG h => cases hv with
    | atom h => simp [Vx.atom] at h
    | sl k hn hc => exact .sl ((atN_lo h).symm.trans k) hn hc
    | slD k hn hc => exact .slD ((atN_lo h).symm.trans k) hn hc
  | ptr h => cases hv with
    | atom h => simp [Vx.atom] at h
    | ptr k => exact .ptr ((atN_hi h).symm.trans k)
    | ptrD k => exact .ptrD ((atN_hi h).symm.trans k)
  | ptrG h => cases hv with
    | atom h => simp [Vx.atom] at h
    | ptr k => exact .ptr ((atN_lo h).symm.trans k)
    | ptrD k => exact .ptrD ((atN_lo h).symm.trans k)
theorem LRs.down {x y v : List Value} (h : LRs N l x y) (hv : VRs β y v) : VRs (atN N l β) x v := by
  induction h generalizing v with
  | nil => cases hv; exact .nil
  | cons h t ih => cases hv with
    | cons k m => exact .cons (h.down k) (ih m)
theorem LRs.up {x y v : List Value} (h : LRs N l x y) (hv : VRs (atN N l β) x v) : VRs β y v := by
  induction h generalizing v with
  | nil => cases hv; exact .nil
  | cons h t ih => cases hv with
    | cons k m => exact .cons (h.up k) (ih m)
theorem LA.down {x y v : Value} (h : LA N l x y) (hv : VR β y v) : VR (atN N l β) x v := by
  cases h with
  | leaf h => exact h.down hv
  | agg h => cases hv with
    | atom h => simp [Vx.atom] at h
    | agg k => exact .agg (h.down k)
theorem LA.up {x y v : Value} (h : LA N l x y) (hv : VR (atN N l β) x v) : VR β y v := by
  cases h with
  | leaf h => exact h.up hv
  | agg h => cases hv with
    | atom h => simp [Vx.atom] at h
    | agg k => exact .agg (h.up k)
theorem LAs.down {x y v : List Value} (h : LAs N l x y) (hv : VRs β y v) : VRs (atN N l β) x v := by
  induction h generalizing v with
  | nil => cases hv; exact .nil
  | cons h t ih => cases hv with
    | cons k m => exact .cons (h.down k) (ih m)
theorem LAs.up {x y v : List Value} (h : LAs N l x y) (hv : VRs (atN N l β) x v) : VRs β y v := by
  induction h generalizing v with
  | nil => cases hv; exact .nil
  | cons h t ih => cases hv with
    | cons k m => exact .cons (h.up k) (ih m)
theorem LV.down {x y v : Value} (h : LV N l x y) (hv : VR β y v) : VR (atN N l β) x v := by
  cases h with
  | one h => exact h.down hv
  | tuple h => cases hv with
    | atom h => simp [Vx.atom] at h
    | tuple k => exact .tuple (h.down k)
theorem LV.up {x y v : Value} (h : LV N l x y) (hv : VR (atN N l β) x v) : VR β y v := by
  cases h with
  | one h => exact h.up hv
  | tuple h => cases hv with
    | atom h => simp [Vx.atom] at h
    | tuple k => exact .tuple (h.up k)
end

/-! ### Which blocks a value names -/
noncomputable def hasB (b : Nat) (v : Value) : Bool := match v with
  | .slice (some ⟨a, _, none⟩) _ _ => Nat.beq a b
  | .pointer (some ⟨a, _, none⟩) => Nat.beq a b
  | _ => false
noncomputable def hasA (b : Nat) (v : Value) : Bool := match v with
  | .agg a => a.toList.any (hasB b)
  | v => hasB b v
noncomputable def hasV (b : Nat) (v : Value) : Bool := match v with
  | .tuple a => a.toList.any (hasA b)
  | v => hasA b v
def There (β : Nat → Ren) (b : Nat) : Prop := (∃ r cp sh, β b = .live r cp sh) ∨ β b = .dead
section
variable {β : Nat → Ren}
theorem hasB_spec {b : Nat} {v v' : Value} (h : hasB b v = true) (hv : VR β v v') : There β b := by
  unfold hasB at h
  split at h
  · obtain rfl := Nat.eq_of_beq_eq_true h
    cases hv with
    | atom h => simp [Vx.atom] at h
    | sl k _ _ => exact .inl ⟨_, _, _, k⟩
    | slD k _ _ => exact .inr k
  · obtain rfl := Nat.eq_of_beq_eq_true h
    cases hv with
    | atom h => simp [Vx.atom] at h
    | ptr k => exact .inl ⟨_, _, _, k⟩
    | ptrD k => exact .inr k
  · cases h
theorem VRs.of_any {p : Value → Bool} {b : Nat} (hp : ∀ {v v' : Value}, p v = true → VR β v v' → There β b) : ∀ {l l' : List Value}, l.any p = true → VRs β l l' → There β b
  | _, _, h, .nil => by cases h
  | _, _, h, .cons k m => by
    rw [List.any_cons, Bool.or_eq_true] at h
    rcases h with h | h
    · exact hp h k
    · exact VRs.of_any hp h m
theorem hasA_spec {b : Nat} {v v' : Value} (h : hasA b v = true) (hv : VR β v v') : There β b := by
  unfold hasA at h
  split at h
  · rename_i a
    obtain ⟨a⟩ := a
    cases hv with
    | atom h => simp [Vx.atom] at h
    | agg k => exact VRs.of_any hasB_spec h k
  · exact hasB_spec h hv
theorem hasV_spec {b : Nat} {v v' : Value} (h : hasV b v = true) (hv : VR β v v') : There β b := by
  unfold hasV at h
  split at h
  · rename_i a
    obtain ⟨a⟩ := a
    cases hv with
    | atom h => simp [Vx.atom] at h
    | tuple k => exact VRs.of_any hasA_spec h k
  · exact hasA_spec h hv
end

/-! ### Rows on a heap -/
noncomputable def pushRows (fz : Bool) (l : List RowD) : VW → VW := List.rec (motive := fun _ => VW → VW) (fun V => V) (fun r _ ih V => ih (V.push (.cells r.cells r.ty fz))) l
theorem pushRows_cons (fz : Bool) (r : RowD) (l : List RowD) (V : VW) : pushRows fz (r :: l) V = pushRows fz l (V.push (.cells r.cells r.ty fz)) := rfl
theorem pushRows_size (fz : Bool) : ∀ (l : List RowD) (V : VW), (pushRows fz l V).size = V.size + l.length
  | [], V => rfl
  | r :: l, V => by rw [pushRows_cons, pushRows_size fz l, VW.size_push]; simp; omega
theorem pushRows_floor (fz : Bool) : ∀ (l : List RowD) (V : VW), (pushRows fz l V).floor = V.floor
  | [], V => rfl
  | r :: l, V => by rw [pushRows_cons, pushRows_floor fz l]; rfl
theorem pushRows_get (fz : Bool) : ∀ (l : List RowD) (V : VW), V.size + l.length ≤ top → ∀ i, (pushRows fz l V).heap.get i = if i < V.size then V.heap.get i else match l[i - V.size]? with
    | some r => some (.cells r.cells r.ty fz)
    | none => V.heap.get i
  | [], V, _, i => by simp [pushRows]
  | r :: l, V, h, i => by
    simp only [List.length_cons] at h
    rw [pushRows_cons, pushRows_get fz l _ (by rw [VW.size_push]; omega) i, VW.size_push, VW.get_push (by omega)]
    by_cases h1 : i < V.size
    · rw [if_pos (by omega), if_pos h1, if_neg (by omega)]
    · rw [if_neg h1]
      by_cases h2 : i = V.size
      · subst h2
        rw [if_pos (by omega), if_pos rfl]
        simp
      · rw [if_neg (by omega), show i - V.size = (i - (V.size + 1)) + 1 by omega]
        simp only [List.getElem?_cons_succ]
        split
        · rfl
        · rw [if_neg h2]

/-- A block holds a row. -/
noncomputable def rowAt (V : VW) (b : Nat) (r : RowD) : Bool := match V.heap.get b with
  | some (.cells c t _) => Nat.beq t r.ty && eqA r.cells c
  | some (.grow rc _ t) => Nat.beq t r.ty && eqA r.cells (revOn rc [])
  | _ => false
noncomputable def rowsAt (V : VW) (l : List Nat) (rs : List RowD) : Bool :=
  List.rec (motive := fun _ => List Nat → Bool) (fun l => match l with | [] => true | _ => false)
    (fun r _ ih l => match l with | b :: t => rowAt V b r && ih t | [] => false) rs l
theorem rowAt_spec {P : Program} {V : VW} {b : Nat} {r : RowD} (h : rowAt V b r = true) : ∃ ob, V.heap.get b = some ob ∧ ob ≠ .dfr true ∧ ∀ {β : Nat → Ren} {cp sh : Nat} {o' : Obj}, ObjR P β cp sh ob o' → ∃ fz, ObjR P β cp sh (.cells r.cells r.ty fz) o' := by
  unfold rowAt at h
  split at h
  · rename_i c t fz hg
    simp only [Bool.and_eq_true] at h
    obtain ⟨k2, k3⟩ := h
    have k2 := Nat.eq_of_beq_eq_true k2
    have k3 := eqA_eq k3
    subst k2 k3
    exact ⟨_, hg, nofun, fun h => ⟨_, h⟩⟩
  · rename_i rc n t hg
    simp only [Bool.and_eq_true] at h
    obtain ⟨k2, k3⟩ := h
    have k2 := Nat.eq_of_beq_eq_true k2
    have k3 := eqA_eq k3
    rw [revOn_eq, List.append_nil] at k3
    refine ⟨_, hg, nofun, fun h => ⟨false, ?_⟩⟩
    rw [k3, ← k2]
    exact h.grow'.2
  · cases h
theorem rowsAt_spec {V : VW} : ∀ {rs : List RowD} {l : List Nat}, rowsAt V l rs = true → l.length = rs.length ∧ ∀ (j b : Nat) (r : RowD), l[j]? = some b → rs[j]? = some r → rowAt V b r = true
  | [], [], _ => ⟨rfl, fun j b r h => by simp at h⟩
  | [], _ :: _, h => by cases h
  | _ :: _, [], h => by cases h
  | r :: rs, b :: l, h => by
    change (rowAt V b r && rowsAt V l rs) = true at h
    simp only [Bool.and_eq_true] at h
    obtain ⟨h1, h2⟩ := rowsAt_spec h.2
    refine ⟨by simp [h1], fun j b' r' g1 g2 => ?_⟩
    cases j with
    | zero => simp only [List.getElem?_cons_zero, Option.some.injEq] at g1 g2; subst g1 g2; exact h.1
    | succ j => simp only [List.getElem?_cons_succ] at g1 g2; exact h2 j b' r' g1 g2
/-- No two are the same, all from N on. -/
noncomputable def aloneB (N : Nat) : List Nat → Bool
  | [] => true
  | b :: l => Nat.ble N b && (l.all (fun x => !Nat.beq x b) && aloneB N l)
theorem aloneB_spec {N : Nat} : ∀ {l : List Nat}, aloneB N l = true → (∀ (j b : Nat), l[j]? = some b → N ≤ b) ∧ ∀ (i j b : Nat), l[i]? = some b → l[j]? = some b → i = j
  | [], _ => ⟨fun j b h => by simp at h, fun i j b h => by simp at h⟩
  | x :: l, h => by
    unfold aloneB at h
    simp only [Bool.and_eq_true] at h
    obtain ⟨h1, h2, h3⟩ := h
    obtain ⟨k1, k2⟩ := aloneB_spec h3
    have hx : ∀ (j : Nat), l[j]? ≠ some x := fun j hj => by
      have := List.all_eq_true.1 h2 x (List.mem_of_getElem? hj)
      simp at this
    refine ⟨fun j b hb => ?_, fun i j b hi hj => ?_⟩
    · cases j with
      | zero => simp only [List.getElem?_cons_zero, Option.some.injEq] at hb; subst hb; exact Nat.le_of_ble_eq_true h1
      | succ j => exact k1 j b (by simpa using hb)
    · cases i with
      | zero =>
        simp only [List.getElem?_cons_zero, Option.some.injEq] at hi; subst hi
        cases j with
        | zero => rfl
        | succ j => exact absurd (by simpa using hj) (hx j)
      | succ i =>
        cases j with
        | zero => simp only [List.getElem?_cons_zero, Option.some.injEq] at hj; subst hj; exact absurd (by simpa using hi) (hx i)
        | succ j => rw [k2 i j b (by simpa using hi) (by simpa using hj)]

/-! ### What such an entry says -/
section
variable {P : Program} {G : VW}
structure SBox where
  s : Syms
/-- A call that is handed rows comes back with a value and new rows, and turns nothing that is there. -/
def KnownD (P : Program) (G : VW) (e : DeepE) : Prop :=
  ∀ (S : SBox) (w : World), Lies P G w → ∀ (β : Nat → Ren), (∀ g, g < P.globals.size → β g = .live g 0 0) → (∀ y, P.globals.size + e.rows.length ≤ y → β y = .fresh) →
    (∀ j r, e.rows[j]? = some r → ∃ b cp sh fz o', β (P.globals.size + j) = .live b cp sh ∧ w.heap[b]? = some o' ∧ @ObjR S.s P (fun _ => .fresh) cp sh (.cells r.cells r.ty fz) o') →
    (∀ i j b cp sh cp' sh', β i = .live b cp sh → β j = .live b cp' sh' → i = j) →
    ∀ args', @VRs S.s.toVals β e.args args' → ∀ cs, ∃ w' fr v' β', Steps P (lone (Frame.enter P e.f ⟨args'⟩ .normal) cs w) (lone fr cs w') ∧ fr.fn = e.f ∧ fr.leaving P w' (.returned v') ∧ Below w.heap.size w w' ∧
      (∀ y, y < P.globals.size + e.rows.length → β' y = β y) ∧ (∀ y, P.globals.size + e.rows.length + e.new.length ≤ y → β' y = .fresh) ∧
      (∀ i r, e.new[i]? = some r → ∃ b cp sh o', β' (P.globals.size + e.rows.length + i) = .live b cp sh ∧ w.heap.size ≤ b ∧ w'.heap[b]? = some o' ∧ ∀ S' : SBox, @ObjR S'.s P (fun _ => .fresh) cp sh (.cells r.cells r.ty false) o') ∧
      (∀ i j b cp sh cp' sh', i < e.new.length → j < e.new.length → β' (P.globals.size + e.rows.length + i) = .live b cp sh → β' (P.globals.size + e.rows.length + j) = .live b cp' sh' → i = j) ∧
      ∀ S' : SBox, @VR S'.s.toVals β' e.val v'

/-- New rows are there. -/
theorem push_new {B : Base} {β' : Nat → Ren} {K : Nat} {w0 w' : World} (hw : B.w0.heap.size ≤ w0.heap.size) (hp : ∀ b, B.prot b → b < w0.heap.size) :
    ∀ (rs : List RowD) (β : Nat → Ren) (V : VW) (k : Nat), WR P B β V w' → V.size + rs.length ≤ top →
      (∀ i b cp sh, β i = .live b cp sh → b < w0.heap.size ∨ ∃ j < k, ∃ cp' sh', β' (K + j) = .live b cp' sh') →
      (∀ i r, rs[i]? = some r → ∃ b cp sh o', β' (K + (k + i)) = .live b cp sh ∧ w0.heap.size ≤ b ∧ w'.heap[b]? = some o' ∧ ∀ S' : SBox, @ObjR S'.s P (fun _ => .fresh) cp sh (.cells r.cells r.ty false) o') →
      (∀ i j b cp sh cp' sh', i < k + rs.length → j < k + rs.length → β' (K + i) = .live b cp sh → β' (K + j) = .live b cp' sh' → i = j) →
      ∃ β2, Ext β β2 ∧ WR P B β2 (pushRows false rs V) w' ∧ (∀ y, y < V.size → β2 y = β y) ∧ ∀ i, i < rs.length → β2 (V.size + i) = β' (K + (k + i))
  | [], β, V, k, hW, _, _, _, _ => ⟨β, .refl _, hW, fun _ _ => rfl, fun i hi => by simp at hi⟩
  | r :: rs, β, V, k, hW, ht, hlo, hr, hi => by
    simp only [List.length_cons] at ht hi
    obtain ⟨b, cp, sh, o', h1, h2, h3, h4⟩ := hr 0 r rfl
    rw [Nat.add_zero] at h1
    have hx : Ext (fun _ => Ren.fresh) β := ⟨fun j b cp sh e => by (cases e), fun j e => by (cases e)⟩
    obtain ⟨g1, g2⟩ := hW.attach (by omega) h3 ⟨Nat.le_trans hw h2, fun hpb => absurd (hp b hpb) (by omega)⟩ (fun i cp' sh' hl => by
      rcases hlo i b cp' sh' hl with k1 | ⟨j, k1, c2, s2, k2⟩
      · omega
      · have := hi j k b _ _ _ _ (by omega) (by omega) k2 h1
        omega) cp sh ((h4 ⟨‹Syms›⟩).mono hx)
    rw [putObj_self h3] at g1
    obtain ⟨β2, e1, e2, e3, e4⟩ := push_new hw hp rs _ (V.push (.cells r.cells r.ty false)) (k + 1) g1 (by rw [VW.size_push]; omega) (fun i b' cp' sh' hl => by
        by_cases hiv : i = V.size
        · subst hiv
          rw [upd_same] at hl
          cases hl
          exact .inr ⟨k, by omega, _, _, h1⟩
        · rw [upd_ne _ _ hiv] at hl
          rcases hlo i b' cp' sh' hl with k1 | ⟨j, k1, c2, s2, k2⟩
          · exact .inl k1
          · exact .inr ⟨j, by omega, c2, s2, k2⟩)
      (fun i r' hr' => by
        obtain ⟨b', cp', sh', o2, q1, q2⟩ := hr (i + 1) r' (by simpa using hr')
        exact ⟨b', cp', sh', o2, by rw [← q1]; congr 1; omega, q2⟩)
      (fun i j b' c1 s1 c2 s2 q1 q2 => hi i j b' c1 s1 c2 s2 (by omega) (by omega))
    refine ⟨β2, g2.trans e1, e2, fun y hy => ?_, fun i hi' => ?_⟩
    · rw [e3 y (by rw [VW.size_push]; omega), upd_ne _ _ (by omega)]
    · cases i with
      | zero => rw [Nat.add_zero, e3 _ (by rw [VW.size_push]; omega), upd_same, Nat.add_zero, h1]
      | succ i =>
        have := e4 i (by simp at hi'; omega)
        rw [VW.size_push] at this
        rw [show V.size + (i + 1) = V.size + 1 + i by omega, this]
        congr 1
        omega

/-- The numbers of new blocks. -/
noncomputable def upto (a : Nat) : Nat → List Nat
  | 0 => []
  | n + 1 => a :: upto (a + 1) n
theorem upto_len : ∀ (n a : Nat), (upto a n).length = n
  | 0, a => rfl
  | n + 1, a => by simp [upto, upto_len n]
theorem upto_get : ∀ (n a i : Nat), i < n → (upto a n)[i]? = some (a + i)
  | n + 1, a, 0, _ => rfl
  | n + 1, a, i + 1, h => by
    show (upto (a + 1) n)[i]? = _
    rw [upto_get n (a + 1) i (by omega)]
    congr 1; omega

/-- An entry fits a call, its rows lie at these blocks; what comes back. -/
noncomputable def fitD (P : Program) (l : List Nat) (args : List Value) (V : VW) (e : DeepE) (v : Value) : Bool :=
  (lasB P.globals.size l e.args args && rowsAt V l e.rows) && ((aloneB P.globals.size l && l.all (fun b => args.any (hasA b))) && (Nat.ble (V.size + e.new.length) top && lvB P.globals.size (l ++ upto V.size e.new.length) e.val v))

theorem atN_inv {N : Nat} {l : List Nat} {β : Nat → Ren} {i b cp sh : Nat} (h : atN N l β i = .live b cp sh) : (i < N ∧ β i = .live b cp sh) ∨ ∃ k b', i = N + k ∧ l[k]? = some b' ∧ β b' = .live b cp sh := by
  by_cases hi : i < N
  · exact .inl ⟨hi, by rwa [atN_lo hi] at h⟩
  · unfold atN at h
    rw [if_neg hi] at h
    cases hl : l[i - N]? with
    | none => rw [hl] at h; cases h
    | some b' => rw [hl] at h; exact .inr ⟨i - N, b', by omega, hl, h⟩
theorem VRs.frozen {β β' : Nat → Ren} {l l' : List Value} (h : VRs β l l') (ha : l.all Vx.atom = true) : VRs β' l l' := by
  rw [h.of_atoms ha]
  exact VRs.atoms ha

def DeepOk (P : Program) (G : VW) (e : DeepE) : Prop := KnownD P G e ∧ e.rows.all (fun r => r.cells.all atom) = true

theorem KnownD.call (hT : Tabs P G) {e : DeepE} (hk : DeepOk P G e) {l : List Nat} {args : List Value} {V : VW} {v : Value} (hf : fitD P l args V e v = true) : CallOk P G (.val v (pushRows false e.new V)) e.f args V := by
  intro v1 V1 he B β w args' hB hW hA _ cs
  cases he
  obtain ⟨h, hat⟩ := hk
  unfold fitD at hf
  simp only [Bool.and_eq_true] at hf
  obtain ⟨⟨f1, f2⟩, ⟨f3, f4⟩, f5, f6⟩ := hf
  have f5 := Nat.le_of_ble_eq_true f5
  obtain ⟨r1, r2⟩ := rowsAt_spec f2
  obtain ⟨a1, a2⟩ := aloneB_spec f3
  -- the rows handed in are there
  have hl : ∀ j b, l[j]? = some b → ∃ r cp sh, β b = .live r cp sh := fun j b hj => by
    have hb : args.any (hasA b) = true := List.all_eq_true.1 f4 b (List.mem_of_getElem? hj)
    rcases VRs.of_any hasA_spec hb hA with k | k
    · exact k
    · have hlt : j < e.rows.length := by rw [← r1]; exact (List.getElem?_eq_some_iff.1 hj).1
      obtain ⟨ob, q1, q2, _⟩ := rowAt_spec (P := P) (r2 j b _ hj (List.getElem?_eq_getElem hlt))
      have := hW.dead b k
      rw [q1] at this
      exact absurd (Option.some.inj this) q2
  obtain ⟨w', fr, v', β', s1, s2, s3, s4, s5, s5', s6, s7, s8⟩ := h ⟨‹Syms›⟩ w (lies_of hT hB hW) (atN P.globals.size l β) (fun g hg => by rw [atN_lo hg]; exact hW.glob g hg)
    (fun y hy => by
      have : l[y - P.globals.size]? = none := List.getElem?_eq_none (by omega)
      have h2 := atN_out (N := P.globals.size) (β := β) this
      rwa [show P.globals.size + (y - P.globals.size) = y by omega] at h2)
    (fun j r hj => by
      have hlt : j < l.length := by rw [r1]; exact (List.getElem?_eq_some_iff.1 hj).1
      have hlj := List.getElem?_eq_getElem hlt
      obtain ⟨ob, q1, q2, q3⟩ := rowAt_spec (P := P) (r2 j _ r hlj hj)
      obtain ⟨rb, cp, sh, hlive⟩ := hl j _ hlj
      obtain ⟨o, o', p1, p2, p3⟩ := hW.obj _ _ _ _ hlive
      rw [q1] at p1
      cases p1
      obtain ⟨fz, hobj⟩ := q3 p3
      refine ⟨rb, cp, sh, fz, o', (atN_hi hlj).trans hlive, p2, ?_⟩
      obtain ⟨pre, mid, post, frz, rfl, hp, hr, hcap, hfz⟩ := hobj.inv
      exact .cells hp (hr.frozen (List.all_eq_true.1 hat r (List.mem_of_getElem? hj))) hcap hfz)
    (fun i j b cp sh cp' sh' hi hj => by
      rcases atN_inv hi with ⟨i1, i2⟩ | ⟨k, b1, rfl, k2, k3⟩
      · rcases atN_inv hj with ⟨j1, j2⟩ | ⟨m, b2, rfl, m2, m3⟩
        · exact hW.inj _ _ _ _ _ _ _ i2 j2
        · have := hW.inj _ _ _ _ _ _ _ i2 m3
          have := a1 _ _ m2
          omega
      · rcases atN_inv hj with ⟨j1, j2⟩ | ⟨m, b2, rfl, m2, m3⟩
        · have := hW.inj _ _ _ _ _ _ _ j2 k3
          have := a1 _ _ k2
          omega
        · obtain rfl := hW.inj _ _ _ _ _ _ _ k3 m3
          rw [a2 _ _ _ k2 m2]) args' ((lasB_spec f1).down hA) cs
  have hlow : ∀ i b cp sh, β i = .live b cp sh → b < w.heap.size := fun i b cp sh hi => by
    obtain ⟨o, o', _, p2, _⟩ := hW.obj _ _ _ _ hi
    exact block_lt p2
  obtain ⟨β2, t1, t2, t3, t4⟩ := push_new (K := P.globals.size + e.rows.length) hW.base.size (fun b hb => (hW.kept b hb).1) e.new β V 0 (hW.later s4) f5
    (fun i b cp sh hi => .inl (hlow i b cp sh hi)) (fun i r hr => by rw [Nat.zero_add]; exact s6 i r hr) (fun i j b c1 z1 c2 z2 hi hj => s7 i j b c1 z1 c2 z2 (by omega) (by omega))
  have hgs : P.globals.size ≤ V.size := Nat.le_trans hW.gfl hW.gsz
  have heq : atN P.globals.size (l ++ upto V.size e.new.length) β2 = β' := by
    funext y
    by_cases hy : y < P.globals.size
    · rw [atN_lo hy, t3 y (by omega), s5 y (by omega), atN_lo hy]
    · obtain ⟨j, rfl⟩ : ∃ j, y = P.globals.size + j := ⟨y - P.globals.size, by omega⟩
      by_cases hj : j < l.length
      · have hlj := List.getElem?_eq_getElem hj
        obtain ⟨rb, cp, sh, hlive⟩ := hl j _ hlj
        rw [atN_hi (b := l[j]) (by rw [List.getElem?_append_left hj]; exact hlj), t3 _ (hW.lt hlive), s5 _ (by omega), atN_hi hlj]
      · by_cases hj2 : j < l.length + e.new.length
        · rw [atN_hi (b := V.size + (j - l.length)) (by rw [List.getElem?_append_right (by omega)]; exact upto_get _ _ _ (by omega)), t4 _ (by omega)]
          congr 1
          omega
        · rw [atN_out (by rw [List.getElem?_append_right (by omega)]; exact List.getElem?_eq_none (by rw [upto_len]; omega)), s5' _ (by omega)]
  refine ⟨β2, v', w', fr, t1, t2, (lvB_spec f6).up ?_, s1, s2, s3⟩
  rw [heq]
  exact s8 ⟨‹Syms›⟩

/-! ### Entries by runs -/
noncomputable def noSymL (v : Value) : Bool := match v with
  | .chan (some _) => false
  | _ => true
noncomputable def noSymA (v : Value) : Bool := match v with
  | .agg a => a.toList.all noSymL
  | v => noSymL v
noncomputable def noSymV (v : Value) : Bool := match v with
  | .tuple a => a.toList.all noSymA
  | v => noSymA v
theorem LR.swap {N : Nat} {l : List Nat} {x y v : Value} {β : Nat → Ren} {S S' : Syms} (h : LR N l x y) (hn : noSymL x = true) (hv : @VR S.toVals β x v) : @VR S'.toVals β x v := by
  cases h with
  | atom ha => rw [@VR.of_atom S.toVals β x v hv ha]; exact @VR.atom S'.toVals β x ha
  | sym => simp [noSymL] at hn
  | sl h => cases hv with
    | atom h => simp [Vx.atom] at h
    | sl k hn hc => exact @VR.sl S'.toVals _ _ _ _ _ _ _ _ k hn hc
    | slD k hn hc => exact @VR.slD S'.toVals _ _ _ _ _ _ _ k hn hc
  | slG h => cases hv with
    | atom h => simp [Vx.atom] at h
    | sl k hn hc => exact @VR.sl S'.toVals _ _ _ _ _ _ _ _ k hn hc
    | slD k hn hc => exact @VR.slD S'.toVals _ _ _ _ _ _ _ k hn hc
  | ptr h => cases hv with
    | atom h => simp [Vx.atom] at h
    | ptr k => exact @VR.ptr S'.toVals _ _ _ _ _ _ k
    | ptrD k => exact @VR.ptrD S'.toVals _ _ _ _ k
  | ptrG h => cases hv with
    | atom h => simp [Vx.atom] at h
    | ptr k => exact @VR.ptr S'.toVals _ _ _ _ _ _ k
    | ptrD k => exact @VR.ptrD S'.toVals _ _ _ _ k
theorem LRs.swap {N : Nat} {l : List Nat} {x y v : List Value} {β : Nat → Ren} {S S' : Syms} (h : LRs N l x y) (hn : x.all noSymL = true) (hv : @VRs S.toVals β x v) : @VRs S'.toVals β x v := by
  induction h generalizing v with
  | nil => cases hv; exact @VRs.nil S'.toVals β
  | cons h t ih =>
    simp only [List.all_cons, Bool.and_eq_true] at hn
    cases hv with
    | cons k m => exact @VRs.cons S'.toVals _ _ _ _ _ (h.swap (S := S) (S' := S') hn.1 k) (ih hn.2 m)
theorem LA.swap {N : Nat} {l : List Nat} {x y v : Value} {β : Nat → Ren} {S S' : Syms} (h : LA N l x y) (hn : noSymA x = true) (hv : @VR S.toVals β x v) : @VR S'.toVals β x v := by
  cases h with
  | leaf h =>
    refine h.swap (S := S) (S' := S') ?_ hv
    cases h <;> first | rfl | (simp [noSymA, noSymL] at hn; done) | skip
    rename_i ha
    cases x <;> first | rfl | (rename_i o; cases o <;> first | rfl | (simp [Vx.atom] at ha))
  | agg h => cases hv with
    | atom h => simp [Vx.atom] at h
    | agg k => exact @VR.agg S'.toVals _ _ _ (h.swap (S := S) (S' := S') hn k)
theorem LAs.swap {N : Nat} {l : List Nat} {x y v : List Value} {β : Nat → Ren} {S S' : Syms} (h : LAs N l x y) (hn : x.all noSymA = true) (hv : @VRs S.toVals β x v) : @VRs S'.toVals β x v := by
  induction h generalizing v with
  | nil => cases hv; exact @VRs.nil S'.toVals β
  | cons h t ih =>
    simp only [List.all_cons, Bool.and_eq_true] at hn
    cases hv with
    | cons k m => exact @VRs.cons S'.toVals _ _ _ _ _ (h.swap (S := S) (S' := S') hn.1 k) (ih hn.2 m)
theorem LV.swap {N : Nat} {l : List Nat} {x y v : Value} {β : Nat → Ren} {S S' : Syms} (h : LV N l x y) (hn : noSymV x = true) (hv : @VR S.toVals β x v) : @VR S'.toVals β x v := by
  cases h with
  | one h =>
    refine h.swap (S := S) (S' := S') ?_ hv
    cases x <;> first | exact hn | (cases h with | leaf h => cases h with | atom h => simp [Vx.atom] at h)
  | tuple h => cases hv with
    | atom h => simp [Vx.atom] at h
    | tuple k => exact @VR.tuple S'.toVals _ _ _ (h.swap (S := S) (S' := S') hn k)

/-- Where such a call starts. -/
noncomputable def baseD (P : Program) (G : VW) (e : DeepE) : VW := ⟨(pushRows true e.rows ⟨G.heap, P.globals.size, P.globals.size⟩).heap, P.globals.size + e.rows.length, P.globals.size + e.rows.length⟩
/-- The new blocks that a value names. -/
noncomputable def newL (K : Nat) (v : Value) (l : List Nat) : List Nat := match v with
  | .slice (some ⟨b, _, none⟩) _ _ => if Nat.ble K b && l.all (fun x => !Nat.beq x b) then l ++ [b] else l
  | .pointer (some ⟨b, _, none⟩) => if Nat.ble K b && l.all (fun x => !Nat.beq x b) then l ++ [b] else l
  | _ => l
noncomputable def newA (K : Nat) (v : Value) (l : List Nat) : List Nat := match v with
  | .agg a => a.toList.foldl (fun l v => newL K v l) l
  | v => newL K v l
noncomputable def newV (K : Nat) (v : Value) (l : List Nat) : List Nat := match v with
  | .tuple a => a.toList.foldl (fun l v => newA K v l) l
  | v => newA K v l
noncomputable def rowNew (V : VW) (b : Nat) (r : RowD) : Bool := match V.heap.get b with
  | some (.cells c t false) => Nat.ble V.floor b && (Nat.beq t r.ty && eqA r.cells c)
  | some (.grow rc _ t) => Nat.ble V.floor b && (Nat.beq t r.ty && eqA r.cells (revOn rc []))
  | _ => false
noncomputable def rowsNew (V : VW) (l : List Nat) (rs : List RowD) : Bool :=
  List.rec (motive := fun _ => List Nat → Bool) (fun l => match l with | [] => true | _ => false)
    (fun r _ ih l => match l with | b :: t => rowNew V b r && ih t | [] => false) rs l
theorem rowNew_spec {P : Program} {V : VW} {b : Nat} {r : RowD} (h : rowNew V b r = true) : ∃ ob, V.heap.get b = some ob ∧ ob ≠ .dfr true ∧ V.floor ≤ b ∧ ∀ {β : Nat → Ren} {cp sh : Nat} {o' : Obj}, ObjR P β cp sh ob o' → ObjR P β cp sh (.cells r.cells r.ty false) o' := by
  unfold rowNew at h
  split at h
  · rename_i c t hg
    simp only [Bool.and_eq_true] at h
    obtain ⟨k1, k2, k3⟩ := h
    have k2 := Nat.eq_of_beq_eq_true k2
    have k3 := eqA_eq k3
    subst k2 k3
    exact ⟨_, hg, nofun, Nat.le_of_ble_eq_true k1, fun h => h⟩
  · rename_i rc n t hg
    simp only [Bool.and_eq_true] at h
    obtain ⟨k1, k2, k3⟩ := h
    have k2 := Nat.eq_of_beq_eq_true k2
    have k3 := eqA_eq k3
    rw [revOn_eq, List.append_nil] at k3
    refine ⟨_, hg, nofun, Nat.le_of_ble_eq_true k1, fun h => ?_⟩
    rw [k3, ← k2]
    exact h.grow'.2
  · cases h
theorem rowsNew_spec {V : VW} : ∀ {rs : List RowD} {l : List Nat}, rowsNew V l rs = true → l.length = rs.length ∧ ∀ (j b : Nat) (r : RowD), l[j]? = some b → rs[j]? = some r → rowNew V b r = true
  | [], [], _ => ⟨rfl, fun j b r h => by simp at h⟩
  | [], _ :: _, h => by cases h
  | _ :: _, [], h => by cases h
  | r :: rs, b :: l, h => by
    change (rowNew V b r && rowsNew V l rs) = true at h
    simp only [Bool.and_eq_true] at h
    obtain ⟨h1, h2⟩ := rowsNew_spec h.2
    refine ⟨by simp [h1], fun j b' r' g1 g2 => ?_⟩
    cases j with
    | zero => simp only [List.getElem?_cons_zero, Option.some.injEq] at g1 g2; subst g1 g2; exact h.1
    | succ j => simp only [List.getElem?_cons_succ] at g1 g2; exact h2 j b' r' g1 g2
noncomputable def fitN (P : Program) (e : DeepE) (u : Value) (V : VW) (nb : List Nat) : Bool :=
  (lvB P.globals.size (upto P.globals.size e.rows.length ++ nb) e.val u && rowsNew V nb e.new) && (aloneB (P.globals.size + e.rows.length) nb && nb.all (fun b => hasV b u))
noncomputable def isDeep (P : Program) (e : DeepE) : R → Bool
  | .val u V => fitN P e u V (newV (P.globals.size + e.rows.length) u [])
  | _ => false
noncomputable def flatD (P : Program) (e : DeepE) : Bool :=
  (e.rows.all (fun r => r.cells.all atom) && e.new.all (fun r => r.cells.all atom)) && ((lasB P.globals.size (upto P.globals.size e.rows.length) e.args e.args && e.args.all noSymA) && (noSymV e.val && Nat.ble (P.globals.size + e.rows.length) top))
omit [Syms] in
noncomputable def deepOk [Prims] (P : Program) (Q : Orc) (G : VW) (e : DeepE) : Bool :=
  flatD P e && ((fnOf P e.f).isSome && isDeep P e (run P Q 1000000 (.call e.f e.args (baseD P G e))))

theorem start_deep (hT : Tabs P G) {w : World} (hL : Lies P G w) {rows : List RowD} (hat : rows.all (fun r => r.cells.all atom) = true) (ht : P.globals.size + rows.length ≤ top) {β : Nat → Ren} (hg : ∀ g, g < P.globals.size → β g = .live g 0 0) (ho : ∀ y, P.globals.size + rows.length ≤ y → β y = .fresh)
    (hr : ∀ j r, rows[j]? = some r → ∃ b cp sh fz o', β (P.globals.size + j) = .live b cp sh ∧ w.heap[b]? = some o' ∧ ObjR P (fun _ => .fresh) cp sh (.cells r.cells r.ty fz) o')
    (hi : ∀ i j b cp sh cp' sh', β i = .live b cp sh → β j = .live b cp' sh' → i = j) {V1 : VW} (hV : V1 = ⟨(pushRows true rows ⟨G.heap, P.globals.size, P.globals.size⟩).heap, P.globals.size + rows.length, P.globals.size + rows.length⟩) :
    WR P ⟨w, V1, β, w, fun _ => False⟩ β V1 w := by
  have hget : ∀ i, V1.heap.get i = if i < P.globals.size then G.heap.get i else match rows[i - P.globals.size]? with
      | some r => some (.cells r.cells r.ty true)
      | none => G.heap.get i := fun i => by
    rw [hV]
    exact pushRows_get true rows ⟨G.heap, P.globals.size, P.globals.size⟩ ht i
  have hsz : V1.size = P.globals.size + rows.length := by rw [hV]
  have hfl : V1.floor = P.globals.size + rows.length := by rw [hV]
  have hnd : ∀ i, β i ≠ .dead := fun i hd => by
    by_cases h1 : i < P.globals.size
    · rw [hg i h1] at hd; cases hd
    · by_cases h2 : i < P.globals.size + rows.length
      · have hlt : i - P.globals.size < rows.length := by omega
        obtain ⟨b, cp, sh, fz, o', k1, _⟩ := hr _ _ (List.getElem?_eq_getElem hlt)
        rw [show P.globals.size + (i - P.globals.size) = i by omega] at k1
        rw [k1] at hd; cases hd
      · rw [ho i (by omega)] at hd; cases hd
  refine ⟨hg, by rw [hfl]; omega, by rw [hfl, hsz]; exact Nat.le_refl _, by rw [hsz]; exact ht, fun i h => ho i (by rw [hsz] at h; exact h), fun i b cp sh e => ?_, fun i h => absurd h (hnd i), hi, fun i b cp sh e hl => ?_, fun _ _ => rfl, rfl, fun _ _ => rfl, Nat.le_refl _, .refl _ _, fun _ h => h.elim, fun _ _ h => ⟨h, rfl⟩, fun i o hp => ?_⟩
  · by_cases h1 : i < P.globals.size
    · rw [hg i h1] at e
      cases e
      rcases hL.1 _ h1 with ⟨c, ty, fr, post, g1, g2⟩ | ⟨g1, g2⟩
      rotate_left
      · exact ⟨_, _, by rw [hget, if_pos h1]; exact g1, Array.getElem?_eq_getElem g2, .dfrT⟩
      rcases hT.cells _ h1 with ⟨c', e', g3, g4⟩ | g3
      rotate_left
      · rw [g1] at g3
        cases g3
      rw [g1] at g3; cases g3
      exact ⟨_, _, by rw [hget, if_pos h1]; exact g1, g2, ObjR.cells (pre := []) rfl (VRs.atoms g4) (by simp) (fun h => by cases h)⟩
    · have h2 : i < P.globals.size + rows.length := by
        rcases Nat.lt_or_ge i (P.globals.size + rows.length) with k | k
        · exact k
        · rw [ho i k] at e; cases e
      have hlt : i - P.globals.size < rows.length := by omega
      obtain ⟨b', cp', sh', fz, o', k1, k2, k3⟩ := hr _ _ (List.getElem?_eq_getElem hlt)
      rw [show P.globals.size + (i - P.globals.size) = i by omega] at k1
      rw [k1] at e
      cases e
      refine ⟨.cells rows[i - P.globals.size].cells rows[i - P.globals.size].ty true, o', by rw [hget, if_neg h1, List.getElem?_eq_getElem hlt], k2, ?_⟩
      obtain ⟨pre, mid, post, frz, rfl, hp, hrr, hcap, hfz⟩ := k3.inv
      exact .cells hp (hrr.frozen (List.all_eq_true.1 hat _ (List.getElem_mem hlt))) hcap (fun h => by cases h)
  · have hl : V1.floor ≤ i := hl
    rw [hfl] at hl
    rw [ho i hl] at e; cases e
  · rw [hget] at hp
    have glob : ∀ o, i < P.globals.size → G.heap.get i = some o → Bd P V1.size o := fun o h ho => by
      rcases hT.cells i h with ⟨c, e, h1, h2⟩ | h1
      rotate_left
      · rw [h1] at ho
        cases ho
        exact .dead P _
      rw [h1] at ho; cases ho
      exact ⟨fun _ => .fresh, 0, 0, .cells ⟨[] ++ (c ++ [])⟩ e (0, 0), fun _ _ => rfl, ObjR.cells (pre := []) rfl (VRs.atoms h2) (by simp) (fun h => by cases h)⟩
    by_cases h1 : i < P.globals.size
    · rw [if_pos h1] at hp
      exact glob o h1 hp
    · rw [if_neg h1] at hp
      split at hp
      · rename_i r hrr
        cases hp
        exact ⟨fun _ => .fresh, 0, 0, .cells ⟨[] ++ (r.cells ++ [])⟩ r.ty (0, 0), fun _ _ => rfl, ObjR.cells (pre := []) rfl (VRs.atoms (List.all_eq_true.1 hat _ (List.mem_of_getElem? hrr))) (by simp) (fun h => by cases h)⟩
      · rw [hT.rest i (by omega)] at hp; cases hp

theorem deep_of (hT : Tabs P G) {Q : Orc} (hQ : OrcOk P G Q) {e : DeepE} (h : deepOk P Q G e = true) : DeepOk P G e := by
  unfold deepOk at h
  simp only [Bool.and_eq_true] at h
  obtain ⟨hfl, h3, h4⟩ := h
  unfold flatD at hfl
  simp only [Bool.and_eq_true] at hfl
  obtain ⟨⟨q1, q2⟩, ⟨q3, q4⟩, q5, q6⟩ := hfl
  have q6 := Nat.le_of_ble_eq_true q6
  refine ⟨?_, q1⟩
  cases hfn : fnOf P e.f with
  | none => rw [hfn] at h3; cases h3
  | some x =>
  obtain ⟨g1, g2, _⟩ := fnOf_spec hfn
  cases hrun : run P Q 1000000 (.call e.f e.args (baseD P G e)) with
  | fall y s => rw [hrun] at h4; cases h4
  | bad m n => rw [hrun] at h4; cases h4
  | val u V2 =>
  rw [hrun] at h4
  have h4 : fitN P e u V2 (newV (P.globals.size + e.rows.length) u []) = true := h4
  generalize newV (P.globals.size + e.rows.length) u [] = nb at h4
  unfold fitN at h4
  simp only [Bool.and_eq_true] at h4
  obtain ⟨⟨k1, k2⟩, k3, k4⟩ := h4
  obtain ⟨n1, n2⟩ := rowsNew_spec k2
  obtain ⟨a1, a2⟩ := aloneB_spec k3
  intro S w hL β hg ho hr hi args' hA cs
  have hA0 : VRs β e.args args' := (lasB_spec q3).swap (S := S.s) (S' := ‹Syms›) q4 hA
  have hW := start_deep hT hL q1 q6 hg ho (fun j r hj => by
    obtain ⟨b, cp, sh, fz, o', z1, z2, z3⟩ := hr j r hj
    refine ⟨b, cp, sh, fz, o', z1, z2, ?_⟩
    obtain ⟨pre, mid, post, frz, rfl, hp, hrr, hcap, hfz⟩ := @ObjR.inv S.s P _ _ _ _ _ _ _ z3
    refine .cells hp ?_ hcap hfz
    have ha := List.all_eq_true.1 q1 r (List.mem_of_getElem? hj)
    rw [@VRs.of_atoms S.s.toVals _ _ _ hrr ha]
    exact VRs.atoms ha) hi (V1 := baseD P G e) rfl
  obtain ⟨β2, v', w', fr, m1, m2, m3, m4, m5, m6⟩ := (run_good hT hQ 1000000).call e.f e.args (baseD P G e) u V2 hrun _ β w args' ⟨fun g hg' => by
      show (baseD P G e).heap.get g = _
      unfold baseD
      rw [show (VW.mk (pushRows true e.rows ⟨G.heap, P.globals.size, P.globals.size⟩).heap (P.globals.size + e.rows.length) (P.globals.size + e.rows.length)).heap = (pushRows true e.rows ⟨G.heap, P.globals.size, P.globals.size⟩).heap from rfl, pushRows_get true e.rows ⟨G.heap, P.globals.size, P.globals.size⟩ q6 g]
      exact if_pos hg', hL.2⟩ hW hA0 ⟨_, _, g1, g2⟩ cs
  have hfloor : V2.floor = P.globals.size + e.rows.length := m2.flo
  have hlow : ∀ y, y < P.globals.size + e.rows.length → β2 y = β y := fun y hy => m2.low y (by rw [hfloor]; exact hy)
  have hlen : (upto P.globals.size e.rows.length).length = e.rows.length := upto_len _ _
  have hat : ∀ y, y < P.globals.size + e.rows.length → atN P.globals.size (upto P.globals.size e.rows.length ++ nb) β2 y = β y := fun y hy => by
    by_cases h1 : y < P.globals.size
    · rw [atN_lo h1, hlow y hy]
    · obtain ⟨j, rfl⟩ : ∃ j, y = P.globals.size + j := ⟨y - P.globals.size, by omega⟩
      rw [atN_hi (b := P.globals.size + j) (by rw [List.getElem?_append_left (by omega)]; exact upto_get _ _ _ (by omega)), hlow _ hy]
  have hnew : ∀ i, i < nb.length → atN P.globals.size (upto P.globals.size e.rows.length ++ nb) β2 (P.globals.size + e.rows.length + i) = β2 (nb.getD i 0) := fun i hi' => by
    rw [Nat.add_assoc, atN_hi (b := nb.getD i 0) (by
      rw [List.getElem?_append_right (by omega), hlen, show e.rows.length + i - e.rows.length = i by omega, List.getElem?_eq_getElem hi', List.getD_eq_getElem?_getD, List.getElem?_eq_getElem hi']
      rfl)]
  refine ⟨w', fr, v', atN P.globals.size (upto P.globals.size e.rows.length ++ nb) β2, m4, m5, m6, m2.base, hat, fun y hy => ?_, fun i r hir => ?_, fun i j b c1 s1 c2 s2 hi1 hj1 hb1 hb2 => ?_, fun S' => ?_⟩
  · obtain ⟨j, rfl⟩ : ∃ j, y = P.globals.size + j := ⟨y - P.globals.size, by omega⟩
    exact atN_out (List.getElem?_eq_none (by simp [hlen, n1]; omega))
  · have hlt : i < nb.length := by rw [n1]; exact (List.getElem?_eq_some_iff.1 hir).1
    have hgi := List.getElem?_eq_getElem hlt
    have hd : nb.getD i 0 = nb[i] := by rw [List.getD_eq_getElem?_getD, hgi]; rfl
    obtain ⟨ob, z1, z2, z3, z4⟩ := rowNew_spec (P := P) (n2 i _ r hgi hir)
    have hb : hasV nb[i] u = true := List.all_eq_true.1 k4 _ (List.getElem_mem hlt)
    rcases hasV_spec hb m3 with ⟨b, cp, sh, hl⟩ | hd'
    · obtain ⟨o, o', y1, y2, y3⟩ := m2.obj _ _ _ _ hl
      rw [z1] at y1
      cases y1
      refine ⟨b, cp, sh, o', by rw [hnew i hlt, hd]; exact hl, (m2.own _ _ _ _ hl z3).1, y2, fun S' => ?_⟩
      obtain ⟨pre, mid, post, frz, rfl, hp, hrr, hcap, hfz⟩ := (z4 y3).inv
      have ha := List.all_eq_true.1 q2 r (List.mem_of_getElem? hir)
      have := hrr.of_atoms ha
      subst this
      exact @ObjR.cells S'.s _ _ _ _ _ _ _ _ _ _ _ hp (@VRs.atoms S'.s.toVals _ _ ha) hcap hfz
    · have := m2.dead _ hd'
      rw [z1] at this
      exact absurd (Option.some.inj this) z2
  · rw [← n1] at hi1 hj1
    rw [hnew i hi1] at hb1
    rw [hnew j hj1] at hb2
    have := m2.inj _ _ _ _ _ _ _ hb1 hb2
    have e1 : nb[i]? = some (nb.getD i 0) := by rw [List.getElem?_eq_getElem hi1, List.getD_eq_getElem?_getD, List.getElem?_eq_getElem hi1]; rfl
    have e2 : nb[j]? = some (nb.getD j 0) := by rw [List.getElem?_eq_getElem hj1, List.getD_eq_getElem?_getD, List.getElem?_eq_getElem hj1]; rfl
    rw [← this] at e2
    exact a2 i j _ e1 e2
  · exact (lvB_spec k1).swap (S := ‹Syms›) (S' := S'.s) q5 ((lvB_spec k1).down m3)

/-! ### An index for them -/
noncomputable def hshC (l : List Value) : Nat := hshL l
noncomputable def hshR (rs : List RowD) : Nat := List.rec (motive := fun _ => Nat) 7 (fun r _ ih => Nat.add (Nat.mul ih 31) (hshL r.cells)) rs
/-- What a leaf counts, whatever its blocks. -/
noncomputable def hshE (x : Value) : Nat := match x with
  | .slice _ n _ => Nat.add n 3
  | .agg a => List.rec (motive := fun _ => Nat) 5 (fun x _ ih => Nat.add (Nat.mul ih 31) (match x with | .slice _ n _ => Nat.add n 3 | x => hsh1 x)) a.toList
  | z => hsh1 z
noncomputable def hshX (l : List Value) : Nat := List.rec (motive := fun _ => Nat) 0 (fun x _ ih => Nat.add (Nat.mul ih 1009) (hshE x)) l
noncomputable def hshD (f : Nat) (args : List Value) (rh : Nat) : Nat := Nat.mod (Nat.add (Nat.add (hshX args) (Nat.mul f 37)) (Nat.mul rh 101)) 8192
/-- The rows at some blocks. -/
noncomputable def hashAt (V : VW) (l : List Nat) : Nat := List.rec (motive := fun _ => Nat) 7 (fun b _ ih => Nat.add (Nat.mul ih 31) (match rowOf (V.heap.get b) with | some c => hshL c | none => 0)) l
noncomputable def seenA (N : Nat) (args : List Value) : List Nat := args.foldl (fun l v => newA N v l) []
noncomputable def insD (t : T (List DeepE)) (h : Nat) (e : DeepE) : T (List DeepE) := T.set 21 t h (e :: Option.rec (motive := fun _ => List DeepE) [] (fun l => l) (t.get h))
noncomputable def mkD (l : List DeepE) : T (List DeepE) := List.rec (motive := fun _ => T (List DeepE)) .nil (fun e _ ih => insD ih (hshD e.f e.args (hshR e.rows)) e) l
theorem mkD_mem : ∀ {l : List DeepE} {i : Nat} {b : List DeepE}, (mkD l).get i = some b → ∀ e ∈ b, e ∈ l
  | [], i, b, h, e, he => by cases h
  | x :: l, i, b, h, e, he => by
    change (T.set 21 (mkD l) (hshD x.f x.args (hshR x.rows)) (x :: Option.rec (motive := fun _ => List DeepE) [] (fun l => l) ((mkD l).get (hshD x.f x.args (hshR x.rows))))).get i = some b at h
    have hb : hshD x.f x.args (hshR x.rows) < top := Nat.lt_of_lt_of_le (Nat.mod_lt _ (by decide)) (show 8192 ≤ top by decide)
    rw [T.get_put _ _ _ hb] at h
    split at h
    · cases h
      rcases List.mem_cons.1 he with rfl | he
      · exact List.mem_cons_self
      · cases hg : (mkD l).get (hshD x.f x.args (hshR x.rows)) with
        | none => rw [hg] at he; cases he
        | some b' => rw [hg] at he; exact List.mem_cons_of_mem _ (mkD_mem hg e he)
    · exact List.mem_cons_of_mem _ (mkD_mem h e he)
/-- The value that comes back, by its blocks' names here. -/
noncomputable def renL (N : Nat) (l : List Nat) (x : Value) : Value := match x with
  | .slice (some ⟨a, o, none⟩) n c => .slice (some ⟨(if Nat.blt a N then a else (nthL l (Nat.sub a N)).getD 0), o, none⟩) n c
  | .pointer (some ⟨a, o, none⟩) => .pointer (some ⟨(if Nat.blt a N then a else (nthL l (Nat.sub a N)).getD 0), o, none⟩)
  | x => x
noncomputable def renA (N : Nat) (l : List Nat) (x : Value) : Value := match x with
  | .agg a => .agg ⟨mapL (renL N l) a.toList⟩
  | x => renL N l x
noncomputable def renV (N : Nat) (l : List Nat) (x : Value) : Value := match x with
  | .tuple a => .tuple ⟨mapL (renA N l) a.toList⟩
  | x => renA N l x
noncomputable def pickD (P : Program) (f : FuncId) (l : List Nat) (args : List Value) (V : VW) (es : List DeepE) : Option (Value × VW) :=
  List.rec (motive := fun _ => Option (Value × VW)) none (fun e _ ih => Bool.rec (motive := fun _ => Option (Value × VW)) ih
    (some (renV P.globals.size (l ++ upto V.size e.new.length) e.val, pushRows false e.new V))
    (Nat.beq e.f f && fitD P l args V e (renV P.globals.size (l ++ upto V.size e.new.length) e.val))) es
noncomputable def lookD (P : Program) (t : T (List DeepE)) (f : FuncId) (args : List Value) (V : VW) (l : List Nat) : Option (Value × VW) :=
  match t.get (hshD f args (hashAt V l)) with
  | some es => pickD P f l args V es
  | none => none
/-- Entries of the functions whose numbers are bits of m. -/
noncomputable def deepL (P : Program) (m : Nat) (t : T (List DeepE)) (f : FuncId) (args : List Value) (V : VW) : Option (Value × VW) :=
  match bitsT m f with
  | true => lookD P t f args V (seenA P.globals.size args)
  | false => none
theorem pickD_mem {f : FuncId} {l : List Nat} {args : List Value} {V : VW} {v : Value} {V' : VW} : ∀ {es : List DeepE}, pickD P f l args V es = some (v, V') → ∃ e ∈ es, e.f = f ∧ fitD P l args V e v = true ∧ V' = pushRows false e.new V
  | [], h => by cases h
  | e :: es, h => by
    change Bool.rec (motive := fun _ => Option (Value × VW)) (pickD P f l args V es) (some (renV P.globals.size (l ++ upto V.size e.new.length) e.val, pushRows false e.new V)) (Nat.beq e.f f && fitD P l args V e (renV P.globals.size (l ++ upto V.size e.new.length) e.val)) = _ at h
    cases hb : (Nat.beq e.f f && fitD P l args V e (renV P.globals.size (l ++ upto V.size e.new.length) e.val)) with
    | false =>
      rw [hb] at h
      obtain ⟨x, h1, h2⟩ := pickD_mem (show pickD P f l args V es = some (v, V') from h)
      exact ⟨x, List.mem_cons_of_mem _ h1, h2⟩
    | true =>
      rw [hb] at h
      simp only [Bool.and_eq_true] at hb
      have h := Option.some.inj h
      cases h
      exact ⟨e, List.mem_cons_self, Nat.eq_of_beq_eq_true hb.1, hb.2, rfl⟩
def DeepsOk (P : Program) (G : VW) (l : List DeepE) : Prop := ∀ e ∈ l, DeepOk P G e
theorem DeepsOk.nil : DeepsOk P G [] := fun _ h => by cases h
theorem DeepsOk.app {l m : List DeepE} (h : DeepsOk P G l) (k : DeepsOk P G m) : DeepsOk P G (l ++ m) := fun e he => (List.mem_append.1 he).elim (h e) (k e)
theorem deepL_ok (hT : Tabs P G) {l : List DeepE} (h : DeepsOk P G l) {m : Nat} : ∀ f args V v V', deepL P m (mkD l) f args V = some (v, V') → CallOk P G (.val v V') f args V := by
  intro f args V v V' hd
  unfold deepL at hd
  split at hd
  · unfold lookD at hd
    split at hd
    · rename_i es hg
      obtain ⟨e, h1, rfl, h3, rfl⟩ := pickD_mem hd
      exact KnownD.call hT (h e (mkD_mem hg e h1)) h3
    · cases hd
  · cases hd
theorem deeps_of (hT : Tabs P G) {Q : Orc} (hQ : OrcOk P G Q) {l : List DeepE} (h : allL (deepOk P Q G) l = true) : DeepsOk P G l := by
  rw [allL_eq] at h
  exact fun e he => deep_of hT hQ (List.all_eq_true.1 h e he)
/-- An oracle that knows values, rows, and calls with rows. -/
noncomputable def deepOrc (P : Program) (V : VW) (a : FuncId → List Value → Option Value) (m : Nat) (l : List DeepE) (c : Code → Env → St → Option R) : Orc := ⟨a, fun _ _ => none, fun _ => false, V, deepL P m (mkD l), c⟩
def CutsOk (P : Program) (G : VW) (k : Code → Env → St → Option R) : Prop := ∀ c E s r, OkC P E.fn (.loop c) → k c E s = some r → CodeOk P G r [.inLoop c] E s
theorem noCuts_ok : CutsOk P G noCuts := fun _ _ _ _ _ h => by cases h
theorem deepOrc_ok (hT : Tabs P G) {V : VW} {a : FuncId → List Value → Option Value} {m : Nat} {l : List DeepE} {c : Code → Env → St → Option R} (hV : V = ⟨G.heap, P.globals.size, P.globals.size⟩) (h : AnsOk P G a) (hl : DeepsOk P G l) (hc : CutsOk P G c) : OrcOk P G (deepOrc P V a m l c) :=
  ⟨h, fun _ _ _ hh => (by cases hh), hV, deepL_ok hT hl, hc⟩
end
end Go.Vx
