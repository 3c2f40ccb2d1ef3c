/-
  Says: The whole machine: what it says, a call does. Tables of what is known of calls. An index for tables. Tables that are reckoned: an entry for each number below a bound.
-/
import Derived.Test.YtdnekeegpenioaaDoorVx18
set_option linter.unusedVariables false
set_option linter.unusedSimpArgs false
set_option linter.unusedSectionVars false
/-! The whole machine: what it says, a call does. -/
namespace Go.Vx
variable [Syms]
variable [Keeps]
open Go.RowKit

section
variable {P : Program} {G : VW} {rec : Rec}

theorem code_good (hG : Good P G rec) : ∀ (c : Code) (E : Env) (s : St), OkC P E.fn c → CodeOk P G (codeC c rec P E s) [.code c] E s := by
  intro c E s hc
  cases c with
  | skip => exact CodeOk.fall fun a w b k cs => .one stepR_skip
  | label l => exact CodeOk.fall fun a w b k cs => .one stepR_label
  | seq x y =>
    replace hc := hc.seq
    exact CodeOk.then (items1 := [.code x]) (items2 := [.code y]) (fun a w b k cs => .one stepR_seq) (hG.code x E s hc.1) (fun s1 _ => hG.code y E s1 hc.2) (fun hne h => Way.pass (i := .code y) rfl hne h)
  | cond o x y => exact cond_good hG hc.cond.1 hc.cond.2.1 hc.cond.2.2
  | block id x => exact block_good (c := x) hG ⟨hc.1, hc.2⟩
  | loop x => exact loop_good (c := x) (items := [.code (.loop x)]) hG hc (fun a w b k cs => .one stepR_loop)
  | exit id => exact CodeOk.fall fun a w b k cs => ⟨k, rfl, .refl _ _⟩
  | goto l => exact CodeOk.fall fun a w b k cs => ⟨k, rfl, .refl _ _⟩
  | ret => exact CodeOk.fall fun a w b k cs => ⟨k, .refl _ _⟩
  | scope x => exact scope_good (b0 := x) (c := x) (items := [.code (.scope x)]) hG ⟨hc.1, hc.2⟩ ⟨hc.1, hc.2⟩ (fun a w b k cs => .one stepR_scope)
  | region id ops d =>
    cases d with
    | false => exact list_good hG hc.1
    | true => exact draw_good hG hc.1
  | rangeFunc f ps as x =>
    exact range_good hG hc.range.1 hc.range.2.1 hc.range.2.2
  | refuse r => intro x s' h; cases h

/-- What is known of calls. -/
structure OrcOk (P : Program) (G : VW) (Q : Orc) : Prop where
  ans : ∀ f args v, Q.ans f args = some v → ∀ V, CallOk P G (.val v V) f args V
  rows : ∀ f args h, Q.rows f args = some h → ∀ V : VW, V.size < top → CallOk P G (.val (h.val V.size) (V.push (.cells h.cells h.ty false))) f args V
  base : Q.base = ⟨G.heap, P.globals.size, P.globals.size⟩
  deep : ∀ f args V v V', Q.deep f args V = some (v, V') → CallOk P G (.val v V') f args V
  cuts : ∀ c E s r, OkC P E.fn (.loop c) → Q.cuts c E s = some r → CodeOk P G r [.inLoop c] E s

theorem VRs.flatL {β : Nat → Ren} : ∀ {l : List Value}, l.all flat = true → VRs β l l
  | [], _ => .nil
  | x :: l, h => by simp only [List.all_cons, Bool.and_eq_true] at h; exact .cons (VR.flat h.1) (VRs.flatL h.2)
theorem flat_args {β : Nat → Ren} : ∀ {l l' : List Value}, VRs β l l' → l.all flat = true → l' = l
  | _, _, .nil, _ => rfl
  | _, _, .cons h t, ha => by
    simp only [List.all_cons, Bool.and_eq_true] at ha
    rw [h.of_flat ha.1, flat_args t ha.2]

theorem Known.call (hT : Tabs P G) {f : FuncId} {args : List Value} {v : Value} (h : Known P G f args v) (ha : args.all flat = true) (hv : flat v = true) (V : VW) : CallOk P G (.val v V) f args V := by
  intro v1 V1 he B β w args' hB hW hA _ cs
  cases he
  rw [flat_args hA ha]
  obtain ⟨w', fr, h1, h2, h3, h4⟩ := h w (lies_of hT hB hW) cs
  exact ⟨β, _, w', fr, .refl _, hW.later h4, VR.flat hv, h1, h2, h3⟩

theorem base_of (hT : Tabs P G) {f : FuncId} {args args' : List Value} {r : R} (hr : CallOk P G r f args ⟨G.heap, P.globals.size, P.globals.size⟩) {v : Value} {V' : VW} (he : r = .val v V')
    (ha : ∀ β, VRs β args args') (hv : flat v = true) (hf : ∃ fn c, P.funcs[f]? = some fn ∧ fn.body = some c) : Known P G f args' v := by
  intro w hL cs
  have hW := start_ok hT hL
  obtain ⟨β', v', w', fr, h1, h2, h3, h4, h5, h6⟩ := hr v V' he _ _ w args' ⟨fun _ _ => rfl, hL.2⟩ hW (ha _) hf cs
  have := h3.of_flat hv
  subst this
  exact ⟨w', fr, h4, h5, h6, h2.base⟩

theorem call_good (hT : Tabs P G) {Q : Orc} (hQ : OrcOk P G Q) (hG : Good P G rec) (f : FuncId) (args : List Value) (V : VW) : CallOk P G (callT f args V P Q rec) f args V := by
  intro v1 V1 hp B β w args' hB hW hA hf cs
  unfold callT at hp
  split at hp
  · rename_i v hv
    exact hQ.ans f args v hv V v1 V1 hp B β w args' hB hW hA hf cs
  unfold deepT at hp
  split at hp
  · rename_i u U hu
    exact hQ.deep f args V u U hu v1 V1 hp B β w args' hB hW hA hf cs
  · unfold rowsT at hp
    split at hp
    · rename_i h hh
      split at hp
      · rename_i hlt
        exact hQ.rows f args h hh V (blt_lt hlt) v1 V1 hp B β w args' hB hW hA hf cs
      · cases hp
    · unfold tryT at hp
      split at hp
      · split at hp
        · rename_i hfl
          unfold flatBack at hp
          split at hp
          · rename_i v V2 hb
            split at hp
            · rename_i hv
              cases hp
              have hfl' : args.all flat = true := by unfold allFlat at hfl; rw [allL_eq] at hfl; exact hfl
              exact (hG.base f args v1 V2 hb hfl' hv hf).call hT hfl' hv V v1 V rfl B β w args' hB hW hA hf cs
            · cases hp
          · cases hp
          · cases hp
        · exact fresh_good hG f args V v1 V1 hp B β w args' hB hW hA hf cs
      · exact fresh_good hG f args V v1 V1 hp B β w args' hB hW hA hf cs

theorem step_good (hT : Tabs P G) {Q : Orc} (hQ : OrcOk P G Q) (hG : Good P G rec) : Good P G (stepX P Q rec) := by
  refine ⟨fun c E s hc => code_good hG c E s hc, fun c E s hc => ?_, fun x c E s hx hc => ?_, fun f args V => call_good hT hQ hG f args V, fun l args V => ?_, fun f args => ?_⟩
  · show CodeOk P G (againT c E s P Q rec) _ _ _
    unfold againT
    split
    · rename_i r hr
      exact hQ.cuts c E s r hc hr
    · exact loop_good (items := [.inLoop c]) hG hc (fun a w b k cs => .one stepR_inLoop)
  · exact scope_good (items := [.code c, .inScope x]) hG hx hc (fun a w b k cs => .refl _ _)
  · exact round_good hG l args V
  · intro v V' hp ha hv hf
    have hp : freshT f args Q.base P rec = .val v V' := hp
    rw [hQ.base] at hp
    exact base_of hT (fresh_good hG f args _) hp (fun _ => VRs.flatL ha) hv hf

theorem run_good (hT : Tabs P G) {Q : Orc} (hQ : OrcOk P G Q) : ∀ n, Good P G (run P Q n)
  | 0 => ⟨fun _ _ _ _ _ _ h => (by cases h), fun _ _ _ _ _ _ h => (by cases h), fun _ _ _ _ _ _ _ _ h => (by cases h), fun _ _ _ _ _ h => (by cases h), fun _ _ _ _ _ h => (by cases h), fun _ _ _ _ h => (by cases h)⟩
  | n + 1 => step_good hT hQ (run_good hT hQ n)

/-- What the arguments stand for is what counts. -/
theorem known_sym (hT : Tabs P G) {Q : Orc} (hQ : OrcOk P G Q) {n : Nat} {f : FuncId} {args args' : List Value} {v : Value} {V' : VW} (hr : run P Q n (.call f args ⟨G.heap, P.globals.size, P.globals.size⟩) = .val v V')
    (ha : ∀ β, VRs β args args') (hv : flat v = true) (hf : ∃ fn c, P.funcs[f]? = some fn ∧ fn.body = some c) : Known P G f args' v :=
  base_of hT ((run_good hT hQ n).call f args _) hr ha hv hf
theorem known_of (hT : Tabs P G) {Q : Orc} (hQ : OrcOk P G Q) {n : Nat} {f : FuncId} {args : List Value} {v : Value} {V' : VW} (hr : run P Q n (.call f args ⟨G.heap, P.globals.size, P.globals.size⟩) = .val v V')
    (ha : args.all flat = true) (hv : flat v = true) (hf : ∃ fn c, P.funcs[f]? = some fn ∧ fn.body = some c) : Known P G f args v :=
  known_sym hT hQ hr (fun _ => VRs.flatL ha) hv hf

/-- A call with symbols: known where they stand for what it is known of. -/
theorem Known.callS (hT : Tabs P G) {f : FuncId} {args args' : List Value} {v : Value} (h : Known P G f args' v) (hi : ∀ β A, VRs β args A → A = args') (hv : flat v = true) (V : VW) : CallOk P G (.val v V) f args V := by
  intro v1 V1 he B β w A hB hW hA _ cs
  cases he
  rw [hi β A hA]
  obtain ⟨w', fr, h1, h2, h3, h4⟩ := h w (lies_of hT hB hW) cs
  exact ⟨β, _, w', fr, .refl _, hW.later h4, VR.flat hv, h1, h2, h3⟩

theorem Known.calls {f : FuncId} {args : List Value} {v : Value} (h : Known P G f args v) {w : World} (hL : Lies P G w) : Calls P f ⟨args⟩ w fun e w' => e = .returned v ∧ Below w.heap.size w w' := by
  intro cs
  obtain ⟨w', fr, h1, h2, h3, h4⟩ := h w hL cs
  exact ⟨_, w', fr, ⟨rfl, h4⟩, h1, h2, h3⟩

/-- The one oracle, or else the other. -/
def orElse (Q1 Q2 : Orc) : Orc := ⟨fun f args => match Q1.ans f args with
  | some v => some v
  | none => Q2.ans f args, fun f args => match Q1.rows f args with
  | some v => some v
  | none => Q2.rows f args, Q2.tries, Q2.base, fun f args V => match Q1.deep f args V with
  | some v => some v
  | none => Q2.deep f args V, fun c E s => match Q1.cuts c E s with
  | some v => some v
  | none => Q2.cuts c E s⟩
theorem OrcOk.or {Q1 Q2 : Orc} (h1 : OrcOk P G Q1) (h2 : OrcOk P G Q2) : OrcOk P G (orElse Q1 Q2) := by
  refine ⟨fun f args v h => ?_, fun f args v h => ?_, h2.base, fun f args V v V' h => ?_, fun c E s r hc h => ?_⟩
  · simp only [orElse] at h
    split at h
    · rename_i u hu
      cases h
      exact h1.ans f args _ hu
    · exact h2.ans f args v h
  · simp only [orElse] at h
    split at h
    · rename_i u hu
      cases h
      exact h1.rows f args _ hu
    · exact h2.rows f args v h
  · simp only [orElse] at h
    split at h
    · rename_i u hu
      cases h
      exact h1.deep f args V _ _ hu
    · exact h2.deep f args V v V' h
  · simp only [orElse] at h
    split at h
    · rename_i u hu
      cases h
      exact h1.cuts c E s _ hc hu
    · exact h2.cuts c E s r hc h
/-- What is told of values, holds. -/
def AnsOk (P : Program) (G : VW) (a : FuncId → List Value → Option Value) : Prop := ∀ f args v, a f args = some v → ∀ V, CallOk P G (.val v V) f args V
/-- The one, or else the other. -/
def orAns (a b : FuncId → List Value → Option Value) (f : FuncId) (args : List Value) : Option Value := match a f args with
  | some v => some v
  | none => b f args
theorem AnsOk.or {a b : FuncId → List Value → Option Value} (h1 : AnsOk P G a) (h2 : AnsOk P G b) : AnsOk P G (orAns a b) := fun f args v h => by
  unfold orAns at h
  split at h
  · rename_i u hu
    cases h
    exact h1 f args _ hu
  · exact h2 f args v h
theorem AnsOk.none : AnsOk P G (fun _ _ => none) := fun _ _ _ h => by cases h
/-- An oracle that knows values alone. -/
def valOrc (tries : FuncId → Bool) (V : VW) (a : FuncId → List Value → Option Value) : Orc := ⟨a, fun _ _ => none, tries, V, noDeep, noCuts⟩
theorem valOrc_ok {tries : FuncId → Bool} {V : VW} {a : FuncId → List Value → Option Value} (hV : V = ⟨G.heap, P.globals.size, P.globals.size⟩) (h : AnsOk P G a) : OrcOk P G (valOrc tries V a) :=
  ⟨h, fun _ _ _ hh => (by cases hh), hV, fun _ _ _ _ _ hh => (by cases hh), fun _ _ _ _ _ hh => (by cases hh)⟩
theorem nothing_known {V : VW} (hV : V = ⟨G.heap, P.globals.size, P.globals.size⟩) : OrcOk P G (noOrc V) := ⟨fun _ _ _ h => (by cases h), fun _ _ _ h => (by cases h), hV, fun _ _ _ _ _ h => (by cases h), fun _ _ _ _ _ h => (by cases h)⟩
end
end Go.Vx
/-! Tables of what is known of calls. -/
namespace Go.Vx
variable [Syms]
variable [Keeps]
open Go.RowKit

def findV (args : List Value) : List (List Value × Value) → Option Value
  | [] => none
  | e :: l => match eqA e.1 args with
    | true => some e.2
    | false => findV args l
def findF (f : Nat) (args : List Value) : List (Nat × List (List Value × Value)) → Option Value
  | [] => none
  | p :: l => match Nat.beq p.1 f with
    | true => match findV args p.2 with
      | some v => some v
      | none => findF f args l
    | false => findF f args l

theorem findV_mem {args : List Value} {v : Value} : ∀ {l : List (List Value × Value)}, findV args l = some v → (args, v) ∈ l
  | [], h => by cases h
  | e :: l, h => by
    simp only [findV] at h
    split at h
    · rename_i he
      cases h
      rw [← eqA_eq he]
      exact List.mem_cons_self
    · exact List.mem_cons_of_mem _ (findV_mem h)
theorem findF_mem {f : Nat} {args : List Value} {v : Value} : ∀ {l : List (Nat × List (List Value × Value))}, findF f args l = some v → ∃ t, (f, t) ∈ l ∧ (args, v) ∈ t
  | [], h => by cases h
  | p :: l, h => by
    simp only [findF] at h
    split at h
    · rename_i he
      have := Nat.eq_of_beq_eq_true he
      subst this
      split at h
      · rename_i v' hv
        cases h
        exact ⟨p.2, List.mem_cons_self, findV_mem hv⟩
      · obtain ⟨t, h1, h2⟩ := findF_mem h
        exact ⟨t, List.mem_cons_of_mem _ h1, h2⟩
    · obtain ⟨t, h1, h2⟩ := findF_mem h
      exact ⟨t, List.mem_cons_of_mem _ h1, h2⟩

section
variable {P : Program} {G : VW}
/-- An entry holds. -/
def Entry (P : Program) (G : VW) (f : FuncId) (e : List Value × Value) : Prop := Known P G f e.1 e.2 ∧ e.1.all flat = true ∧ flat e.2 = true
/-- Tables hold. -/
def Holds (P : Program) (G : VW) : List (Nat × List (List Value × Value)) → Prop
  | [] => True
  | p :: l => (∀ e ∈ p.2, Entry P G p.1 e) ∧ Holds P G l
theorem Holds.all : ∀ {l : List (Nat × List (List Value × Value))}, Holds P G l → ∀ p ∈ l, ∀ e ∈ p.2, Entry P G p.1 e
  | p :: l, h, q, hq => by
    rcases List.mem_cons.1 hq with rfl | hq
    · exact h.1
    · exact Holds.all h.2 q hq
theorem orc_of (hT : Tabs P G) {tabs : List (Nat × List (List Value × Value))} (h : ∀ p ∈ tabs, ∀ e ∈ p.2, Entry P G p.1 e) : AnsOk P G fun f args => findF f args tabs := by
  intro f args v hf V
  obtain ⟨t, h1, h2⟩ := findF_mem hf
  obtain ⟨k1, k2, k3⟩ := h _ h1 _ h2
  exact k1.call hT k2 k3 V

def isVal (v : Value) : R → Bool
  | .val u _ => eqw v u
  | _ => false
omit [Syms] in
noncomputable def entryOk [Prims] (P : Program) (Q : Orc) (V : VW) (f : FuncId) (e : List Value × Value) : Bool :=
  e.1.all flat && (flat e.2 && ((fnOf P f).isSome && isVal e.2 (run P Q 1000000 (.call f e.1 V))))
theorem entry_of (hT : Tabs P G) (hG1 : G.size = P.globals.size) (hG2 : G.floor = P.globals.size) {Q : Orc} (hQ : OrcOk P G Q) {f : FuncId} {e : List Value × Value} (h : entryOk P Q G f e = true) : Entry P G f e := by
  unfold entryOk at h
  simp only [Bool.and_eq_true] at h
  obtain ⟨h1, h2, h3, h4⟩ := h
  refine ⟨?_, h1, h2⟩
  cases hfn : fnOf P f with
  | none => rw [hfn] at h3; cases h3
  | some x =>
    obtain ⟨g1, g2, _⟩ := fnOf_spec hfn
    cases hr : run P Q 1000000 (.call f e.1 G) with
    | val u V' =>
      rw [hr] at h4
      have hu := eqw_eq (show eqw e.2 u = true from h4)
      have hG : G = ⟨G.heap, P.globals.size, P.globals.size⟩ := by
        obtain ⟨a, b, c⟩ := G
        simp only at hG1 hG2
        subst hG1 hG2
        rfl
      rw [hG] at hr
      have hr' : run P Q 1000000 (.call f e.1 ⟨G.heap, P.globals.size, P.globals.size⟩) = .val e.2 V' := by rw [hu]; exact hr
      exact known_of hT hQ hr' h1 h2 ⟨_, _, g1, g2⟩
    | fall y s => rw [hr] at h4; cases h4
    | bad m n => rw [hr] at h4; cases h4
theorem entries_of (hT : Tabs P G) (hG1 : G.size = P.globals.size) (hG2 : G.floor = P.globals.size) {Q : Orc} (hQ : OrcOk P G Q) {f : FuncId} {l : List (List Value × Value)} (h : l.all (entryOk P Q G f) = true) : ∀ e ∈ l, Entry P G f e :=
  fun e he => entry_of hT hG1 hG2 hQ (List.all_eq_true.1 h e he)
end
end Go.Vx
/-! An index for tables. -/
namespace Go.Vx
variable [Syms]
variable [Keeps]
open Go.RowKit

def hsh1 (x : Value) : Nat := match x with
  | .int _ (.ofNat m) => m
  | .int _ (.negSucc m) => Nat.add m 77
  | _ => 0
noncomputable def hshL (l : List Value) : Nat := List.rec (motive := fun _ => Nat) 5 (fun x _ ih => Nat.add (Nat.mul ih 31) (hsh1 x)) l
noncomputable def hshv (x : Value) : Nat := match x with
  | .agg a => hshL a.toList
  | z => hsh1 z
noncomputable def hshA (l : List Value) : Nat := List.rec (motive := fun _ => Nat) 0 (fun x _ ih => Nat.add (Nat.mul ih 1009) (hshv x)) l
noncomputable def hsh (f : Nat) (args : List Value) : Nat := Nat.mod (Nat.add (hshA args) (Nat.mul f 37)) 8192
abbrev Ent := Nat × List Value × Value
noncomputable def inBucket (f : Nat) (args : List Value) (l : List Ent) : Option Value :=
  List.rec (motive := fun _ => Option Value) none (fun e _ ih => Bool.rec (motive := fun _ => Option Value) ih (some e.2.2) (Nat.beq e.1 f && eqA e.2.1 args)) l
noncomputable def findI (t : T (List Ent)) (f : Nat) (args : List Value) : Option Value :=
  Option.rec (motive := fun _ => Option Value) none (fun l => inBucket f args l) (t.get (hsh f args))
noncomputable def allI (p : Ent → Bool) (t : T (List Ent)) : Bool :=
  T.rec (motive := fun _ => Bool) true (fun v _ _ il ir => Option.rec (motive := fun _ => Bool) true (fun l => l.all p) v && (il && ir)) t
def isIn (tabs : List (Nat × List (List Value × Value))) (e : Ent) : Bool := match findF e.1 e.2.1 tabs with
  | some v => eqw v e.2.2
  | none => false

theorem inBucket_mem {f : Nat} {args : List Value} {v : Value} : ∀ {l : List Ent}, inBucket f args l = some v → (f, args, v) ∈ l
  | [], h => by cases h
  | e :: l, h => by
    change Bool.rec (motive := fun _ => Option Value) (inBucket f args l) (some e.2.2) (Nat.beq e.1 f && eqA e.2.1 args) = _ at h
    cases hb : (Nat.beq e.1 f && eqA e.2.1 args) with
    | false => rw [hb] at h; exact List.mem_cons_of_mem _ (inBucket_mem h)
    | true =>
      rw [hb] at h
      simp only [Bool.and_eq_true] at hb
      have h1 := Nat.eq_of_beq_eq_true hb.1
      have h2 := eqA_eq hb.2
      have h3 : e.2.2 = v := Option.some.inj h
      obtain ⟨a, b, c⟩ := e
      simp only at h1 h2 h3
      subst h1 h2 h3
      exact List.mem_cons_self

theorem allI_get {p : Ent → Bool} : ∀ {t : T (List Ent)}, allI p t = true → ∀ i l, t.get i = some l → ∀ e ∈ l, p e = true := by
  intro t
  induction t with
  | nil => intro _ i l h; cases h
  | node v a b iha ihb =>
    intro h i l hg e he
    change (Option.rec (motive := fun _ => Bool) true (fun l => l.all p) v && (allI p a && allI p b)) = true at h
    simp only [Bool.and_eq_true] at h
    obtain ⟨h1, h2, h3⟩ := h
    change Bool.rec (motive := fun _ => Option (List Ent)) (Bool.rec (motive := fun _ => Option (List Ent)) (b.get (i / 2 - 1)) (a.get (i / 2)) (Nat.beq (i % 2) 1)) v (Nat.beq i 0) = some l at hg
    cases h0 : Nat.beq i 0 with
    | true =>
      rw [h0] at hg
      have hv : v = some l := hg
      rw [hv] at h1
      exact List.all_eq_true.1 h1 e he
    | false =>
      rw [h0] at hg
      cases hm : Nat.beq (i % 2) 1 with
      | true => rw [hm] at hg; exact iha h2 _ _ hg e he
      | false => rw [hm] at hg; exact ihb h3 _ _ hg e he

section
variable {P : Program} {G : VW}
theorem orcI_of (hT : Tabs P G) {tabs : List (Nat × List (List Value × Value))} (h : Holds P G tabs) {t : T (List Ent)} (ht : allI (isIn tabs) t = true) : AnsOk P G (findI t) := by
  intro f args v hf V
  unfold findI at hf
  cases hg : t.get (hsh f args) with
  | none => rw [hg] at hf; cases hf
  | some l =>
    rw [hg] at hf
    have hm := inBucket_mem (show inBucket f args l = some v from hf)
    have hi := allI_get ht _ _ hg _ hm
    unfold isIn at hi
    split at hi
    · rename_i u hu
      have := eqw_eq hi
      simp only at this hu
      subst this
      obtain ⟨tb, h1, h2⟩ := findF_mem hu
      obtain ⟨k1, k2, k3⟩ := Holds.all h _ h1 _ h2
      exact k1.call hT k2 k3 V
    · cases hi
end
end Go.Vx
/-! Tables that are reckoned: an entry for each number below a bound. -/
namespace Go.Vx
variable [Syms]
variable [Keeps]
open Go.RowKit

/-! Short names of values. -/
def vi (n : Nat) : Value := .int .i64 (.ofNat n)
def vn (n : Nat) : Value := .int .i64 (.negSucc n)
def vu (n : Nat) : Value := .int .u8 (.ofNat n)
def vk (k : IntKind) (n : Nat) : Value := .int k (.ofNat n)
def vl (k : IntKind) (n : Nat) : Value := .int k (.negSucc n)
def vy (n : Nat) : Value := .chan (some n)
def vt : Value := .bool true
def vf : Value := .bool false
def va (l : List Value) : Value := .agg ⟨l⟩
def vp (l : List Value) : Value := .tuple ⟨l⟩
def vs (l : List UInt8) : Value := .string ⟨⟨l⟩⟩
def vz (a b : Nat) : Value := .slice none a b

/-- The functions whose numbers are bits of m. -/
def bitsT (m : Nat) (f : Nat) : Bool := Nat.beq (Nat.mod (Nat.div m (Nat.pow (nat_lit 2) f)) (nat_lit 2)) (nat_lit 1)
/-- All numbers from lo on, n of them. -/
noncomputable def allN (p : Nat → Bool) (n : Nat) : Nat → Bool :=
  Nat.rec (motive := fun _ => Nat → Bool) (fun _ => true) (fun _ ih lo => Bool.rec (motive := fun _ => Bool) false (ih (Nat.succ lo)) (p lo)) n
theorem allN_get {p : Nat → Bool} : ∀ {n lo : Nat}, allN p n lo = true → ∀ i, lo ≤ i → i < lo + n → p i = true
  | 0, lo, _, i, h1, h2 => by omega
  | n + 1, lo, h, i, h1, h2 => by
    change Bool.rec (motive := fun _ => Bool) false (allN p n (Nat.succ lo)) (p lo) = true at h
    cases hp : p lo with
    | false => rw [hp] at h; cases h
    | true =>
      rw [hp] at h
      by_cases he : i = lo
      · rw [he]; exact hp
      · exact allN_get (lo := lo + 1) h i (by omega) (by omega)

/-- A table of one function: where an entry would stand, what it says. -/
structure Tab where
  f : Nat
  n : Nat
  key : Nat → List Value
  val : Nat → Value
  dec : List Value → Nat
noncomputable def Tab.at (t : Tab) (args : List Value) (i : Nat) : Option Value :=
  Bool.rec (motive := fun _ => Option Value) none (Bool.rec (motive := fun _ => Option Value) none (some (t.val i)) (eqA (t.key i) args)) (Nat.ble (Nat.succ i) t.n)
noncomputable def Tab.orc (t : Tab) (g : FuncId) (args : List Value) : Option Value :=
  Bool.rec (motive := fun _ => Option Value) none (t.at args (t.dec args)) (Nat.beq g t.f)

/-! An index that is made of a list. -/
noncomputable def insAt (t : T (List Ent)) (h : Nat) (e : Ent) : T (List Ent) := T.set 21 t h (e :: Option.rec (motive := fun _ => List Ent) [] (fun l => l) (t.get h))
noncomputable def mkI (l : List Ent) : T (List Ent) := List.rec (motive := fun _ => T (List Ent)) .nil (fun e _ ih => insAt ih (hsh e.1 e.2.1) e) l
theorem mkI_mem : ∀ {l : List Ent} {i : Nat} {b : List Ent}, (mkI l).get i = some b → ∀ e ∈ b, e ∈ l
  | [], i, b, h, e, he => by cases h
  | x :: l, i, b, h, e, he => by
    change (T.set 21 (mkI l) (hsh x.1 x.2.1) (x :: Option.rec (motive := fun _ => List Ent) [] (fun l => l) ((mkI l).get (hsh x.1 x.2.1)))).get i = some b at h
    have hb : hsh x.1 x.2.1 < top := Nat.lt_of_lt_of_le (Nat.mod_lt _ (by decide)) (show 8192 ≤ top by decide)
    rw [T.get_put _ _ _ hb] at h
    split at h
    · cases h
      rcases List.mem_cons.1 he with rfl | he
      · exact List.mem_cons_self
      · cases hg : (mkI l).get (hsh x.1 x.2.1) with
        | none => rw [hg] at he; cases he
        | some b' => rw [hg] at he; exact List.mem_cons_of_mem _ (mkI_mem hg e he)
    · exact List.mem_cons_of_mem _ (mkI_mem h e he)
noncomputable def orcL (l : List Ent) (f : FuncId) (args : List Value) : Option Value := findI (mkI l) f args

section
variable {P : Program} {G : VW}
omit [Syms] in
noncomputable def entOk [Prims] (P : Program) (Q : Orc) (V : VW) (e : Ent) : Bool := entryOk P Q V e.1 e.2
def Ents (P : Program) (G : VW) (l : List Ent) : Prop := ∀ e ∈ l, Entry P G e.1 e.2
theorem Ents.nil : Ents P G [] := fun _ h => by cases h
theorem Ents.app {l m : List Ent} (h : Ents P G l) (k : Ents P G m) : Ents P G (l ++ m) := fun e he => (List.mem_append.1 he).elim (h e) (k e)
theorem ents_of (hT : Tabs P G) (hG1 : G.size = P.globals.size) (hG2 : G.floor = P.globals.size) {Q : Orc} (hQ : OrcOk P G Q) {l : List Ent} (h : allL (entOk P Q G) l = true) : Ents P G l := by
  rw [allL_eq] at h
  exact fun e he => entry_of hT hG1 hG2 hQ (List.all_eq_true.1 h e he)
theorem orcL_ok (hT : Tabs P G) {l : List Ent} (h : Ents P G l) : AnsOk P G (orcL l) := by
  intro f args v hf V
  change findI (mkI l) f args = some v at hf
  unfold findI at hf
  cases hg : (mkI l).get (hsh f args) with
  | none => rw [hg] at hf; cases hf
  | some b =>
    rw [hg] at hf
    obtain ⟨k1, k2, k3⟩ := h _ (mkI_mem hg _ (inBucket_mem (show inBucket f args b = some v from hf)))
    exact k1.call hT k2 k3 V
/-- What a table says, holds. -/
def Tab.Ok (P : Program) (G : VW) (t : Tab) : Prop := ∀ i, i < t.n → Entry P G t.f (t.key i, t.val i)
theorem Tab.orc_ok (hT : Tabs P G) {t : Tab} (h : t.Ok P G) : AnsOk P G t.orc := by
  intro g args v hq V
  change Bool.rec (motive := fun _ => Option Value) none (t.at args (t.dec args)) (Nat.beq g t.f) = some v at hq
  cases hg : Nat.beq g t.f with
  | false => rw [hg] at hq; cases hq
  | true =>
    rw [hg] at hq
    have hg' := Nat.eq_of_beq_eq_true hg
    subst hg'
    change Bool.rec (motive := fun _ => Option Value) none (Bool.rec (motive := fun _ => Option Value) none (some (t.val (t.dec args))) (eqA (t.key (t.dec args)) args)) (Nat.ble (Nat.succ (t.dec args)) t.n) = some v at hq
    cases hn : Nat.ble (Nat.succ (t.dec args)) t.n with
    | false => rw [hn] at hq; cases hq
    | true =>
      rw [hn] at hq
      cases he : eqA (t.key (t.dec args)) args with
      | false => rw [he] at hq; cases hq
      | true =>
        rw [he] at hq
        have hv : t.val (t.dec args) = v := Option.some.inj hq
        have ha := eqA_eq he
        obtain ⟨k1, k2, k3⟩ := h _ (Nat.le_of_ble_eq_true hn)
        simp only [ha, hv] at k1 k2 k3
        exact k1.call hT k2 k3 V
theorem entries_allN (hT : Tabs P G) (hG1 : G.size = P.globals.size) (hG2 : G.floor = P.globals.size) {Q : Orc} (hQ : OrcOk P G Q) {f : FuncId} {key : Nat → List Value} {val : Nat → Value} {n lo : Nat}
    (h : allN (fun i => entryOk P Q G f (key i, val i)) n lo = true) : ∀ i, lo ≤ i → i < lo + n → Entry P G f (key i, val i) :=
  fun i h1 h2 => entry_of hT hG1 hG2 hQ (allN_get h i h1 h2)
end

/-! ### Symbols by tables -/
def act (ρ : Nat → Value) (v : Value) : Value := match v with
  | .chan (some i) => ρ i
  | v => v
def simp1 : Value → Bool
  | .chan (some _) => true
  | .int .. => true
  | .bool _ => true
  | _ => false
def opN : BinOp → Nat
  | .add => 0 | .sub => 1 | .mul => 2 | .quo => 3 | .rem => 4 | .and => 5 | .or => 6 | .xor => 7 | .shl => 8 | .shr => 9 | .andNot => 10 | .eql => 11 | .neq => 12 | .lss => 13 | .leq => 14 | .gtr => 15 | .geq => 16
theorem opN_inj {a b : BinOp} (h : opN a = opN b) : a = b := by
  cases a <;> cases b <;> first | rfl | (simp [opN] at h)
abbrev BinE := Nat × Value × Value × Value
abbrev ConvE := Nat × Value × Value
noncomputable def binT (l : List BinE) (op : BinOp) (x y : Value) : Option Value :=
  List.rec (motive := fun _ => Option Value) none (fun e _ ih => Bool.rec (motive := fun _ => Option Value) ih (some e.2.2.2) (Nat.beq e.1 (opN op) && (eqv e.2.1 x && eqv e.2.2.1 y))) l
noncomputable def convT (l : List ConvE) (k : IntKind) (x : Value) : Option Value :=
  List.rec (motive := fun _ => Option Value) none (fun e _ ih => Bool.rec (motive := fun _ => Option Value) ih (some e.2.2) (Nat.beq e.1 (kindN k) && eqv e.2.1 x)) l
@[reducible] noncomputable def tabPrims (bt : List BinE) (ct : List ConvE) : Prims := ⟨binT bt, convT ct⟩
theorem binT_mem {op : BinOp} {x y v : Value} : ∀ {l : List BinE}, binT l op x y = some v → (opN op, x, y, v) ∈ l
  | [], h => by cases h
  | e :: l, h => by
    change Bool.rec (motive := fun _ => Option Value) (binT l op x y) (some e.2.2.2) (Nat.beq e.1 (opN op) && (eqv e.2.1 x && eqv e.2.2.1 y)) = _ at h
    cases hb : (Nat.beq e.1 (opN op) && (eqv e.2.1 x && eqv e.2.2.1 y)) with
    | false => rw [hb] at h; exact List.mem_cons_of_mem _ (binT_mem h)
    | true =>
      rw [hb] at h
      simp only [Bool.and_eq_true] at hb
      have h1 := Nat.eq_of_beq_eq_true hb.1
      have h2 := eqv_eq hb.2.1
      have h3 := eqv_eq hb.2.2
      have h4 : e.2.2.2 = v := Option.some.inj h
      obtain ⟨a, b, c, d⟩ := e
      simp only at h1 h2 h3 h4
      subst h1 h2 h3 h4
      exact List.mem_cons_self
theorem convT_mem {k : IntKind} {x v : Value} : ∀ {l : List ConvE}, convT l k x = some v → (kindN k, x, v) ∈ l
  | [], h => by cases h
  | e :: l, h => by
    change Bool.rec (motive := fun _ => Option Value) (convT l k x) (some e.2.2) (Nat.beq e.1 (kindN k) && eqv e.2.1 x) = _ at h
    cases hb : (Nat.beq e.1 (kindN k) && eqv e.2.1 x) with
    | false => rw [hb] at h; exact List.mem_cons_of_mem _ (convT_mem h)
    | true =>
      rw [hb] at h
      simp only [Bool.and_eq_true] at hb
      have h1 := Nat.eq_of_beq_eq_true hb.1
      have h2 := eqv_eq hb.2
      have h4 : e.2.2 = v := Option.some.inj h
      obtain ⟨a, b, d⟩ := e
      simp only at h1 h2 h4
      subst h1 h2 h4
      exact List.mem_cons_self
/-- An entry on an operation says what the operation does. -/
def BinHolds (ρ : Nat → Value) (e : BinE) : Prop := simp1 e.2.1 = true ∧ simp1 e.2.2.1 = true ∧ simp1 e.2.2.2 = true ∧ ∀ op, opN op = e.1 → binFast op (act ρ e.2.1) (act ρ e.2.2.1) = some (act ρ e.2.2.2)
def ConvHolds (ρ : Nat → Value) (e : ConvE) : Prop := simp1 e.2.1 = true ∧ simp1 e.2.2 = true ∧ ∃ k0 n, act ρ e.2.1 = .int k0 n ∧ ∀ k, kindN k = e.1 → act ρ e.2.2 = .int k (wrapF k n)
def Plain1 (ρ : Nat → Value) : Prop := (∀ i, (ρ i).oneCell' = true) ∧ ∀ i b, ρ i ≠ .bool b
@[reducible] def valsOf (ρ : Nat → Value) (h : Plain1 ρ) : Vals := ⟨ρ, h.1, h.2⟩
omit [Syms] in
theorem act_of {ρ : Nat → Value} (hp : Plain1 ρ) {β : Nat → Ren} {x x' : Value} (h : @VR (valsOf ρ hp) β x x') (hs : simp1 x = true) : x' = act ρ x := by
  letI := valsOf ρ hp
  cases h with
  | atom ha => cases x <;> first | rfl | (simp [simp1] at hs; done) | (rename_i o; cases o <;> first | rfl | (simp [simp1] at hs; done) | (simp [atom] at ha; done))
  | sym => rfl
  | _ => simp [simp1] at hs
omit [Syms] in
theorem act_vr {ρ : Nat → Value} (hp : Plain1 ρ) {β : Nat → Ren} {x : Value} (hs : simp1 x = true) : @VR (valsOf ρ hp) β x (act ρ x) := by
  letI := valsOf ρ hp
  cases x <;> first | (simp [simp1] at hs; done) | exact .atom rfl | skip
  rename_i o
  cases o with
  | none => simp [simp1] at hs
  | some i => exact VR.sym
omit [Syms] in
@[reducible] noncomputable def tabSyms (ρ : Nat → Value) (hp : Plain1 ρ) (bt : List BinE) (ct : List ConvE) (hb : ∀ e ∈ bt, BinHolds ρ e) (hc : ∀ e ∈ ct, ConvHolds ρ e) : Syms :=
  { toVals := valsOf ρ hp, toPrims := tabPrims bt ct
    binOk := fun op x y v h β x' y' hx hy => by
      haveI := anySyms
      obtain ⟨h1, h2, h3, h4⟩ := hb _ (binT_mem h)
      rw [act_of hp hx h1, act_of hp hy h2]
      exact ⟨_, act_vr hp h3, h4 op rfl⟩
    convOk := fun k x v h β x' hx => by
      haveI := anySyms
      obtain ⟨h1, h2, k0, n, h3, h4⟩ := hc _ (convT_mem h)
      refine ⟨k0, n, (act_of hp hx h1).trans h3, ?_⟩
      have := act_vr (β := β) hp h2
      rw [h4 k rfl] at this
      exact this }
end Go.Vx
