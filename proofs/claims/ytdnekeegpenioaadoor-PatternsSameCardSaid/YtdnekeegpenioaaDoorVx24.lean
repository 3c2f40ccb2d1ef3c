/-
  Says: Runs on symbols: what a path of a call says of all that take it.
-/
import Derived.Test.YtdnekeegpenioaaDoorVx20
set_option linter.unusedVariables false
set_option linter.unusedSimpArgs false
set_option linter.unusedSectionVars false
/-! Runs on symbols: what a path of a call says of all that take it. -/
namespace Go.Vx
variable [Syms]
variable [Keeps]
open Go.RowKit

/-! ### What values with symbols stand for -/
def act1 (ρ : Nat → Value) (v : Value) : Value := match v with
  | .agg ⟨l⟩ => .agg ⟨l.map (act ρ)⟩
  | v => act ρ v
def actV (ρ : Nat → Value) (v : Value) : Value := match v with
  | .tuple ⟨l⟩ => .tuple ⟨l.map (act1 ρ)⟩
  | v => act1 ρ v
def simpA : Value → Bool
  | .agg ⟨l⟩ => l.all simp1
  | v => simp1 v
def simpV : Value → Bool
  | .tuple ⟨l⟩ => l.all simpA
  | v => simpA v
section
variable {ρ : Nat → Value} (hp : Plain1 ρ) {β : Nat → Ren}
omit [Syms] in
theorem acts_of {l : List Value} : ∀ {l' : List Value}, @VRs (valsOf ρ hp) β l l' → l.all simp1 = true → l' = l.map (act ρ) := by
  letI := valsOf ρ hp
  induction l with
  | nil => intro l' h _; cases h; rfl
  | cons x l ih =>
    intro l' h hs
    cases h with
    | cons h t =>
      simp only [List.all_cons, Bool.and_eq_true] at hs
      rw [act_of hp h hs.1, ih t hs.2]
      rfl
omit [Syms] in
theorem acts_vr {l : List Value} (hs : l.all simp1 = true) : @VRs (valsOf ρ hp) β l (l.map (act ρ)) := by
  letI := valsOf ρ hp
  induction l with
  | nil => exact VRs.nil
  | cons x l ih =>
    simp only [List.all_cons, Bool.and_eq_true] at hs
    exact VRs.cons (act_vr hp hs.1) (ih hs.2)
omit [Syms] in
theorem act1_of {x x' : Value} (h : @VR (valsOf ρ hp) β x x') (hs : simpA x = true) : x' = act1 ρ x := by
  letI := valsOf ρ hp
  cases x with
  | agg a =>
    obtain ⟨l⟩ := a
    cases h with
    | atom h => simp [atom] at h
    | agg hl =>
      rw [acts_of hp hl hs]
      rfl
  | _ => exact act_of hp h hs
omit [Syms] in
theorem act1_vr {x : Value} (hs : simpA x = true) : @VR (valsOf ρ hp) β x (act1 ρ x) := by
  letI := valsOf ρ hp
  cases x with
  | agg a => obtain ⟨l⟩ := a; exact VR.agg (acts_vr hp hs)
  | _ => exact act_vr hp hs
omit [Syms] in
theorem act1s_of {l : List Value} : ∀ {l' : List Value}, @VRs (valsOf ρ hp) β l l' → l.all simpA = true → l' = l.map (act1 ρ) := by
  letI := valsOf ρ hp
  induction l with
  | nil => intro l' h _; cases h; rfl
  | cons x l ih =>
    intro l' h hs
    cases h with
    | cons h t =>
      simp only [List.all_cons, Bool.and_eq_true] at hs
      rw [act1_of hp h hs.1, ih t hs.2]
      rfl
omit [Syms] in
theorem act1s_vr {l : List Value} (hs : l.all simpA = true) : @VRs (valsOf ρ hp) β l (l.map (act1 ρ)) := by
  letI := valsOf ρ hp
  induction l with
  | nil => exact VRs.nil
  | cons x l ih =>
    simp only [List.all_cons, Bool.and_eq_true] at hs
    exact VRs.cons (act1_vr hp hs.1) (ih hs.2)
omit [Syms] in
theorem actV_of {x x' : Value} (h : @VR (valsOf ρ hp) β x x') (hs : simpV x = true) : x' = actV ρ x := by
  letI := valsOf ρ hp
  cases x with
  | tuple a =>
    obtain ⟨l⟩ := a
    cases h with
    | atom h => simp [atom] at h
    | tuple hl =>
      rw [act1s_of hp hl hs]
      rfl
  | agg a => exact act1_of hp h hs
  | _ => exact act_of hp h hs
end

/-! ### Facts about operations -/
variable {ρ : Nat → Value}
def AllB (ρ : Nat → Value) : List BinE → Prop
  | [] => True
  | e :: l => BinHolds ρ e ∧ AllB ρ l
def AllC (ρ : Nat → Value) : List ConvE → Prop
  | [] => True
  | e :: l => ConvHolds ρ e ∧ AllC ρ l
omit [Syms] in
theorem AllB.mem : ∀ {l : List BinE}, AllB ρ l → ∀ e ∈ l, BinHolds ρ e
  | e :: l, h, x, hx => by
    rcases List.mem_cons.1 hx with rfl | hx
    · exact h.1
    · exact AllB.mem h.2 x hx
omit [Syms] in
theorem AllC.mem : ∀ {l : List ConvE}, AllC ρ l → ∀ e ∈ l, ConvHolds ρ e
  | e :: l, h, x, hx => by
    rcases List.mem_cons.1 hx with rfl | hx
    · exact h.1
    · exact AllC.mem h.2 x hx
section
omit [Syms] in
theorem bin_int {x y v : Value} {k : IntKind} {a b : Int} {n : Nat} {op : BinOp} (ho : n = opN op) (hsh : op ≠ .shl ∧ op ≠ .shr) (sv : simp1 v = true) (h : fastC op k a b = some (act ρ v)) (hx : act ρ x = .int k a) (hy : act ρ y = .int k b) (sx : simp1 x = true) (sy : simp1 y = true) : BinHolds ρ (n, x, y, v) := by
  haveI := anySyms
  refine ⟨sx, sy, sv, fun op' hop => ?_⟩
  obtain rfl : op' = op := opN_inj (hop.trans ho)
  show binFast op' (act ρ x) (act ρ y) = some (act ρ v)
  haveI := anySyms
  rw [hx, hy, binFast_eq]
  unfold binFast'
  simp only []
  rw [show Nat.beq (kindN k) (kindN k) = true by simp]
  cases op' <;> first | exact h | exact absurd rfl hsh.1 | exact absurd rfl hsh.2
omit [Syms] in
theorem bh_lss {x y : Value} {k : IntKind} {a b : Int} {r : Bool} (hx : act ρ x = .int k a) (hy : act ρ y = .int k b) (sx : simp1 x = true) (sy : simp1 y = true) (h : ltI a b = r) : BinHolds ρ (13, x, y, .bool r) := bin_int (op := .lss) rfl ⟨by simp, by simp⟩ rfl (by rw [← h]; rfl) hx hy sx sy
omit [Syms] in
theorem bh_geqT {x y : Value} {k : IntKind} {a b : Int} (hx : act ρ x = .int k a) (hy : act ρ y = .int k b) (sx : simp1 x = true) (sy : simp1 y = true) (h : ltI a b = false) : BinHolds ρ (16, x, y, .bool true) := bin_int (op := .geq) rfl ⟨by simp, by simp⟩ rfl (by show some (Value.bool (not (ltI a b))) = _; rw [h]; rfl) hx hy sx sy
omit [Syms] in
theorem bh_geqF {x y : Value} {k : IntKind} {a b : Int} (hx : act ρ x = .int k a) (hy : act ρ y = .int k b) (sx : simp1 x = true) (sy : simp1 y = true) (h : ltI a b = true) : BinHolds ρ (16, x, y, .bool false) := bin_int (op := .geq) rfl ⟨by simp, by simp⟩ rfl (by show some (Value.bool (not (ltI a b))) = _; rw [h]; rfl) hx hy sx sy
omit [Syms] in
theorem bh_gtr {x y : Value} {k : IntKind} {a b : Int} {r : Bool} (hx : act ρ x = .int k a) (hy : act ρ y = .int k b) (sx : simp1 x = true) (sy : simp1 y = true) (h : ltI b a = r) : BinHolds ρ (15, x, y, .bool r) := bin_int (op := .gtr) rfl ⟨by simp, by simp⟩ rfl (by rw [← h]; rfl) hx hy sx sy
omit [Syms] in
theorem bh_leqT {x y : Value} {k : IntKind} {a b : Int} (hx : act ρ x = .int k a) (hy : act ρ y = .int k b) (sx : simp1 x = true) (sy : simp1 y = true) (h : ltI b a = false) : BinHolds ρ (14, x, y, .bool true) := bin_int (op := .leq) rfl ⟨by simp, by simp⟩ rfl (by show some (Value.bool (not (ltI b a))) = _; rw [h]; rfl) hx hy sx sy
omit [Syms] in
theorem bh_leqF {x y : Value} {k : IntKind} {a b : Int} (hx : act ρ x = .int k a) (hy : act ρ y = .int k b) (sx : simp1 x = true) (sy : simp1 y = true) (h : ltI b a = true) : BinHolds ρ (14, x, y, .bool false) := bin_int (op := .leq) rfl ⟨by simp, by simp⟩ rfl (by show some (Value.bool (not (ltI b a))) = _; rw [h]; rfl) hx hy sx sy
omit [Syms] in
theorem bh_eql {x y : Value} {k : IntKind} {a b : Int} {r : Bool} (hx : act ρ x = .int k a) (hy : act ρ y = .int k b) (sx : simp1 x = true) (sy : simp1 y = true) (h : eqI a b = r) : BinHolds ρ (11, x, y, .bool r) := bin_int (op := .eql) rfl ⟨by simp, by simp⟩ rfl (by rw [← h]; rfl) hx hy sx sy
omit [Syms] in
theorem bh_neqT {x y : Value} {k : IntKind} {a b : Int} (hx : act ρ x = .int k a) (hy : act ρ y = .int k b) (sx : simp1 x = true) (sy : simp1 y = true) (h : eqI a b = false) : BinHolds ρ (12, x, y, .bool true) := bin_int (op := .neq) rfl ⟨by simp, by simp⟩ rfl (by show some (Value.bool (not (eqI a b))) = _; rw [h]; rfl) hx hy sx sy
omit [Syms] in
theorem bh_neqF {x y : Value} {k : IntKind} {a b : Int} (hx : act ρ x = .int k a) (hy : act ρ y = .int k b) (sx : simp1 x = true) (sy : simp1 y = true) (h : eqI a b = true) : BinHolds ρ (12, x, y, .bool false) := bin_int (op := .neq) rfl ⟨by simp, by simp⟩ rfl (by show some (Value.bool (not (eqI a b))) = _; rw [h]; rfl) hx hy sx sy
omit [Syms] in
theorem bh_add {x y v : Value} {k : IntKind} {a b : Int} (hx : act ρ x = .int k a) (hy : act ρ y = .int k b) (sx : simp1 x = true) (sy : simp1 y = true) (sv : simp1 v = true) (hv : act ρ v = .int k (wrapF k (Int.add a b))) : BinHolds ρ (0, x, y, v) := bin_int (op := .add) rfl ⟨by simp, by simp⟩ sv (by rw [hv]; rfl) hx hy sx sy
omit [Syms] in
theorem bh_sub {x y v : Value} {k : IntKind} {a b : Int} (hx : act ρ x = .int k a) (hy : act ρ y = .int k b) (sx : simp1 x = true) (sy : simp1 y = true) (sv : simp1 v = true) (hv : act ρ v = .int k (wrapF k (Int.sub a b))) : BinHolds ρ (1, x, y, v) := bin_int (op := .sub) rfl ⟨by simp, by simp⟩ sv (by rw [hv]; rfl) hx hy sx sy
omit [Syms] in
theorem bh_mul {x y v : Value} {k : IntKind} {a b : Int} (hx : act ρ x = .int k a) (hy : act ρ y = .int k b) (sx : simp1 x = true) (sy : simp1 y = true) (sv : simp1 v = true) (hv : act ρ v = .int k (wrapF k (Int.mul a b))) : BinHolds ρ (2, x, y, v) := bin_int (op := .mul) rfl ⟨by simp, by simp⟩ sv (by rw [hv]; rfl) hx hy sx sy
omit [Syms] in
theorem divF_pos {k : IntKind} {a b : Int} (h1 : 0 ≤ a) (h2 : a < posL k) (h3 : 0 < b) : divF k a b = some (.int k (a.tdiv b)) := by
  haveI := anySyms
  obtain ⟨m, rfl⟩ := Int.eq_ofNat_of_zero_le h1
  obtain ⟨n, rfl⟩ := Int.eq_ofNat_of_zero_le (Int.le_of_lt h3)
  have hm : m < posL k := by omega
  have hn : Nat.beq n 0 = false := by haveI := anySyms; exact beq_ff (by omega)
  show (match Nat.blt m (posL k) with
    | true => match Nat.beq n 0 with
      | true => none
      | false => some (Value.int k (.ofNat (Nat.div m n)))
    | false => none) = _
  haveI := anySyms
  rw [blt_tt hm, hn]
  rfl
omit [Syms] in
theorem remF_pos {k : IntKind} {a b : Int} (h1 : 0 ≤ a) (h3 : 0 < b) : remF k a b = some (.int k (a.tmod b)) := by
  haveI := anySyms
  obtain ⟨m, rfl⟩ := Int.eq_ofNat_of_zero_le h1
  obtain ⟨n, rfl⟩ := Int.eq_ofNat_of_zero_le (Int.le_of_lt h3)
  have hn : Nat.beq n 0 = false := by haveI := anySyms; exact beq_ff (by omega)
  show (match Nat.beq n 0 with
      | true => none
      | false => some (Value.int k (.ofNat (Nat.mod m n)))) = _
  rw [hn]
  rfl
omit [Syms] in
theorem bh_quo {x y v : Value} {k : IntKind} {a b : Int} (hx : act ρ x = .int k a) (hy : act ρ y = .int k b) (sx : simp1 x = true) (sy : simp1 y = true) (sv : simp1 v = true) (h1 : 0 ≤ a) (h2 : a < posL k) (h3 : 0 < b) (hv : act ρ v = .int k (a / b)) : BinHolds ρ (3, x, y, v) := bin_int (op := .quo) rfl ⟨by simp, by simp⟩ sv (by rw [hv, ← Int.tdiv_eq_ediv_of_nonneg h1]; exact divF_pos h1 h2 h3) hx hy sx sy
omit [Syms] in
theorem bh_rem {x y v : Value} {k : IntKind} {a b : Int} (hx : act ρ x = .int k a) (hy : act ρ y = .int k b) (sx : simp1 x = true) (sy : simp1 y = true) (sv : simp1 v = true) (h1 : 0 ≤ a) (h3 : 0 < b) (hv : act ρ v = .int k (a % b)) : BinHolds ρ (4, x, y, v) := bin_int (op := .rem) rfl ⟨by simp, by simp⟩ sv (by rw [hv, ← Int.tmod_eq_emod_of_nonneg h1]; exact remF_pos h1 h3) hx hy sx sy
omit [Syms] in
theorem ch_conv {x v : Value} {k : IntKind} {a : Int} {k2 : IntKind} {n : Nat} (ho : n = kindN k2) (sv : simp1 v = true) (hv : act ρ v = .int k2 (wrapF k2 a)) (hx : act ρ x = .int k a) (sx : simp1 x = true) : ConvHolds ρ (n, x, v) :=
  ⟨sx, sv, k, a, hx, fun k' hk => by
    haveI := anySyms
    haveI := anySyms
    obtain rfl : k' = k2 := kindN_inj (by rw [hk, ho]; simp)
    exact hv⟩
end

/-- Symbols for integers. -/
def ofInts (l : List (IntKind × Int)) (i : Nat) : Value := match l[i]? with
  | some p => .int p.1 p.2
  | none => .int .i64 0
omit [Syms] in
theorem ofInts_plain (l : List (IntKind × Int)) : Plain1 (ofInts l) := by
  refine ⟨fun i => ?_, fun i b h => ?_⟩
  · unfold ofInts; split <;> rfl
  · unfold ofInts at h; split at h <;> cases h
omit [Syms] in
theorem lt_of {a b : Int} {r : Bool} (h : decide (a < b) = r) : ltI a b = r := by haveI := anySyms; rw [ltI_eq]; exact h
omit [Syms] in
theorem eq_of {a b : Int} {r : Bool} (h : decide (a = b) = r) : eqI a b = r := by haveI := anySyms; rw [eqI_eq, ← h]; rfl
omit [Syms] in
theorem lt_t {a b : Int} (h : ltI a b = true) : a < b := by haveI := anySyms; rw [ltI_eq] at h; simpa using h
omit [Syms] in
theorem lt_f {a b : Int} (h : ltI a b = false) : b ≤ a := by haveI := anySyms; rw [ltI_eq] at h; simpa using h
omit [Syms] in
theorem eq_t {a b : Int} (h : eqI a b = true) : a = b := by haveI := anySyms; rw [eqI_eq] at h; exact eq_of_beq h
omit [Syms] in
theorem eq_f {a b : Int} (h : eqI a b = false) : a ≠ b := by haveI := anySyms; rw [eqI_eq] at h; intro e; subst e; simp at h

/-! ### A path -/
variable {P : Program} {G : VW}
omit [Syms] in
theorem path_known (hT : Tabs P G) (hG1 : G.size = P.globals.size) (hG2 : G.floor = P.globals.size) (hp : Plain1 ρ) {bt : List BinE} {ct : List ConvE} (hb : AllB ρ bt) (hc : AllC ρ ct) {Q : Orc}
    (hQ : @OrcOk (tabSyms ρ hp bt ct hb.mem hc.mem) _ P G Q) {f : FuncId} {args : List Value} {v : Value} (ha : args.all simpA = true) (hs : simpV v = true) (hf : (fnOf P f).isSome = true)
    (hr : isVal v (@run (tabPrims bt ct) P Q 1000000 (.call f args G)) = true) : Known P G f (args.map (act1 ρ)) (actV ρ v) := by
  letI := tabSyms ρ hp bt ct hb.mem hc.mem
  cases hc' : run P Q 1000000 (.call f args G) with
  | fall z s => have := hr; rw [show @run (tabPrims bt ct) P Q 1000000 (.call f args G) = .fall z s from hc'] at this; cases this
  | bad m n => have := hr; rw [show @run (tabPrims bt ct) P Q 1000000 (.call f args G) = .bad m n from hc'] at this; cases this
  | val u V' =>
    have h2 := hr
    rw [show @run (tabPrims bt ct) P Q 1000000 (.call f args G) = .val u V' from hc'] at h2
    have hu := eqw_eq (show eqw v u = true from h2)
    subst hu
    have hG : G = ⟨G.heap, P.globals.size, P.globals.size⟩ := by
      obtain ⟨a, b, c⟩ := G
      simp only at hG1 hG2
      subst hG1 hG2
      rfl
    rw [hG] at hc'
    cases hfn : fnOf P f with
    | none => rw [hfn] at hf; cases hf
    | some x =>
      obtain ⟨g1, g2, _⟩ := fnOf_spec hfn
      intro w hL cs
      have hW := start_ok hT hL
      obtain ⟨β', v', w', fr, h1, h2, h3, h4, h5, h6⟩ := ((run_good hT hQ 1000000).call f args _) v V' hc' _ _ w (args.map (act1 ρ)) ⟨fun _ _ => rfl, hL.2⟩ hW (act1s_vr hp ha) ⟨_, _, g1, g2⟩ cs
      have := actV_of hp h3 hs
      subst this
      exact ⟨w', fr, h4, h5, h6, h2.base⟩
omit [Syms] in
theorem path_plain (hT : Tabs P G) (hG1 : G.size = P.globals.size) (hG2 : G.floor = P.globals.size) (hp : Plain1 ρ) {bt : List BinE} {ct : List ConvE} (hb : AllB ρ bt) (hc : AllC ρ ct) {Q : Orc}
    (hQ : ∀ [Syms], OrcOk P G Q) {f : FuncId} {args : List Value} {v : Value} (ha : args.all simpA = true) (hs : simpV v = true) (hf : (fnOf P f).isSome = true)
    (hr : isVal v (@run (tabPrims bt ct) P Q 1000000 (.call f args G)) = true) : Known P G f (args.map (act1 ρ)) (actV ρ v) :=
  path_known hT hG1 hG2 hp hb hc (@hQ (tabSyms ρ hp bt ct hb.mem hc.mem)) ha hs hf hr

/-! ### Calls on symbols -/
omit [Syms] in
theorem actV_vr {ρ : Nat → Value} (hp : Plain1 ρ) {β : Nat → Ren} {x : Value} (hs : simpV x = true) : @VR (valsOf ρ hp) β x (actV ρ x) := by
  letI := valsOf ρ hp
  cases x with
  | tuple a => obtain ⟨l⟩ := a; exact VR.tuple (act1s_vr hp hs)
  | agg a => exact act1_vr hp hs
  | _ => exact act_vr hp hs
noncomputable def ansT (l : List Ent) (f : FuncId) (args : List Value) : Option Value :=
  List.rec (motive := fun _ => Option Value) none (fun e _ ih => Bool.rec (motive := fun _ => Option Value) ih (some e.2.2) (Nat.beq e.1 f && eqA e.2.1 args)) l
omit [Syms] in
theorem ansT_mem {f : FuncId} {args : List Value} {v : Value} : ∀ {l : List Ent}, ansT l f args = some v → (f, args, v) ∈ l
  | [], h => by cases h
  | e :: l, h => by
    haveI := anySyms
    change Bool.rec (motive := fun _ => Option Value) (ansT l f args) (some e.2.2) (Nat.beq e.1 f && eqA e.2.1 args) = _ at h
    cases hb : (Nat.beq e.1 f && eqA e.2.1 args) with
    | false => rw [hb] at h; exact List.mem_cons_of_mem _ (ansT_mem h)
    | true =>
      rw [hb] at h
      simp only [Bool.and_eq_true] at hb
      have h1 := Nat.eq_of_beq_eq_true hb.1
      have h2 := eqA_eq hb.2
      have h3 : e.2.2 = v := Option.some.inj h
      obtain ⟨a, b, c⟩ := e
      simp only at h1 h2 h3
      subst h1 h2 h3
      exact List.mem_cons_self
/-- An entry on a call says what the call answers. -/
def EntHolds (P : Program) (G : VW) (ρ : Nat → Value) (e : Ent) : Prop := e.2.1.all simpA = true ∧ simpV e.2.2 = true ∧ Known P G e.1 (e.2.1.map (act1 ρ)) (actV ρ e.2.2)
def AllE (P : Program) (G : VW) (ρ : Nat → Value) : List Ent → Prop
  | [] => True
  | e :: l => EntHolds P G ρ e ∧ AllE P G ρ l
omit [Syms] in
theorem AllE.mem : ∀ {l : List Ent}, AllE P G ρ l → ∀ e ∈ l, EntHolds P G ρ e
  | e :: l, h, x, hx => by
    rcases List.mem_cons.1 hx with rfl | hx
    · exact h.1
    · exact AllE.mem h.2 x hx
omit [Syms] in
theorem path_calls (hT : Tabs P G) (hG1 : G.size = P.globals.size) (hG2 : G.floor = P.globals.size) (hp : Plain1 ρ) {bt : List BinE} {ct : List ConvE} (hb : AllB ρ bt) (hc : AllC ρ ct) {el : List Ent} (he : AllE P G ρ el)
    {f : FuncId} {args : List Value} {v : Value} (ha : args.all simpA = true) (hs : simpV v = true) (hf : (fnOf P f).isSome = true)
    (hr : isVal v (@run (tabPrims bt ct) P (valOrc (fun _ => false) G (ansT el)) 1000000 (.call f args G)) = true) : Known P G f (args.map (act1 ρ)) (actV ρ v) := by
  refine path_known hT hG1 hG2 hp hb hc ?_ ha hs hf hr
  letI := tabSyms ρ hp bt ct hb.mem hc.mem
  refine valOrc_ok ?_ fun f' args' v' h V => ?_
  · obtain ⟨a, b, c⟩ := G
    simp only at hG1 hG2
    subst hG1 hG2
    rfl
  · obtain ⟨h1, h2, h3⟩ := he.mem _ (ansT_mem h)
    intro v1 V1 hv B β w A hB hW hA _ cs
    cases hv
    have := act1s_of hp hA h1
    subst this
    obtain ⟨w', fr, g1, g2, g3, g4⟩ := h3 w (lies_of hT hB hW) cs
    exact ⟨β, _, w', fr, .refl _, hW.later g4, actV_vr hp h2, g1, g2, g3⟩
end Go.Vx
