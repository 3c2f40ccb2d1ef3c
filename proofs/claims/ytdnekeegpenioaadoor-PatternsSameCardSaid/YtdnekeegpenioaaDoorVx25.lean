/-
  Says: Answers that bring a new row; answers that a function reckons.
-/
import Derived.Test.YtdnekeegpenioaaDoorVx24
set_option linter.unusedVariables false
set_option linter.unusedSimpArgs false
set_option linter.unusedSectionVars false
/-! Answers that bring a new row; answers that a function reckons. -/
namespace Go.Vx
variable [Syms]
variable [Keeps]
open Go.RowKit

/-! ### More facts about operations on symbols -/
section
omit [Syms] in
theorem wrapF_id {k : IntKind} {n : Int} (h1 : -(negL k : Int) ≤ n) (h2 : n < (posL k : Int)) : wrapF k n = n := by
  haveI := anySyms
  cases n with
  | ofNat m => exact wrapF_small (by rw [Int.ofNat_eq_natCast] at h2; omega)
  | negSucc m =>
    rw [wrapF_neg, show Nat.blt m (negL k) = true from blt_tt (by omega)]
omit [Syms] in
theorem lt_tt {a b : Int} (h : a < b) : ltI a b = true := lt_of (by simpa using h)
omit [Syms] in
theorem lt_ff {a b : Int} (h : b ≤ a) : ltI a b = false := lt_of (by simp; omega)
omit [Syms] in
theorem eq_tt {a b : Int} (h : a = b) : eqI a b = true := eq_of (by simpa using h)
omit [Syms] in
theorem eq_ff {a b : Int} (h : a ≠ b) : eqI a b = false := eq_of (by simpa using h)
omit [Syms] in
theorem divF_neg {k : IntKind} {a b : Int} (h1 : a < 0) (h2 : -a ≤ negL k) (h3 : 0 < b) : divF k a b = some (.int k (-((-a) / b))) := by
  haveI := anySyms
  obtain ⟨n, rfl⟩ := Int.eq_ofNat_of_zero_le (Int.le_of_lt h3)
  cases a with
  | ofNat m => exact absurd h1 (by rw [Int.ofNat_eq_natCast]; omega)
  | negSucc m =>
    have hm : m < negL k := by omega
    have hn : Nat.beq n 0 = false := beq_ff (by omega)
    show (match Nat.blt m (negL k) with
      | true => match Nat.beq n 0 with
        | true => none
        | false => some (Value.int k (Int.negOfNat (Nat.div (Nat.succ m) n)))
      | false => none) = _
    rw [blt_tt hm, hn]
    rfl
omit [Syms] in
theorem remF_neg {k : IntKind} {a b : Int} (h1 : a < 0) (h3 : 0 < b) : remF k a b = some (.int k (-((-a) % b))) := by
  haveI := anySyms
  obtain ⟨n, rfl⟩ := Int.eq_ofNat_of_zero_le (Int.le_of_lt h3)
  cases a with
  | ofNat m => exact absurd h1 (by rw [Int.ofNat_eq_natCast]; omega)
  | negSucc m =>
    have hn : Nat.beq n 0 = false := beq_ff (by omega)
    show (match Nat.beq n 0 with
        | true => none
        | false => some (Value.int k (Int.negOfNat (Nat.mod (Nat.succ m) n)))) = _
    rw [hn]
    rfl
/-- The bounds of a kind, as integers. -/
def negC : IntKind → Int
  | .i8 => 128 | .i16 => 32768 | .i32 => 2147483648 | .i64 => 9223372036854775808 | _ => 0
def posC : IntKind → Int
  | .i8 => 128 | .i16 => 32768 | .i32 => 2147483648 | .i64 => 9223372036854775808 | .u8 => 256 | .u16 => 65536 | .u32 => 4294967296 | .u64 => 18446744073709551616
omit [Syms] in
theorem negC_eq (k : IntKind) : negC k = (negL k : Int) := by cases k <;> rfl
omit [Syms] in
theorem posC_eq (k : IntKind) : posC k = (posL k : Int) := by cases k <;> rfl
variable {ρ : Nat → Value}
omit [Syms] in
theorem bh_nquo {x y v : Value} {k : IntKind} {a b : Int} (hx : act ρ x = .int k a) (hy : act ρ y = .int k b) (sx : simp1 x = true) (sy : simp1 y = true) (sv : simp1 v = true) (h1 : a < 0) (h2 : -a ≤ negL k) (h3 : 0 < b) (hv : act ρ v = .int k (-((-a) / b))) : BinHolds ρ (3, x, y, v) := bin_int (op := .quo) rfl ⟨by simp, by simp⟩ sv (by rw [hv]; exact divF_neg h1 h2 h3) hx hy sx sy
omit [Syms] in
theorem bh_nrem {x y v : Value} {k : IntKind} {a b : Int} (hx : act ρ x = .int k a) (hy : act ρ y = .int k b) (sx : simp1 x = true) (sy : simp1 y = true) (sv : simp1 v = true) (h1 : a < 0) (h3 : 0 < b) (hv : act ρ v = .int k (-((-a) % b))) : BinHolds ρ (4, x, y, v) := bin_int (op := .rem) rfl ⟨by simp, by simp⟩ sv (by rw [hv]; exact remF_neg h1 h3) hx hy sx sy
/-! The same, where what comes out is told in short. -/
omit [Syms] in
theorem bw_add {x y v : Value} {k : IntKind} {a b c : Int} (hx : act ρ x = .int k a) (hy : act ρ y = .int k b) (sx : simp1 x = true) (sy : simp1 y = true) (sv : simp1 v = true) (hv : act ρ v = .int k c) (hc : c = a + b) (h1 : -(negC k) ≤ c) (h2 : c < posC k) : BinHolds ρ (0, x, y, v) :=
  bh_add hx hy sx sy sv (by rw [hv, show Int.add a b = c from hc.symm, wrapF_id (by rw [← negC_eq]; exact h1) (by rw [← posC_eq]; exact h2)])
omit [Syms] in
theorem bw_sub {x y v : Value} {k : IntKind} {a b c : Int} (hx : act ρ x = .int k a) (hy : act ρ y = .int k b) (sx : simp1 x = true) (sy : simp1 y = true) (sv : simp1 v = true) (hv : act ρ v = .int k c) (hc : c = a - b) (h1 : -(negC k) ≤ c) (h2 : c < posC k) : BinHolds ρ (1, x, y, v) :=
  bh_sub hx hy sx sy sv (by rw [hv, show Int.sub a b = c from hc.symm, wrapF_id (by rw [← negC_eq]; exact h1) (by rw [← posC_eq]; exact h2)])
omit [Syms] in
theorem bw_mul {x y v : Value} {k : IntKind} {a b c : Int} (hx : act ρ x = .int k a) (hy : act ρ y = .int k b) (sx : simp1 x = true) (sy : simp1 y = true) (sv : simp1 v = true) (hv : act ρ v = .int k c) (hc : c = a * b) (h1 : -(negC k) ≤ c) (h2 : c < posC k) : BinHolds ρ (2, x, y, v) :=
  bh_mul hx hy sx sy sv (by rw [hv, show Int.mul a b = c from hc.symm, wrapF_id (by rw [← negC_eq]; exact h1) (by rw [← posC_eq]; exact h2)])
omit [Syms] in
theorem bw_quo {x y v : Value} {k : IntKind} {a b c : Int} (hx : act ρ x = .int k a) (hy : act ρ y = .int k b) (sx : simp1 x = true) (sy : simp1 y = true) (sv : simp1 v = true) (h1 : 0 ≤ a) (h2 : a < posC k) (h3 : 0 < b) (hv : act ρ v = .int k c) (hc : c = a / b) : BinHolds ρ (3, x, y, v) :=
  bh_quo hx hy sx sy sv h1 (by rw [← posC_eq]; exact h2) h3 (by rw [hv, hc])
omit [Syms] in
theorem bw_rem {x y v : Value} {k : IntKind} {a b c : Int} (hx : act ρ x = .int k a) (hy : act ρ y = .int k b) (sx : simp1 x = true) (sy : simp1 y = true) (sv : simp1 v = true) (h1 : 0 ≤ a) (h3 : 0 < b) (hv : act ρ v = .int k c) (hc : c = a % b) : BinHolds ρ (4, x, y, v) :=
  bh_rem hx hy sx sy sv h1 h3 (by rw [hv, hc])
omit [Syms] in
theorem bw_nquo {x y v : Value} {k : IntKind} {a b c : Int} (hx : act ρ x = .int k a) (hy : act ρ y = .int k b) (sx : simp1 x = true) (sy : simp1 y = true) (sv : simp1 v = true) (h1 : a < 0) (h2 : -a ≤ negC k) (h3 : 0 < b) (hv : act ρ v = .int k c) (hc : c = -((-a) / b)) : BinHolds ρ (3, x, y, v) :=
  bh_nquo hx hy sx sy sv h1 (by rw [← negC_eq]; exact h2) h3 (by rw [hv, hc])
omit [Syms] in
theorem bw_nrem {x y v : Value} {k : IntKind} {a b c : Int} (hx : act ρ x = .int k a) (hy : act ρ y = .int k b) (sx : simp1 x = true) (sy : simp1 y = true) (sv : simp1 v = true) (h1 : a < 0) (h3 : 0 < b) (hv : act ρ v = .int k c) (hc : c = -((-a) % b)) : BinHolds ρ (4, x, y, v) :=
  bh_nrem hx hy sx sy sv h1 h3 (by rw [hv, hc])
omit [Syms] in
theorem cw_conv {x v : Value} {k : IntKind} {a c : Int} {k2 : IntKind} {n : Nat} (ho : n = kindN k2) (sv : simp1 v = true) (hv : act ρ v = .int k2 c) (hx : act ρ x = .int k a) (sx : simp1 x = true) (hc : c = a) (h1 : -(negC k2) ≤ c) (h2 : c < posC k2) : ConvHolds ρ (n, x, v) :=
  ch_conv ho sv (by rw [hv, ← hc, wrapF_id (by rw [← negC_eq]; exact h1) (by rw [← posC_eq]; exact h2)]) hx sx
omit [Syms] in
theorem b6_add {x y v : Value} {a b c : Int} (hx : act ρ x = .int .i64 a) (hy : act ρ y = .int .i64 b) (sx : simp1 x = true) (sy : simp1 y = true) (sv : simp1 v = true) (hv : act ρ v = .int .i64 c) (hc : c = a + b) (h1 : -9223372036854775808 ≤ c) (h2 : c < 9223372036854775808) : BinHolds ρ (0, x, y, v) := bw_add hx hy sx sy sv hv hc (show -(9223372036854775808 : Int) ≤ c by omega) h2
omit [Syms] in
theorem b6_sub {x y v : Value} {a b c : Int} (hx : act ρ x = .int .i64 a) (hy : act ρ y = .int .i64 b) (sx : simp1 x = true) (sy : simp1 y = true) (sv : simp1 v = true) (hv : act ρ v = .int .i64 c) (hc : c = a - b) (h1 : -9223372036854775808 ≤ c) (h2 : c < 9223372036854775808) : BinHolds ρ (1, x, y, v) := bw_sub hx hy sx sy sv hv hc (show -(9223372036854775808 : Int) ≤ c by omega) h2
omit [Syms] in
theorem b6_mul {x y v : Value} {a b c : Int} (hx : act ρ x = .int .i64 a) (hy : act ρ y = .int .i64 b) (sx : simp1 x = true) (sy : simp1 y = true) (sv : simp1 v = true) (hv : act ρ v = .int .i64 c) (hc : c = a * b) (h1 : -9223372036854775808 ≤ c) (h2 : c < 9223372036854775808) : BinHolds ρ (2, x, y, v) := bw_mul hx hy sx sy sv hv hc (show -(9223372036854775808 : Int) ≤ c by omega) h2
omit [Syms] in
theorem b6_quo {x y v : Value} {a b c : Int} (hx : act ρ x = .int .i64 a) (hy : act ρ y = .int .i64 b) (sx : simp1 x = true) (sy : simp1 y = true) (sv : simp1 v = true) (h1 : 0 ≤ a) (h2 : a < 9223372036854775808) (h3 : 0 < b) (hv : act ρ v = .int .i64 c) (hc : c = a / b) : BinHolds ρ (3, x, y, v) := bw_quo hx hy sx sy sv h1 h2 h3 hv hc
omit [Syms] in
theorem b6_nquo {x y v : Value} {a b c : Int} (hx : act ρ x = .int .i64 a) (hy : act ρ y = .int .i64 b) (sx : simp1 x = true) (sy : simp1 y = true) (sv : simp1 v = true) (h1 : a < 0) (h2 : -a ≤ 9223372036854775808) (h3 : 0 < b) (hv : act ρ v = .int .i64 c) (hc : c = -((-a) / b)) : BinHolds ρ (3, x, y, v) := bw_nquo hx hy sx sy sv h1 h2 h3 hv hc
omit [Syms] in
theorem b6_conv {x v : Value} {k : IntKind} {a c : Int} {n : Nat} (ho : n = kindN .i64) (sv : simp1 v = true) (hv : act ρ v = .int .i64 c) (hx : act ρ x = .int k a) (sx : simp1 x = true) (hc : c = a) (h1 : -9223372036854775808 ≤ c) (h2 : c < 9223372036854775808) : ConvHolds ρ (n, x, v) := cw_conv ho sv hv hx sx hc (show -(9223372036854775808 : Int) ≤ c by omega) h2
omit [Syms] in
theorem b8_add {x y v : Value} {a b c : Int} (hx : act ρ x = .int .u8 a) (hy : act ρ y = .int .u8 b) (sx : simp1 x = true) (sy : simp1 y = true) (sv : simp1 v = true) (hv : act ρ v = .int .u8 c) (hc : c = a + b) (h1 : 0 ≤ c) (h2 : c < 256) : BinHolds ρ (0, x, y, v) := bw_add hx hy sx sy sv hv hc (show -(0 : Int) ≤ c by omega) h2
omit [Syms] in
theorem b8_sub {x y v : Value} {a b c : Int} (hx : act ρ x = .int .u8 a) (hy : act ρ y = .int .u8 b) (sx : simp1 x = true) (sy : simp1 y = true) (sv : simp1 v = true) (hv : act ρ v = .int .u8 c) (hc : c = a - b) (h1 : 0 ≤ c) (h2 : c < 256) : BinHolds ρ (1, x, y, v) := bw_sub hx hy sx sy sv hv hc (show -(0 : Int) ≤ c by omega) h2
omit [Syms] in
theorem b8_mul {x y v : Value} {a b c : Int} (hx : act ρ x = .int .u8 a) (hy : act ρ y = .int .u8 b) (sx : simp1 x = true) (sy : simp1 y = true) (sv : simp1 v = true) (hv : act ρ v = .int .u8 c) (hc : c = a * b) (h1 : 0 ≤ c) (h2 : c < 256) : BinHolds ρ (2, x, y, v) := bw_mul hx hy sx sy sv hv hc (show -(0 : Int) ≤ c by omega) h2
omit [Syms] in
theorem b8_quo {x y v : Value} {a b c : Int} (hx : act ρ x = .int .u8 a) (hy : act ρ y = .int .u8 b) (sx : simp1 x = true) (sy : simp1 y = true) (sv : simp1 v = true) (h1 : 0 ≤ a) (h2 : a < 256) (h3 : 0 < b) (hv : act ρ v = .int .u8 c) (hc : c = a / b) : BinHolds ρ (3, x, y, v) := bw_quo hx hy sx sy sv h1 h2 h3 hv hc
omit [Syms] in
theorem b8_nquo {x y v : Value} {a b c : Int} (hx : act ρ x = .int .u8 a) (hy : act ρ y = .int .u8 b) (sx : simp1 x = true) (sy : simp1 y = true) (sv : simp1 v = true) (h1 : a < 0) (h2 : -a ≤ 0) (h3 : 0 < b) (hv : act ρ v = .int .u8 c) (hc : c = -((-a) / b)) : BinHolds ρ (3, x, y, v) := bw_nquo hx hy sx sy sv h1 h2 h3 hv hc
omit [Syms] in
theorem b8_conv {x v : Value} {k : IntKind} {a c : Int} {n : Nat} (ho : n = kindN .u8) (sv : simp1 v = true) (hv : act ρ v = .int .u8 c) (hx : act ρ x = .int k a) (sx : simp1 x = true) (hc : c = a) (h1 : 0 ≤ c) (h2 : c < 256) : ConvHolds ρ (n, x, v) := cw_conv ho sv hv hx sx hc (show -(0 : Int) ≤ c by omega) h2
end

section
variable {P : Program} {G : VW}
/-! ### Answers that a function reckons -/
noncomputable def fnAns (g : Nat) (F : List Value → Option Value) (f : FuncId) (args : List Value) : Option Value :=
  Bool.rec (motive := fun _ => Option Value) none (F args) (Nat.beq g f)
theorem fnAns_ok (hT : Tabs P G) {g : Nat} {F : List Value → Option Value} (h : ∀ args v, F args = some v → Known P G g args v ∧ args.all flat = true ∧ flat v = true) : AnsOk P G (fnAns g F) := by
  intro f args v hf V
  change Bool.rec (motive := fun _ => Option Value) none (F args) (Nat.beq g f) = some v at hf
  cases hg : Nat.beq g f with
  | false => rw [hg] at hf; cases hf
  | true =>
    rw [hg] at hf
    obtain rfl := Nat.eq_of_beq_eq_true hg
    obtain ⟨h1, h2, h3⟩ := h args v hf
    exact h1.call hT h2 h3 V

/-! ### Answers that bring a new row -/
/-- A call and what it answers: a row of its own, a slice of all of it or of its first n elements, alone or first of several. -/
structure RowE where
  f : Nat
  args : List Value
  cells : List Value
  ty : TypeId
  one : Bool
  n : Nat
  c : Nat
  more : List Value
def RowE.val (e : RowE) (b : Nat) : Value := match e.one with
  | true => .slice (some ⟨b, 0, none⟩) e.n e.c
  | false => .tuple ⟨.slice (some ⟨b, 0, none⟩) e.n e.c :: e.more⟩
def RowE.ans (e : RowE) : HAns := ⟨e.cells, e.ty, e.val⟩
noncomputable def rowsL (l : List RowE) (f : FuncId) (args : List Value) : Option HAns :=
  List.rec (motive := fun _ => Option HAns) none (fun e _ ih => Bool.rec (motive := fun _ => Option HAns) ih (some e.ans) (Nat.beq e.f f && eqA e.args args)) l
omit [Syms] in
theorem rowsL_mem {f : FuncId} {args : List Value} {h : HAns} : ∀ {l : List RowE}, rowsL l f args = some h → ∃ e ∈ l, e.f = f ∧ e.args = args ∧ e.ans = h
  | [], h => by cases h
  | e :: l, hh => by
    haveI := anySyms
    change Bool.rec (motive := fun _ => Option HAns) (rowsL l f args) (some e.ans) (Nat.beq e.f f && eqA e.args args) = _ at hh
    cases hb : (Nat.beq e.f f && eqA e.args args) with
    | false =>
      rw [hb] at hh
      obtain ⟨x, h1, h2⟩ := rowsL_mem (show rowsL l f args = some h from hh)
      exact ⟨x, List.mem_cons_of_mem _ h1, h2⟩
    | true =>
      rw [hb] at hh
      simp only [Bool.and_eq_true] at hb
      exact ⟨e, List.mem_cons_self, Nat.eq_of_beq_eq_true hb.1, eqA_eq hb.2, Option.some.inj hh⟩
/-- The call comes back with such a row, which is new, and turns nothing that is there. -/
def KnownH (P : Program) (G : VW) (e : RowE) : Prop :=
  ∀ w, Lies P G w → ∀ cs, ∃ w' fr v' b cp sh o', Steps P (lone (Frame.enter P e.f ⟨e.args⟩ .normal) cs w) (lone fr cs w') ∧ fr.fn = e.f ∧ fr.leaving P w' (.returned v') ∧ Below w.heap.size w w' ∧
    w.heap.size ≤ b ∧ w'.heap[b]? = some o' ∧ (∀ S : Syms, @ObjR S P (fun _ => .fresh) cp sh (.cells e.cells e.ty false) o') ∧ ∀ (S : Syms) (β : Nat → Ren) i, β i = .live b cp sh → @VR S.toVals β (e.val i) v'
theorem KnownH.call (hT : Tabs P G) {e : RowE} (h : KnownH P G e) (ha : e.args.all flat = true) (V : VW) (hV : V.size < top) : CallOk P G (.val (e.ans.val V.size) (V.push (.cells e.ans.cells e.ans.ty false))) e.f e.args V := by
  intro v1 V1 he B β w args' hB hW hA _ cs
  cases he
  rw [flat_args hA ha]
  obtain ⟨w', fr, v', b, cp, sh, o', h1, h2, h3, h4, h5, h6, h7, h8⟩ := h w (lies_of hT hB hW) cs
  have hW' := hW.later h4
  have hx : Ext (fun _ => Ren.fresh) β := ⟨fun j b cp sh e => by (cases e), fun j e => by (cases e)⟩
  obtain ⟨g1, g2⟩ := hW'.attach hV h6 ⟨Nat.le_trans hW.base.size h5, fun hp => absurd (hW.kept b hp).1 (by omega)⟩ (fun i cp' sh' hi => by
    obtain ⟨o, o2, _, k2, _⟩ := hW.obj i b cp' sh' hi
    have := block_lt k2
    omega) cp sh ((h7 _).mono hx)
  rw [putObj_self h6] at g1
  exact ⟨_, v', w', fr, g2, g1, h8 _ _ _ (upd_same _ _ _), h1, h2, h3⟩
theorem rows_ok (hT : Tabs P G) {l : List RowE} (h : ∀ e ∈ l, KnownH P G e ∧ e.args.all flat = true) : ∀ (f : FuncId) (args : List Value) (a : HAns), rowsL l f args = some a → ∀ V : VW, V.size < top → CallOk P G (.val (a.val V.size) (V.push (.cells a.cells a.ty false))) f args V := by
  intro f args a ha V hV
  obtain ⟨e, h1, rfl, rfl, rfl⟩ := rowsL_mem ha
  exact (h e h1).1.call hT (h e h1).2 V hV
/-- Which row a value brings. -/
def rowIn (e : RowE) (v : Value) : Option Nat := match e.one, v with
  | true, .slice (some ⟨b, 0, none⟩) n c => if Nat.beq n e.n && Nat.beq c e.c then some b else none
  | false, .tuple ⟨.slice (some ⟨b, 0, none⟩) n c :: l⟩ => if Nat.beq n e.n && (Nat.beq c e.c && eqA e.more l) then some b else none
  | _, _ => none
omit [Syms] in
theorem rowIn_spec {e : RowE} {v : Value} {b : Nat} (h : rowIn e v = some b) : v = e.val b := by
  haveI := anySyms
  unfold rowIn at h
  unfold RowE.val
  split at h
  · rename_i b' n c h1
    split at h
    · rename_i hc
      simp only [Bool.and_eq_true] at hc
      cases h
      rw [h1, ← Nat.eq_of_beq_eq_true hc.1, ← Nat.eq_of_beq_eq_true hc.2]
    · cases h
  · rename_i b' n c l h1
    split at h
    · rename_i hc
      simp only [Bool.and_eq_true] at hc
      cases h
      rw [h1, ← Nat.eq_of_beq_eq_true hc.1, ← Nat.eq_of_beq_eq_true hc.2.1, eqA_eq hc.2.2]
    · cases h
  · cases h
noncomputable def sameRow (e : RowE) (V : VW) (b : Nat) : Bool := match V.heap.get b with
  | some (.cells c t false) => Nat.ble V.floor b && (Nat.beq t e.ty && eqA e.cells c)
  | some (.grow rc _ t) => Nat.ble V.floor b && (Nat.beq t e.ty && eqA e.cells (revOn rc []))
  | _ => false
theorem sameRow_spec {P : Program} {e : RowE} {V : VW} {b : Nat} (h : sameRow e V b = true) : ∃ ob, V.heap.get b = some ob ∧ ob ≠ .dfr true ∧ V.floor ≤ b ∧ ∀ {β : Nat → Ren} {cp sh : Nat} {o' : Obj}, ObjR P β cp sh ob o' → ObjR P β cp sh (.cells e.cells e.ty false) o' := by
  unfold sameRow at h
  split at h
  · rename_i c t hg
    simp only [Bool.and_eq_true] at h
    obtain ⟨k1, k2, k3⟩ := h
    have k2 := Nat.eq_of_beq_eq_true k2
    have k3 := eqA_eq k3
    subst k2 k3
    exact ⟨_, hg, nofun, Nat.le_of_ble_eq_true k1, fun h => h⟩
  · rename_i rc n t hg
    simp only [Bool.and_eq_true] at h
    obtain ⟨k1, k2, k3⟩ := h
    have k2 := Nat.eq_of_beq_eq_true k2
    have k3 := eqA_eq k3
    rw [revOn_eq, List.append_nil] at k3
    refine ⟨_, hg, nofun, Nat.le_of_ble_eq_true k1, fun h => ?_⟩
    rw [k3, ← k2]
    exact h.grow'.2
  · cases h
noncomputable def isRow (e : RowE) : R → Bool
  | .val u V => match rowIn e u with
    | some b => sameRow e V b
    | none => false
  | _ => false
omit [Syms] in
noncomputable def rowOk [Prims] (P : Program) (Q : Orc) (V : VW) (e : RowE) : Bool :=
  (e.args.all flat && (allL atom e.cells && allL flat1 e.more)) && ((fnOf P e.f).isSome && isRow e (run P Q 1000000 (.call e.f e.args V)))
theorem VR.row {β : Nat → Ren} {e : RowE} (hm : e.more.all Vx.flat1 = true) {i : Nat} {v' : Value} (h : VR β (e.val i) v') :
    (∃ b cp sh, β i = .live b cp sh ∧ ∀ (S : Syms) (β' : Nat → Ren) j, β' j = .live b cp sh → VR β' (e.val j) v') ∨ β i = .dead := by
  have hs : ∀ {n c : Nat} {u : Value}, VR β (.slice (some ⟨i, 0, none⟩) n c) u →
      (∃ b cp sh, β i = .live b cp sh ∧ ∀ (S : Syms) (β' : Nat → Ren) j, β' j = .live b cp sh → VR β' (.slice (some ⟨j, 0, none⟩) n c) u) ∨ β i = .dead := by
    intro n c u hu
    cases hu with
    | atom h => simp [Vx.atom] at h
    | sl h hn hc => exact .inl ⟨_, _, _, h, fun S β' j hj => .sl hj hn hc⟩
    | slD h hn hc => exact .inr h
  unfold RowE.val at h ⊢
  cases ho : e.one with
  | true => rw [ho] at h; exact hs h
  | false =>
    rw [ho] at h
    cases h with
    | atom h => simp [Vx.atom] at h
    | tuple hl =>
      cases hl with
      | cons hx ht =>
        have hfl : e.more.all Vx.flat = true := by
          rw [List.all_eq_true] at hm ⊢
          intro x hx
          have := hm x hx
          cases x <;> first | exact this | (simp [Vx.flat1, Vx.atom] at this)
        have hmo := flat_args ht hfl
        rcases hs hx with ⟨b, cp, sh, h1, h2⟩ | h1
        · refine .inl ⟨b, cp, sh, h1, fun S β' j hj => ?_⟩
          rw [hmo]
          exact .tuple (.cons (h2 S β' j hj) (@VRs.flatL S _ _ _ hfl))
        · exact .inr h1
theorem rowH_of (hT : Tabs P G) (hG1 : G.size = P.globals.size) (hG2 : G.floor = P.globals.size) {Q : Orc} (hQ : OrcOk P G Q) {e : RowE} (h : rowOk P Q G e = true) : KnownH P G e ∧ e.args.all flat = true := by
  unfold rowOk at h
  simp only [Bool.and_eq_true] at h
  obtain ⟨⟨h1, h2, h2'⟩, h3, h4⟩ := h
  refine ⟨?_, h1⟩
  rw [allL_eq] at h2 h2'
  cases hfn : fnOf P e.f with
  | none => rw [hfn] at h3; cases h3
  | some x =>
    obtain ⟨g1, g2, _⟩ := fnOf_spec hfn
    have hG : G = ⟨G.heap, P.globals.size, P.globals.size⟩ := by
      obtain ⟨a, b, c⟩ := G
      simp only at hG1 hG2
      subst hG1 hG2
      rfl
    cases hr : run P Q 1000000 (.call e.f e.args G) with
    | fall y s => rw [hr] at h4; cases h4
    | bad m n => rw [hr] at h4; cases h4
    | val u V' =>
      rw [hr] at h4
      change (match rowIn e u with
        | some b => sameRow e V' b
        | none => false) = true at h4
      · split at h4
        · rename_i b hb
          obtain rfl := rowIn_spec hb
          obtain ⟨ob, hg, hne, k1, hrel⟩ := sameRow_spec (P := P) h4
          · intro w hL cs
            have hW := start_ok hT hL
            rw [hG] at hr
            obtain ⟨β', v', w', fr, m1, m2, m3, m4, m5, m6⟩ := ((run_good hT hQ 1000000).call e.f e.args _) _ V' hr _ _ w e.args ⟨fun _ _ => rfl, hL.2⟩ hW (VRs.flatL h1) ⟨_, _, g1, g2⟩ cs
            rcases VR.row h2' m3 with ⟨r, cp, sh, n1, n2⟩ | n1
            · obtain ⟨o, o', q1, q2, q3⟩ := m2.obj _ _ _ _ n1
              rw [hg] at q1
              cases q1
              refine ⟨w', fr, v', r, cp, sh, o', m4, m5, m6, m2.base, (m2.own _ _ _ _ n1 k1).1, q2, ?_, n2⟩
              have q3 := hrel q3
              generalize hcs : e.cells = cs0 at q3 h2 ⊢
              cases q3 with
              | cells hp hr' hcap hfz =>
                have := hr'.of_atoms h2
                subst this
                exact fun S => @ObjR.cells S _ _ _ _ _ _ _ _ _ _ _ hp (@VRs.atoms S.toVals _ _ h2) hcap hfz
            · have := m2.dead _ n1
              rw [hg] at this
              exact absurd (Option.some.inj this) hne
        · cases h4
/-- An oracle that knows values and rows. -/
noncomputable def rowOrc (tries : FuncId → Bool) (V : VW) (a : FuncId → List Value → Option Value) (l : List RowE) : Orc := ⟨a, rowsL l, tries, V, noDeep, noCuts⟩
def RowsOk (P : Program) (G : VW) (l : List RowE) : Prop := ∀ e ∈ l, KnownH P G e ∧ e.args.all flat = true
theorem RowsOk.nil : RowsOk P G [] := fun _ h => by cases h
theorem RowsOk.app {l m : List RowE} (h : RowsOk P G l) (k : RowsOk P G m) : RowsOk P G (l ++ m) := fun e he => (List.mem_append.1 he).elim (h e) (k e)
theorem rowOrc_ok (hT : Tabs P G) {tries : FuncId → Bool} {V : VW} {a : FuncId → List Value → Option Value} {l : List RowE} (hV : V = ⟨G.heap, P.globals.size, P.globals.size⟩) (h : AnsOk P G a) (hl : RowsOk P G l) : OrcOk P G (rowOrc tries V a l) :=
  ⟨h, rows_ok hT hl, hV, fun _ _ _ _ _ hh => (by cases hh), fun _ _ _ _ _ hh => (by cases hh)⟩
theorem rowsOk_of (hT : Tabs P G) (hG1 : G.size = P.globals.size) (hG2 : G.floor = P.globals.size) {Q : Orc} (hQ : OrcOk P G Q) {l : List RowE} (h : allL (rowOk P Q G) l = true) : RowsOk P G l := by
  rw [allL_eq] at h
  exact fun e he => rowH_of hT hG1 hG2 hQ (List.all_eq_true.1 h e he)
omit [Syms] in
/-- A path, with what else is known. -/
theorem path_more {ρ : Nat → Value} (hT : Tabs P G) (hG1 : G.size = P.globals.size) (hG2 : G.floor = P.globals.size) (hp : Plain1 ρ) {bt : List BinE} {ct : List ConvE} (hb : AllB ρ bt) (hc : AllC ρ ct) {el : List Ent} (he : AllE P G ρ el)
    {Q2 : Orc} (hQ2 : ∀ [Syms], OrcOk P G Q2) {f : FuncId} {args : List Value} {v : Value} (ha : args.all simpA = true) (hs : simpV v = true) (hf : (fnOf P f).isSome = true)
    (hr : isVal v (@run (tabPrims bt ct) P (orElse (valOrc (fun _ => false) G (ansT el)) Q2) 1000000 (.call f args G)) = true) : Known P G f (args.map (act1 ρ)) (actV ρ v) := by
  refine path_known hT hG1 hG2 hp hb hc ?_ ha hs hf hr
  letI := tabSyms ρ hp bt ct hb.mem hc.mem
  refine OrcOk.or (valOrc_ok ?_ fun f' args' v' h V => ?_) hQ2
  · obtain ⟨a, b, c⟩ := G
    simp only at hG1 hG2
    subst hG1 hG2
    rfl
  · obtain ⟨h1, h2, h3⟩ := he.mem _ (ansT_mem h)
    intro v1 V1 hv B β w A hB hW hA _ cs
    cases hv
    have := act1s_of hp hA h1
    subst this
    obtain ⟨w', fr, g1, g2, g3, g4⟩ := h3 w (lies_of hT hB hW) cs
    exact ⟨β, _, w', fr, .refl _, hW.later g4, actV_vr hp h2, g1, g2, g3⟩
end
end Go.Vx
