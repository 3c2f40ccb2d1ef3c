/-
  Says: What an operation does, the simple ones. What an operation does: the rest but calls.
-/
import Derived.Test.YtdnekeegpenioaaDoorVx1
set_option linter.unusedVariables false
set_option linter.unusedSimpArgs false
set_option linter.unusedSectionVars false
/-! What an operation does, the simple ones. -/
namespace Go.Vx
variable [Syms]
open Go.RowKit

def RunsTo (P : Program) (s : Sem Next) (w : World) (v : Value) (w' : World) : Prop :=
  s.run P w = .ok (.value v) w' ∨ (v = undef ∧ s.run P w = .ok .skip w')

def Res (P : Program) (B : Base) (β : Nat → Ren) (w : World) (s : Sem Next) (v : Value) (V' : VW) : Prop :=
  ∃ β' v' w', Ext β β' ∧ WR P B β' V' w' ∧ VR β' v v' ∧ RunsTo P s w v' w'

section
variable {P : Program} {B : Base} {β : Nat → Ren} {V : VW} {w : World}

theorem run_v {s : Sem Value} {v : Value} {w' : World} (h : s.run P w = .ok v w') : (do pure (Next.value (← s)) : Sem Next).run P w = .ok (.value v) w' := by simp [h]
theorem run_u {s : Sem Unit} {w' : World} (h : s.run P w = .ok () w') : (do s; pure Next.skip : Sem Next).run P w = .ok .skip w' := by simp [h]

theorem Res.of (h : WR P B β V w) {s : Sem Next} {v v' : Value} (hr : s.run P w = .ok (.value v') w) (hv : VR β v v') : Res P B β w s v V :=
  ⟨β, v', w, .refl _, h, hv, .inl hr⟩

theorem newGo_spec {o : VObj} {k : Nat → Value} {v : Value} {V' : VW} (h : newGo V o k = .val v V') : V.size < top ∧ v = k V.size ∧ V' = V.push o := by
  unfold newGo at h
  split at h
  · rename_i hl
    cases h
    exact ⟨Nat.le_of_ble_eq_true hl, rfl, rfl⟩
  · cases h

theorem Res.new (h : WR P B β V w) {o : VObj} {k : Nat → Value} {v : Value} {V' : VW} (hn : newGo V o k = .val v V') {s : Sem Next} {o' : Obj} (cp sh : Nat)
    (ho : ObjR P β cp sh o o') {k' : Value} (hr : s.run P w = .ok (.value k') (w.alloc o')) (hk : ∀ β' : Nat → Ren, β' V.size = .live w.heap.size cp sh → VR β' (k V.size) k') :
    Res P B β w s v V' := by
  obtain ⟨h1, rfl, rfl⟩ := newGo_spec hn
  obtain ⟨β', a, b, c⟩ := new_ok h h1 cp sh ho
  exact ⟨β', k', _, a, b, hk β' c, .inl hr⟩

theorem ofV_spec {x : Option Value} {v : Value} {V' : VW} (h : ofV V x = .val v V') : x = some v ∧ V' = V := by
  cases x with
  | none => simp [ofV] at h
  | some u => simp [ofV] at h; exact ⟨by rw [h.1], h.2.symm⟩

theorem drV_spec {s : Sem Next} {v : Value} (h : drV P s = some v) : dr P s = some (.value v) ∧ flat v = true := by
  unfold drV at h
  split at h
  · rename_i u hd
    split at h
    · rename_i hf; cases h; exact ⟨hd, hf⟩
    · cases h
  · cases h

theorem flat_ok (h : WR P B β V w) {o : Oper} (hs : ∀ cs b, o.op ≠ .select cs b) {e ρ : Operand → Value} (hρ : ∀ x ∈ o.op.operands, VR β (e x) (ρ x)) (hf : ∀ x ∈ o.op.operands, flat (e x) = true)
    {v : Value} {V' : VW} (hd : ofV V (drV P (execOp e o)) = .val v V') : Res P B β w (execOp ρ o) v V' := by
  obtain ⟨h1, rfl⟩ := ofV_spec hd
  obtain ⟨h2, h3⟩ := drV_spec h1
  rw [execOp_congr o hs fun x hx => (hρ x hx).of_flat (hf x hx)]
  exact Res.of h (dr_run h2 w) (VR.flat h3)

/-! ### Operators -/
theorem blt_tt {a b : Nat} (h : a < b) : Nat.blt a b = true := Nat.ble_eq_true_of_le h
theorem blt_lt {a b : Nat} (h : Nat.blt a b = true) : a < b := Nat.le_of_ble_eq_true h
theorem wrapF_nat (k : IntKind) (m : Nat) : wrapF k (.ofNat m) = (match Nat.blt m (posL k) with
    | true => .ofNat m
    | false => match Nat.beq (negL k) 0 with
      | true => .ofNat (Nat.mod m (posL k))
      | false => k.wrap (.ofNat m)) := rfl
theorem wrapF_neg (k : IntKind) (m : Nat) : wrapF k (.negSucc m) = (match Nat.blt m (negL k) with
    | true => .negSucc m
    | false => k.wrap (.negSucc m)) := rfl
theorem wrapF_small {k : IntKind} {m : Nat} (h : m < posL k) : wrapF k (.ofNat m) = .ofNat m := by rw [wrapF_nat, blt_tt h]
theorem wrap_def (k : IntKind) (n : Int) : k.wrap n = if k.signed = true ∧ (2 : Int) ^ (k.bits - 1) ≤ n % (2 : Int) ^ k.bits then n % (2 : Int) ^ k.bits - (2 : Int) ^ k.bits else n % (2 : Int) ^ k.bits := by
  unfold IntKind.wrap
  simp only [Bool.and_eq_true, decide_eq_true_eq, ge_iff_le]
theorem wrap_s {k : IntKind} {a : Int} {n : Int} (hs : k.signed = true) (ha : (2 : Int) ^ (k.bits - 1) = a) (hb : (2 : Int) ^ k.bits = 2 * a) : k.wrap n = if a ≤ n % (2 * a) then n % (2 * a) - 2 * a else n % (2 * a) := by
  rw [wrap_def, ha, hb, hs]; simp
theorem wrap_u {k : IntKind} {a : Int} {n : Int} (hs : k.signed = false) (hb : (2 : Int) ^ k.bits = a) : k.wrap n = n % a := by
  rw [wrap_def, hb, hs]; simp
theorem wrap_id_s {k : IntKind} {a n : Int} (hs : k.signed = true) (ha : (2 : Int) ^ (k.bits - 1) = a) (hb : (2 : Int) ^ k.bits = 2 * a) (h0 : 0 < a) (h1 : -a ≤ n) (h2 : n < a) : k.wrap n = n := by
  rw [wrap_s hs ha hb]
  rcases Int.lt_or_le n 0 with h | h
  · have : n % (2 * a) = n + 2 * a := by rw [← Int.add_emod_right]; exact Int.emod_eq_of_lt (by omega) (by omega)
    rw [this, if_pos (by omega)]; omega
  · have : n % (2 * a) = n := Int.emod_eq_of_lt h (by omega)
    rw [this, if_neg (by omega)]
theorem wrap_id_u {k : IntKind} {a n : Int} (hs : k.signed = false) (hb : (2 : Int) ^ k.bits = a) (h1 : 0 ≤ n) (h2 : n < a) : k.wrap n = n := by
  rw [wrap_u hs hb]; exact Int.emod_eq_of_lt h1 h2
theorem wrap_pos {k : IntKind} {m : Nat} (h : m < posL k) : k.wrap (.ofNat m) = .ofNat m := by
  have h' : ((m : Nat) : Int) < ((posL k : Nat) : Int) := by omega
  cases k with
  | i8 => exact wrap_id_s (a := 128) rfl rfl rfl (by omega) (by simp only [Int.ofNat_eq_natCast]; omega) h'
  | i16 => exact wrap_id_s (a := 32768) rfl rfl rfl (by omega) (by simp only [Int.ofNat_eq_natCast]; omega) h'
  | i32 => exact wrap_id_s (a := 2147483648) rfl rfl rfl (by omega) (by simp only [Int.ofNat_eq_natCast]; omega) h'
  | i64 => exact wrap_id_s (a := 9223372036854775808) rfl rfl rfl (by omega) (by simp only [Int.ofNat_eq_natCast]; omega) h'
  | u8 => exact wrap_id_u (a := 256) rfl rfl (by simp only [Int.ofNat_eq_natCast]; omega) h'
  | u16 => exact wrap_id_u (a := 65536) rfl rfl (by simp only [Int.ofNat_eq_natCast]; omega) h'
  | u32 => exact wrap_id_u (a := 4294967296) rfl rfl (by simp only [Int.ofNat_eq_natCast]; omega) h'
  | u64 => exact wrap_id_u (a := 18446744073709551616) rfl rfl (by simp only [Int.ofNat_eq_natCast]; omega) h'
theorem wrap_neg {k : IntKind} {m : Nat} (h : m < negL k) : k.wrap (.negSucc m) = .negSucc m := by
  have e : Int.negSucc m = -((m : Int) + 1) := by omega
  have h' : ((m : Nat) : Int) < ((negL k : Nat) : Int) := by omega
  rw [e]
  cases k with
  | i8 => have : (m : Int) < 128 := h'; exact wrap_id_s (a := 128) rfl rfl rfl (by omega) (by omega) (by omega)
  | i16 => have : (m : Int) < 32768 := h'; exact wrap_id_s (a := 32768) rfl rfl rfl (by omega) (by omega) (by omega)
  | i32 => have : (m : Int) < 2147483648 := h'; exact wrap_id_s (a := 2147483648) rfl rfl rfl (by omega) (by omega) (by omega)
  | i64 => have : (m : Int) < 9223372036854775808 := h'; exact wrap_id_s (a := 9223372036854775808) rfl rfl rfl (by omega) (by omega) (by omega)
  | u8 => exact absurd h (Nat.not_lt_zero _)
  | u16 => exact absurd h (Nat.not_lt_zero _)
  | u32 => exact absurd h (Nat.not_lt_zero _)
  | u64 => exact absurd h (Nat.not_lt_zero _)
theorem wrap_mod {k : IntKind} {m : Nat} (h : Nat.beq (negL k) 0 = true) : k.wrap (.ofNat m) = .ofNat (Nat.mod m (posL k)) := by
  cases k with
  | i8 => cases h
  | i16 => cases h
  | i32 => cases h
  | i64 => cases h
  | u8 => exact wrap_u (a := 256) rfl rfl
  | u16 => exact wrap_u (a := 65536) rfl rfl
  | u32 => exact wrap_u (a := 4294967296) rfl rfl
  | u64 => exact wrap_u (a := 18446744073709551616) rfl rfl
theorem wrapF_eq (k : IntKind) (n : Int) : wrapF k n = k.wrap n := by
  cases n with
  | ofNat m =>
    rw [wrapF_nat]
    cases h : Nat.blt m (posL k) with
    | true => exact (wrap_pos (blt_lt h)).symm
    | false =>
      show (match Nat.beq (negL k) 0 with
        | true => Int.ofNat (Nat.mod m (posL k))
        | false => k.wrap (.ofNat m)) = _
      cases h2 : Nat.beq (negL k) 0 with
      | true => exact (wrap_mod h2).symm
      | false => rfl
  | negSucc m =>
    rw [wrapF_neg]
    cases h : Nat.blt m (negL k) with
    | true => exact (wrap_neg (blt_lt h)).symm
    | false => rfl
theorem wrap_small {k : IntKind} {m : Nat} (h : m < posL k) : k.wrap (.ofNat m) = .ofNat m := by rw [← wrapF_eq, wrapF_small h]
theorem kindN_inj {a b : IntKind} (h : Nat.beq (kindN a) (kindN b) = true) : a = b := by
  have h := Nat.eq_of_beq_eq_true h
  cases a <;> cases b <;> first | rfl | (simp [kindN] at h)
theorem eqI_eq (a b : Int) : eqI a b = (a == b) := by
  cases a with
  | ofNat m => cases b with
    | ofNat n =>
      show Nat.beq m n = _
      by_cases h : m = n
      · subst h; simp
      · rw [beq_ff h]; symm; rw [beq_eq_false_iff_ne]; intro e; injection e with e; exact h e
    | negSucc n => rfl
  | negSucc m => cases b with
    | ofNat n => rfl
    | negSucc n =>
      show Nat.beq m n = _
      by_cases h : m = n
      · subst h; simp
      · rw [beq_ff h]; symm; rw [beq_eq_false_iff_ne]; intro e; injection e with e; exact h e
theorem ltI_eq (a b : Int) : ltI a b = decide (a < b) := by
  cases a with
  | ofNat m => cases b with
    | ofNat n =>
      show Nat.blt m n = _
      by_cases h : m < n
      · rw [Nat.ble_eq_true_of_le (show m + 1 ≤ n from h) |> fun e => (show Nat.blt m n = true from e)]; simp [h]
      · have : Nat.blt m n = false := by
          cases hb : Nat.blt m n with
          | false => rfl
          | true => exact absurd (Nat.le_of_ble_eq_true hb) (by omega)
        rw [this]; simp; omega
    | negSucc n => show false = _; simp; omega
  | negSucc m => cases b with
    | ofNat n => show true = _; simp; omega
    | negSucc n =>
      show Nat.blt n m = _
      by_cases h : n < m
      · rw [Nat.ble_eq_true_of_le (show n + 1 ≤ m from h) |> fun e => (show Nat.blt n m = true from e)]; simp; omega
      · have : Nat.blt n m = false := by
          cases hb : Nat.blt n m with
          | false => rfl
          | true => exact absurd (Nat.le_of_ble_eq_true hb) (by omega)
        rw [this]; simp; omega

theorem run_eqGuard_int (op : BinOp) (t : TypeId) (x y : Operand) (k k' : IntKind) (a b : Int) : (eqGuard op t x y (.int k a) (.int k' b)).run P w = .ok () w := by
  cases op <;> simp [eqGuard]

theorem binOp_int {op : BinOp} (h1 : op ≠ .shl) (h2 : op ≠ .shr) (t : TypeId) (k : IntKind) (a b : Int) : binOp op t (.int k a) (.int k b) = (match op with
    | .add | .sub | .mul => Op.intArith op k a b
    | .quo | .rem => Op.intDiv op k a b
    | .and | .or | .xor | .andNot => Op.intBits op k a b
    | _ => Op.intCmp op a b) := by
  cases op <;> first | exact absurd rfl h1 | exact absurd rfl h2 | simp [binOp]
theorem leI (a b : Int) : decide (a ≤ b) = !decide (b < a) := by by_cases h : a ≤ b <;> simp [h] <;> omega
theorem equal_succ : ∃ d, ∀ t x y, Op.equal t x y = Op.equalIn (d + 1) t x y := ⟨9999, fun _ _ _ => rfl⟩

theorem fastC_ok {op : BinOp} {k : IntKind} {a b : Int} {r : Value} (h : fastC op k a b = some r) (h1 : op ≠ .shl) (h2 : op ≠ .shr) (t : TypeId) :
    (binOp op t (.int k a) (.int k b)).run P w = .ok r w ∧ atom r = true := by
  rw [binOp_int h1 h2]
  cases op <;> simp only [fastC] at h
  case add => cases h; exact ⟨by rw [wrapF_eq]; rfl, rfl⟩
  case sub => cases h; exact ⟨by rw [wrapF_eq]; rfl, rfl⟩
  case mul => cases h; exact ⟨by rw [wrapF_eq]; rfl, rfl⟩
  case quo =>
    unfold divF at h
    split at h
    · rename_i m n
      split at h
      · rename_i hm
        have hm := blt_lt hm
        split at h
        · cases h
        · rename_i hn
          have hn : n ≠ 0 := fun e => by subst e; simp at hn
          cases h
          refine ⟨?_, rfl⟩
          have hle : m / n ≤ m := Nat.div_le_self _ _
          have hw : k.wrap (.ofNat (m / n)) = .ofNat (m / n) := wrap_small (by omega)
          show (Op.intDiv .quo k (Int.ofNat m) (Int.ofNat n)).run P w = _
          have hz : ¬ (Int.ofNat n = 0) := by simpa using hn
          simp only [Op.intDiv, if_neg hz]
          show Result.ok (Value.int k (k.wrap (.ofNat (m / n)))) w = _
          rw [hw]; rfl
      · cases h
    · rename_i m n
      split at h
      · rename_i hm
        have hm := blt_lt hm
        split at h
        · cases h
        · rename_i hn
          have hn : n ≠ 0 := fun e => by subst e; simp at hn
          cases h
          refine ⟨?_, rfl⟩
          have hle : (m + 1) / n ≤ m + 1 := Nat.div_le_self _ _
          have hw : k.wrap (Int.negOfNat ((m + 1) / n)) = Int.negOfNat ((m + 1) / n) := by
            cases hq : (m + 1) / n with
            | zero => exact wrap_small (m := 0) (by cases k <;> decide)
            | succ q => exact wrap_neg (m := q) (by omega)
          show (Op.intDiv .quo k (Int.negSucc m) (Int.ofNat n)).run P w = _
          have hz : ¬ (Int.ofNat n = 0) := by simpa using hn
          simp only [Op.intDiv, if_neg hz]
          show Result.ok (Value.int k (k.wrap (-(Int.ofNat ((m + 1) / n))))) w = _
          rw [show -(Int.ofNat ((m + 1) / n)) = Int.negOfNat ((m + 1) / n) from rfl, hw]; rfl
      · cases h
    · cases h
  case rem =>
    unfold remF at h
    split at h
    · rename_i m n
      split at h
      · cases h
      · rename_i hn
        have hn : n ≠ 0 := fun e => by subst e; simp at hn
        cases h
        refine ⟨?_, rfl⟩
        show (Op.intDiv .rem k (Int.ofNat m) (Int.ofNat n)).run P w = _
        have hz : ¬ (Int.ofNat n = 0) := by simpa using hn
        simp only [Op.intDiv, if_neg hz]
        rfl
    · rename_i m n
      split at h
      · cases h
      · rename_i hn
        have hn : n ≠ 0 := fun e => by subst e; simp at hn
        cases h
        refine ⟨?_, rfl⟩
        show (Op.intDiv .rem k (Int.negSucc m) (Int.ofNat n)).run P w = _
        have hz : ¬ (Int.ofNat n = 0) := by simpa using hn
        simp only [Op.intDiv, if_neg hz]
        rfl
    · cases h
  case and =>
    unfold bitsF at h
    split at h
    · rename_i m n
      split at h
      · rename_i hm
        have hm := blt_lt hm
        split at h
        · rename_i hn
          have hn := blt_lt hn
          cases h
          refine ⟨?_, rfl⟩
          have hbits : posL k ≤ 2 ^ k.bits := by cases k <;> simp [posL, IntKind.bits]
          have e1 : BitVec.ofInt k.bits (Int.ofNat m) = BitVec.ofNat k.bits m := by simp
          have e2 : BitVec.ofInt k.bits (Int.ofNat n) = BitVec.ofNat k.bits n := by simp
          have hle : m &&& n ≤ m := Nat.and_le_left
          have e3 : (BitVec.ofNat k.bits m &&& BitVec.ofNat k.bits n).toNat = m &&& n := by
            rw [BitVec.toNat_and, BitVec.toNat_ofNat, BitVec.toNat_ofNat, Nat.mod_eq_of_lt (by omega), Nat.mod_eq_of_lt (by omega)]
          have hw : k.wrap (.ofNat (m &&& n)) = .ofNat (m &&& n) := wrap_small (by omega)
          show (Op.intBits .and k (Int.ofNat m) (Int.ofNat n)).run P w = _
          simp only [Op.intBits, e1, e2, Sem.run_pure]
          rw [e3]
          show Result.ok (Value.int k (k.wrap (.ofNat (m &&& n)))) w = _
          rw [hw]; rfl
        · cases h
      · cases h
    · cases h
  case shl => exact absurd rfl h1
  case shr => exact absurd rfl h2
  case eql => cases h; exact ⟨by rw [eqI_eq]; rfl, rfl⟩
  case neq => cases h; exact ⟨by rw [eqI_eq]; rfl, rfl⟩
  case lss => cases h; exact ⟨by rw [ltI_eq]; rfl, rfl⟩
  case leq => cases h; exact ⟨by rw [ltI_eq, ← leI]; rfl, rfl⟩
  case gtr => cases h; exact ⟨by rw [ltI_eq]; rfl, rfl⟩
  case geq => cases h; exact ⟨by rw [ltI_eq, ← leI]; rfl, rfl⟩
  all_goals cases h

theorem binFast_eq (op : BinOp) (x y : Value) : binFast op x y = binFast' op x y := by
  cases x <;> try rfl
  cases y <;> try rfl
  rename_i k a k' b
  show Bool.rec (motive := fun _ => BinOp → IntKind → Int → Int → Option Value) _ _ (Nat.beq (kindN k) (kindN k')) op k a b = _
  unfold binFast'
  simp only []
  cases Nat.beq (kindN k) (kindN k') with
  | false => rfl
  | true => cases op <;> rfl
theorem binFast_ok {op : BinOp} {x y r : Value} (h : binFast op x y = some r) (t : TypeId) (X Y : Operand) :
    (do eqGuard op t X Y x y; binOp op t x y : Sem Value).run P w = .ok r w ∧ atom x = true ∧ atom y = true ∧ atom r = true := by
  rw [binFast_eq] at h
  unfold binFast' at h
  split at h
  · rename_i k a k' b
    simp only [Sem.run_bind, run_eqGuard_int, Result.andThen_ok]
    split at h
    · rename_i hk
      obtain rfl := kindN_inj hk
      split at h
      · cases h
      · cases h
      · rename_i h1 h2
        obtain ⟨h3, h4⟩ := fastC_ok (P := P) (w := w) h (fun e => h1 e) (fun e => h2 e) t
        exact ⟨h3, rfl, rfl, h4⟩
    · cases h
  · cases h

def nonum : Value → Bool
  | .pointer _ | .slice .. | .map _ | .func .. | .nilFunc => true
  | _ => false
theorem binOp_nonum {x y : Value} (hx : nonum x = true) (hy : nonum y = true) (t : TypeId) (X Y : Operand) :
    (do eqGuard .eql t X Y x y; binOp .eql t x y : Sem Value).run P w = ((Op.equal t x y).run P w).andThen (fun b w' => .ok (.bool b) w') ∧
    (do eqGuard .neq t X Y x y; binOp .neq t x y : Sem Value).run P w = ((Op.equal t x y).run P w).andThen (fun b w' => .ok (.bool !b) w') := by
  have h1 : binOp .eql t x y = (do pure (Value.bool (← Op.equal t x y))) := by
    cases x <;> cases y <;> first | (cases hx; done) | (cases hy; done) | rfl
  have h2 : binOp .neq t x y = (do pure (Value.bool !(← Op.equal t x y))) := by
    cases x <;> cases y <;> first | (cases hx; done) | (cases hy; done) | rfl
  have h3 : ∀ op, (op = .eql ∨ op = .neq) → (eqGuard op t X Y x y).run P w = .ok () w := by
    intro op hop
    rcases hop with rfl | rfl <;> cases x <;> cases y <;> first | (cases hx; done) | (cases hy; done) | rfl
  rw [h1, h2]
  constructor
  · rw [Sem.run_bind, h3 _ (.inl rfl), Result.andThen_ok, Sem.run_bind]; rfl
  · rw [Sem.run_bind, h3 _ (.inr rfl), Result.andThen_ok, Sem.run_bind]; rfl
theorem equal_ok {t : TypeId} {x y x' y' : Value} {b : Bool} (h : eqNil P t x y = some b) (hx : VR β x x') (hy : VR β y y') :
    (Op.equal t x' y').run P w = .ok b w ∧ nonum x' = true ∧ nonum y' = true := by
  obtain ⟨d, hE⟩ := equal_succ
  rw [hE]
  unfold eqNil at h
  split at h <;> cases h <;> rename_i hu <;> cases hx <;> cases hy <;> (try (simp [atom] at *; done)) <;>
    refine ⟨?_, rfl, rfl⟩ <;>
    (unfold Op.equalIn; rw [Sem.run_bind, run_underlying hu]; rfl)
theorem eqNil_ok {t : TypeId} {x y x' y' : Value} {b : Bool} (h : eqNil P t x y = some b) (hx : VR β x x') (hy : VR β y y') (X Y : Operand) :
    (do eqGuard .eql t X Y x' y'; binOp .eql t x' y' : Sem Value).run P w = .ok (.bool b) w ∧ (do eqGuard .neq t X Y x' y'; binOp .neq t x' y' : Sem Value).run P w = .ok (.bool !b) w := by
  obtain ⟨h1, h2, h3⟩ := equal_ok (w := w) h hx hy
  obtain ⟨h4, h5⟩ := binOp_nonum (P := P) (w := w) h2 h3 t X Y
  rw [h4, h5, h1]
  exact ⟨rfl, rfl⟩

theorem binNil_ok {op : BinOp} {t : TypeId} {x y x' y' r : Value} (h : binNil P op t x y = some r) (hx : VR β x x') (hy : VR β y y') (X Y : Operand) :
    (do eqGuard op t X Y x' y'; binOp op t x' y' : Sem Value).run P w = .ok r w ∧ atom r = true := by
  unfold binNil at h
  split at h
  · cases hb : eqNil P t x y with
    | none => simp [hb] at h
    | some b => simp [hb] at h; subst h; exact ⟨(eqNil_ok hb hx hy X Y).1, rfl⟩
  · cases hb : eqNil P t x y with
    | none => simp [hb] at h
    | some b => simp [hb] at h; subst h; exact ⟨(eqNil_ok hb hx hy X Y).2, rfl⟩
  · cases h

/-! ### Structs of whole numbers -/
theorem thenB_true {b : Bool} {r : Option Bool} {c : Bool} (h : thenB b r = some c) : (b = true ∧ r = some c) ∨ (b = false ∧ c = false) := by
  cases b with
  | true => exact .inl ⟨rfl, h⟩
  | false => exact .inr ⟨rfl, (Option.some.inj h).symm⟩
theorem cmpL_nn {f : Value → Value → Option Bool} : cmpL f [] [] = some true := rfl
theorem cmpL_nc {f : Value → Value → Option Bool} (y : Value) (t : List Value) : cmpL f [] (y :: t) = none := rfl
theorem cmpL_cn {f : Value → Value → Option Bool} (x : Value) (l : List Value) : cmpL f (x :: l) [] = none := rfl
theorem cmpL_cc {f : Value → Value → Option Bool} (x : Value) (l : List Value) (y : Value) (t : List Value) : cmpL f (x :: l) (y :: t) = (match f x y with
      | some b => thenB b (cmpL f l t)
      | none => none) := by
  show Option.rec (motive := fun _ => Option Bool) none (fun b => thenB b (cmpL f l t)) (f x y) = _
  cases f x y <;> rfl
theorem run_if_f {α : Type} {c : Bool} {s t : Sem α} (h : c = false) : (if c = true then s else t).run P w = t.run P w := by rw [h]; simp
theorem cmpI_spec {x y : Value} {b : Bool} (h : cmpI x y = some b) : ∃ k a c, x = .int k a ∧ y = .int k c ∧ b = eqI a c := by
  unfold cmpI at h
  split at h
  · split at h
    · rename_i hk
      obtain rfl := kindN_inj hk
      exact ⟨_, _, _, rfl, rfl, (Option.some.inj h).symm⟩
    · cases h
  · cases h
/-- What two rows of whole numbers say of each other. -/
def Cmps : List Value → List Value → Bool → Prop
  | [], [], b => b = true
  | x :: l, y :: k, b => ∃ c, cmpI x y = some c ∧ ((c = true ∧ Cmps l k b) ∨ (c = false ∧ b = false))
  | _, _, _ => False
theorem equal_int {t : TypeId} {n : Nat} {k : IntKind} {a c : Int} {i : IntKind} (hu : P.underlying t = some (.int i)) : (Op.equalIn (n + 1) t (.int k a) (.int k c)).run P w = .ok (eqI a c) w := by
  unfold Op.equalIn; rw [Sem.run_bind, run_underlying hu, eqI_eq]; simp
theorem fldI_spec {f : Field} {i : Nat} (h : fldI P f i = true) : ∃ k, P.underlying f.type = some (.int k) ∧ lay P f.type = some (1, false) ∧ f.offset = i ∧ f.name ≠ "_" := by
  unfold fldI at h
  split at h
  · rename_i k n h1 h2
    simp only [Bool.and_eq_true, bne_iff_ne] at h
    obtain rfl := Nat.eq_of_beq_eq_true h.1
    exact ⟨k, h1, h2, Nat.eq_of_beq_eq_true h.2.1, h.2.2⟩
  · cases h
theorem cmps_of {f : Value → Value → Option Bool} (hf : ∀ x y b, f x y = some b → cmpI x y = some b) : ∀ {l k : List Value} {b : Bool}, cmpL f l k = some b → Cmps l k b
  | [], [], b, h => (Option.some.inj h).symm
  | [], y :: t, b, h => by rw [cmpL_nc] at h; cases h
  | x :: l, [], b, h => by rw [cmpL_cn] at h; cases h
  | x :: l, y :: t, b, h => by
    rw [cmpL_cc] at h
    split at h
    · rename_i c hc
      refine ⟨c, hf _ _ _ hc, ?_⟩
      rcases thenB_true h with ⟨h1, h2⟩ | ⟨h1, h2⟩
      · exact .inl ⟨h1, cmps_of hf h2⟩
      · exact .inr ⟨h1, h2⟩
    · cases h
theorem run_part1 {t : TypeId} (hl : lay P t = some (1, false)) {cs : List Value} {off : Nat} {v : Value} (hg : cs[off]? = some v) : (part t ⟨cs⟩ off).run P w = .ok v w := by
  obtain ⟨i, d, hi, hd, _, hag⟩ := lay_spec hl
  simp [part, run_isAgg hd, hag, hg]
theorem struct_loop {g : Field → (Option Bool × Unit) → Sem (ForInStep (Option Bool × Unit))} {xs ys : List Value} {b : Bool}
    (hg : ∀ f i v1 v2 c, fldI P f i = true → xs[i]? = some v1 → ys[i]? = some v2 → cmpI v1 v2 = some c → ∀ s, (g f s).run P w = .ok (if c then .yield (none, ()) else .done (some false, ())) w) :
    ∀ (fl : List Field) (i : Nat), fldsI P fl i = true → Cmps (xs.drop i) (ys.drop i) b → (xs.drop i).length = fl.length →
    (forIn fl (none, ()) g).run P w = .ok ((if b then none else some false), ()) w
  | [], i, _, hc, hl => by
    have hx : xs.drop i = [] := List.eq_nil_of_length_eq_zero hl
    rw [hx] at hc
    cases hy : ys.drop i with
    | nil => rw [hy] at hc; cases (show b = true from hc); rfl
    | cons y t => rw [hy] at hc; exact hc.elim
  | f :: fl, i, hf, hc, hl => by
    simp only [fldsI, Bool.and_eq_true] at hf
    cases hx : xs.drop i with
    | nil => rw [hx] at hl; cases hl
    | cons x l =>
      cases hy : ys.drop i with
      | nil => rw [hx, hy] at hc; exact hc.elim
      | cons y t =>
        rw [hx, hy] at hc
        obtain ⟨c, h1, h2⟩ := hc
        have gx : xs[i]? = some x := by have := List.getElem?_drop (xs := xs) (i := i) (j := 0); rw [hx] at this; simpa using this.symm
        have gy : ys[i]? = some y := by have := List.getElem?_drop (xs := ys) (i := i) (j := 0); rw [hy] at this; simpa using this.symm
        rw [List.forIn_cons, Sem.run_bind, hg f i x y c hf.1 gx gy h1, Result.andThen_ok]
        have hx' : xs.drop (i + 1) = l := by rw [← List.tail_drop, hx]; rfl
        have hy' : ys.drop (i + 1) = t := by rw [← List.tail_drop, hy]; rfl
        rcases h2 with ⟨rfl, h2⟩ | ⟨rfl, rfl⟩
        · exact struct_loop hg fl (i + 1) hf.2 (by rw [hx', hy']; exact h2) (by rw [hx']; rw [hx] at hl; simpa using hl)
        · rfl
theorem equal_str {t : TypeId} {fs : Array Field} (hu : P.underlying t = some (.struct fs)) (hst : P.stoodInHeld t = false) (hf : fldsI P fs.toList 0 = true) {xs ys : List Value} {b : Bool} (hc : Cmps xs ys b) (hl : xs.length = fs.size) (d : Nat) :
    (Op.equalIn (d + 2) t (.agg ⟨xs⟩) (.agg ⟨ys⟩)).run P w = .ok b w := by
  unfold Op.equalIn
  rw [Sem.run_bind, run_underlying hu, Result.andThen_ok]
  show Sem.run P (if P.stoodInHeld t = true then _ else _) w = _
  rw [run_if_f hst, ← Array.forIn_toList, Sem.run_bind, struct_loop (xs := xs) (ys := ys) (b := b) ?_ fs.toList 0 hf hc (by simpa using hl), Result.andThen_ok]
  · cases b <;> rfl
  · intro f i v1 v2 c h1 h2 h3 h4 s
    obtain ⟨k, g1, g2, g3, g4⟩ := fldI_spec h1
    obtain ⟨k', a, e, rfl, rfl, rfl⟩ := cmpI_spec h4
    subst g3
    rw [if_pos g4, Sem.run_bind, run_part1 g2 h2, Result.andThen_ok, Sem.run_bind, run_part1 g2 h3, Result.andThen_ok, Sem.run_bind, equal_int g1, Result.andThen_ok]
    cases eqI a e <;> rfl
theorem plainS_spec {t : TypeId} {n : Nat} (h : plainS P t = some n) : ∃ fs, P.underlying t = some (.struct fs) ∧ P.stoodInHeld t = false ∧ P.eqGuardType P.depth t = false ∧ fldsI P fs.toList 0 = true ∧ n = fs.size := by
  unfold plainS at h
  split at h
  · rename_i fs hu
    split at h
    · rename_i hc
      simp only [Bool.and_eq_true, Bool.not_eq_true'] at hc
      exact ⟨fs, hu, hc.1, hc.2.1, hc.2.2, (Option.some.inj h).symm⟩
    · cases h
  · cases h
/-- Two structs of whole numbers, compared. -/
theorem eqStr_run {t : TypeId} {n : Nat} (hp : plainS P t = some n) {f : Value → Value → Option Bool} (hf : ∀ x y b, f x y = some b → cmpI x y = some b) {x y : Value} {b : Bool} (h : eqStr f n x y = some b) :
    (Op.equal t x y).run P w = .ok b w ∧ ∃ l k, x = .agg ⟨l⟩ ∧ y = .agg ⟨k⟩ := by
  obtain ⟨fs, h1, h2, h3, h4, h5⟩ := plainS_spec hp
  unfold eqStr at h
  split at h
  · rename_i l k
    split at h
    · rename_i hl
      have hl := Nat.eq_of_beq_eq_true hl
      rw [lenL_eq] at hl
      refine ⟨?_, l, k, rfl, rfl⟩
      show (Op.equalIn (9998 + 2) t (.agg ⟨l⟩) (.agg ⟨k⟩)).run P w = _
      exact equal_str h1 h2 h4 (cmps_of hf h) (by rw [hl, h5]) 9998
    · cases h
  · cases h
theorem strOp_run {t : TypeId} {n : Nat} (hp : plainS P t = some n) {l k : List Value} {b : Bool} (h : (Op.equal t (.agg ⟨l⟩) (.agg ⟨k⟩)).run P w = .ok b w) (X Y : Operand) :
    (do eqGuard .eql t X Y (.agg ⟨l⟩) (.agg ⟨k⟩); binOp .eql t (.agg ⟨l⟩) (.agg ⟨k⟩) : Sem Value).run P w = .ok (.bool b) w ∧ (do eqGuard .neq t X Y (.agg ⟨l⟩) (.agg ⟨k⟩); binOp .neq t (.agg ⟨l⟩) (.agg ⟨k⟩) : Sem Value).run P w = .ok (.bool !b) w := by
  obtain ⟨fs, h1, h2, h3, h4, h5⟩ := plainS_spec hp
  have e1 : binOp .eql t (.agg ⟨l⟩) (.agg ⟨k⟩) = (do pure (Value.bool (← Op.equal t (.agg ⟨l⟩) (.agg ⟨k⟩)))) := rfl
  have e2 : binOp .neq t (.agg ⟨l⟩) (.agg ⟨k⟩) = (do pure (Value.bool !(← Op.equal t (.agg ⟨l⟩) (.agg ⟨k⟩)))) := rfl
  have e3 : ∀ op, (op = .eql ∨ op = .neq) → (eqGuard op t X Y (.agg ⟨l⟩) (.agg ⟨k⟩)).run P w = .ok () w := by
    intro op hop
    have : ∃ s : Sem Unit, (eqGuard op t X Y (.agg ⟨l⟩) (.agg ⟨k⟩)).run P w = Sem.run P (if (!P.eqGuardType P.depth t) = true then pure () else s) w := by
      rcases hop with rfl | rfl <;> exact ⟨_, rfl⟩
    obtain ⟨s, hs⟩ := this
    rw [hs, h3]
    rfl
  rw [e1, e2]
  constructor
  · rw [Sem.run_bind, e3 _ (.inl rfl), Result.andThen_ok, Sem.run_bind, h]; rfl
  · rw [Sem.run_bind, e3 _ (.inr rfl), Result.andThen_ok, Sem.run_bind, h]; rfl

/-! Comparisons with symbols. -/
theorem cmpI_of_fast {x y : Value} {b : Bool} (h : binFast .eql x y = some (.bool b)) : cmpI x y = some b := by
  rw [binFast_eq] at h
  unfold binFast' at h
  split at h
  · rename_i k a k' c
    unfold cmpI
    split at h
    · rename_i hk
      simp only [hk]
      have h : some (Value.bool (eqI a c)) = some (.bool b) := h
      cases h; rfl
    · cases h
  · cases h
theorem cmpS_ok {x y x' y' : Value} {b : Bool} (h : cmpS x y = some b) (hx : VR β x x') (hy : VR β y y') : cmpI x' y' = some b := by
  unfold cmpS at h
  split at h
  · rename_i c hc
    obtain ⟨k, a, e, rfl, rfl, _⟩ := cmpI_spec hc
    rw [hx.of_atom rfl, hy.of_atom rfl, hc, ← h]
  · split at h
    · rename_i c hc
      cases h
      obtain ⟨v', g1, g2⟩ := Syms.binOk _ _ _ _ hc β _ _ hx hy
      rw [g1.of_atom rfl] at g2
      exact cmpI_of_fast g2
    · cases h
theorem VR.agg4 {l : List Value} {v' : Value} (h : VR β (.agg ⟨l⟩) v') : ∃ l', v' = .agg ⟨l'⟩ ∧ VRs β l l' := by
  cases h with
  | atom h => simp [Vx.atom] at h
  | agg h => exact ⟨_, rfl, h⟩
theorem cmpL_vr : ∀ {l l' : List Value}, VRs β l l' → ∀ {k k' : List Value}, VRs β k k' → ∀ {b : Bool}, cmpL cmpS l k = some b → cmpL cmpI l' k' = some b
  | _, _, .nil, _, _, .nil, b, h => h
  | _, _, .nil, _, _, .cons _ _, b, h => by rw [cmpL_nc] at h; cases h
  | _, _, .cons _ _, _, _, .nil, b, h => by rw [cmpL_cn] at h; cases h
  | _, _, .cons hx tx, _, _, .cons hy ty, b, h => by
    rw [cmpL_cc] at h ⊢
    split at h
    · rename_i c hc
      rw [cmpS_ok hc hx hy]
      rcases thenB_true h with ⟨rfl, h2⟩ | ⟨rfl, rfl⟩
      · exact cmpL_vr tx ty h2
      · rfl
    · cases h
theorem eqStr_vr {n : Nat} {x y x' y' : Value} {b : Bool} (h : eqStr cmpS n x y = some b) (hx : VR β x x') (hy : VR β y y') : eqStr cmpI n x' y' = some b := by
  unfold eqStr at h
  split at h
  · rename_i l k
    split at h
    · rename_i hl
      obtain ⟨l', rfl, h1⟩ := hx.agg4
      obtain ⟨k', rfl, h2⟩ := hy.agg4
      unfold eqStr
      simp only [lenL_eq] at hl ⊢
      rw [h1.length, hl]
      exact cmpL_vr h1 h2 h
    · cases h
  · cases h
theorem binStr_ok {op : BinOp} {t : TypeId} {x y x' y' r : Value} (h : binStr P op t x y = some r) (hx : VR β x x') (hy : VR β y y') (X Y : Operand) :
    (do eqGuard op t X Y x' y'; binOp op t x' y' : Sem Value).run P w = .ok r w ∧ atom r = true := by
  unfold binStr at h
  split at h
  · split at h
    · rename_i n hn
      split at h
      · rename_i b hb
        cases h
        obtain ⟨h1, l, k, rfl, rfl⟩ := eqStr_run (w := w) hn (f := cmpI) (fun _ _ _ h => h) (eqStr_vr hb hx hy)
        exact ⟨(strOp_run hn h1 X Y).1, rfl⟩
      · cases h
    · cases h
  · split at h
    · rename_i n hn
      split at h
      · rename_i b hb
        cases h
        obtain ⟨h1, l, k, rfl, rfl⟩ := eqStr_run (w := w) hn (f := cmpI) (fun _ _ _ h => h) (eqStr_vr hb hx hy)
        exact ⟨(strOp_run hn h1 X Y).2, rfl⟩
      · cases h
    · cases h
  · cases h

/-! ### Parts -/
theorem partL_spec {n : Nat} {g : Bool} {l : List Value} {off : Nat} {v : Value} (h : partL n g l off = some v) : (g = true ∧ v = .agg ⟨(l.drop off).take n⟩) ∨ (g = false ∧ l[off]? = some v) := by
  unfold partL at h
  split at h
  · cases h; exact .inl ⟨rfl, by rw [takeL_eq, dropL_eq]⟩
  · rw [nthL_eq] at h; exact .inr ⟨rfl, h⟩
theorem part_ok {t : TypeId} {n : Nat} {g : Bool} (hl : lay P t = some (n, g)) {l l' : List Value} (h : VRs β l l') {off : Nat} {v : Value} (hp : partL n g l off = some v) :
    ∃ v', (part t ⟨l'⟩ off).run P w = .ok v' w ∧ VR β v v' := by
  obtain ⟨i, d, hi, hd, rfl, rfl⟩ := lay_spec hl
  rcases partL_spec hp with ⟨hag, rfl⟩ | ⟨hag, hu⟩
  · refine ⟨.agg ⟨(l'.drop off).take i.size⟩, ?_, .agg ((h.drop off).take _)⟩
    have : (⟨l'⟩ : Array Value).extract off (off + i.size) = ⟨(l'.drop off).take i.size⟩ := by
      apply Array.ext'
      simp [List.extract_eq_take_drop]
    simp only [part, Sem.run_bind, run_isAgg hd, Result.andThen_ok, hag, if_true, run_size hi, Sem.run_pure, this]
  · obtain ⟨v', h1, h2⟩ := h.get? hu
    refine ⟨v', ?_, h2⟩
    simp [part, run_isAgg hd, hag, h1]

theorem intN_eq (v : Value) : intN v = intN' v := by
  cases v <;> try rfl
  rename_i k n
  cases n <;> rfl
theorem intN_spec {v : Value} {n : Nat} (h : intN v = some n) : ∃ k, v = .int k (n : Int) := by
  rw [intN_eq] at h
  unfold intN' at h
  split at h
  · cases h; exact ⟨_, rfl⟩
  · cases h

/-- The cells of a value are laid into a row. -/
theorem fold_splice (off : Nat) : ∀ (l : List Value) (k : Nat) (cs : Array Value), off + k + l.length ≤ cs.size →
    ((l.zipIdx k).foldl (fun cs (c, j) => cs.setIfInBounds (off + j) c) cs).toList = splice cs.toList (off + k) l
  | [], k, cs, _ => by simp [splice_eq]
  | x :: l, k, cs, h => by
    simp only [List.length_cons] at h
    simp only [List.zipIdx_cons, List.foldl_cons]
    rw [fold_splice off l (k + 1) _ (by simp; omega)]
    rw [splice_eq, splice_eq, Array.toList_setIfInBounds]
    have hlt : off + k < cs.toList.length := by simp; omega
    have h1 : (cs.toList.set (off + k) x).take (off + (k + 1)) = cs.toList.take (off + k) ++ [x] := by
      rw [show off + (k + 1) = off + k + 1 from rfl, List.take_add_one, List.take_set_of_le (by omega)]
      simp
      exact List.getElem?_set_self hlt
    have h2 : (cs.toList.set (off + k) x).drop (off + (k + 1) + l.length) = cs.toList.drop (off + k + (x :: l).length) := by
      rw [List.drop_set_of_lt (by omega)]
      simp only [List.length_cons]
      congr 1; omega
    rw [h1, h2]
    simp

theorem fill_ok {f : Nat → Option (Nat × Nat)} {e ρ : Operand → Value} : ∀ (ps : List (Nat × Operand)) {l : List (Nat × Nat × List Value)} {c c' out : List Value},
    (∀ p ∈ ps, VR β (e p.2) (ρ p.2)) → partsL f e ps = some l → fillL c l = some out → VRs β c c' →
    ∃ out', Instr.fill f ⟨c'⟩ (ps.map fun (i, x) => (i, ρ x)) = some ⟨out'⟩ ∧ VRs β out out'
  | [], l, c, c', out, _, hp, hf, hc => by
    simp [partsL] at hp; subst hp
    simp [fillL] at hf; subst hf
    exact ⟨c', rfl, hc⟩
  | (i, x) :: ps, l, c, c', out, hv, hp, hf, hc => by
    simp only [partsL] at hp
    split at hp
    · rename_i off n l0 h1 h2
      cases hp
      simp only [fillL] at hf
      split at hf
      · rename_i hcond
        simp only [Bool.and_eq_true, beq_iff_eq] at hcond
        have hle := Nat.le_of_ble_eq_true hcond.2
        have hx : VRs β (cellsL (e x)) (cellsL (ρ x)) := (hv (i, x) (by simp)).cellsL
        have hlen : (cellsL (ρ x)).length = n := by rw [hx.length]; exact hcond.1
        have hs := fold_splice off (cellsL (ρ x)) 0 ⟨c'⟩ (by simp; rw [hlen, hc.length]; omega)
        obtain ⟨out', h3, h4⟩ := fill_ok ps (fun p hp => hv p (by simp [hp])) h2 hf (hc.splice hx off)
        refine ⟨out', ?_, h4⟩
        simp only [List.map_cons, Instr.fill, h1, cells_eq]
        rw [if_neg (by simp; rw [hlen, hc.length]; omega)]
        rw [← h3]
        congr 1
        apply Array.ext'
        have he : (⟨cellsL (ρ x)⟩ : Array Value).zipIdx = ⟨(cellsL (ρ x)).zipIdx⟩ := by simp
        rw [he]
        simpa using hs
      · cases hf
    · cases hp

end
end Go.Vx
/-! What an operation does: the rest but calls. -/
namespace Go.Vx
variable [Syms]
open Go.RowKit

section
variable {P : Program} {B : Base} {β : Nat → Ren} {V : VW} {w : World}

theorem arr_get' {α : Type} (l : List α) (i : Nat) : (⟨l⟩ : Array α)[i]? = l[i]? := by simp
theorem zeroA {z : Value} {l : List Value} (h : cellsL z = l) : z.cells = ⟨l⟩ := by rw [cells_eq, h]

theorem run_alloc {t : TypeId} {l : List Value} (h : zeroL P t = some l) : (Instr.alloc t true (.tuple #[])).run P w = .ok (.pointer (some ⟨w.heap.size, 0, none⟩)) (w.alloc (.cells ⟨l⟩ t)) := by
  obtain ⟨i, z, hi, hz, hl, _⟩ := zeroL_spec h
  simp only [Instr.alloc, Sem.run_bind, run_zero hi hz, Result.andThen_ok, newVar, newRow, zeroA hl, run_newObj_alloc, Sem.run_pure]

theorem rep_length (z : List Value) : ∀ n, (rep z n).length = n * z.length
  | 0 => by simp [rep]
  | n + 1 => by simp [rep, rep_length z n, Nat.succ_mul, Nat.add_comm]

theorem rep_get (z : List Value) (hz : 0 < z.length) : ∀ n j, j < n * z.length → (rep z n)[j]? = z[j % z.length]?
  | 0, j, h => by simp at h
  | n + 1, j, h => by
    unfold rep
    rcases Nat.lt_or_ge j z.length with hj | hj
    · rw [List.getElem?_append_left hj, Nat.mod_eq_of_lt hj]
    · rw [List.getElem?_append_right hj, rep_get z hz n _ (by rw [Nat.succ_mul] at h; omega), ← Nat.mod_eq_sub_mod hj]

theorem rep_eq (z : List Value) (hz : 0 < z.length) (n : Nat) : ((Array.range (n * z.length)).map fun k => (⟨z⟩ : Array Value)[k % (⟨z⟩ : Array Value).size]!) = ⟨rep z n⟩ := by
  apply Array.ext'
  apply List.ext_getElem?
  intro j
  simp only [Array.toList_map, Array.toList_range]
  rw [List.getElem?_map]
  rcases Nat.lt_or_ge j (n * z.length) with hj | hj
  · rw [List.getElem?_range hj, rep_get z hz n j hj]
    have hm : j % z.length < z.length := Nat.mod_lt _ hz
    simp [List.getElem?_eq_getElem hm, hm]
  · rw [List.getElem?_eq_none (by simpa using hj), List.getElem?_eq_none (by rw [rep_length]; exact hj)]
    rfl

theorem places_ok : ∀ (fs : List Field), (∀ f ∈ fs, (P.info? f.type).isSome = true) → ∃ places, fs.mapM (fun f => (P.info? f.type).map fun i => (f.offset, i.size)) = some places ∧
    ∀ (i : Nat), places[i]? = (fs[i]?).bind fun (f : Field) => (sizeA P f.type).map fun n => (f.offset, n)
  | [], _ => ⟨[], by simp, by simp⟩
  | f :: fs, h => by
    obtain ⟨pl, h1, h2⟩ := places_ok fs (fun g hg => h g (by simp [hg]))
    obtain ⟨i, hi⟩ := Option.isSome_iff_exists.1 (h f (by simp))
    refine ⟨(f.offset, i.size) :: pl, by simp [List.mapM_cons, hi, h1], fun k => ?_⟩
    cases k with
    | zero => simp [sizeA, hi]
    | succ k => simpa using h2 k

theorem build_ok (h : WR P B β V w) {t : TypeId} {ps : Array (Nat × Operand)} {e ρ : Operand → Value} (hρ : ∀ p ∈ ps.toList, VR β (e p.2) (ρ p.2))
    {z : List Value} (hz : zeroL P t = some z) {l : List (Nat × Nat × List Value)} (hl : partsL (placeOf P t) e ps.toList = some l) (ha : allFieldsOk P t = true) {c : List Value} (hc : fillL z l = some c) :
    ∃ c', (Instr.build t (ps.map fun (i, x) => (i, ρ x))).run P w = .ok (.agg ⟨c'⟩) w ∧ VRs β c c' := by
  obtain ⟨i, zv, hi, hzv, hcl, hat⟩ := zeroL_spec hz
  obtain ⟨c', h1, h2⟩ := fill_ok ps.toList hρ hl hc (VRs.atoms hat)
  refine ⟨c', ?_, h2⟩
  have h1' : Instr.fill (placeOf P t) ⟨z⟩ (ps.toList.map fun x => (x.1, ρ x.2)) = some ⟨c'⟩ := by simpa using h1
  unfold allFieldsOk at ha
  split at ha
  · rename_i fs hu
    obtain ⟨pl, h3, h4⟩ := places_ok (P := P) fs.toList (fun f hf => by
      have := Array.all_eq_true_iff_forall_mem.1 ha f (by simpa using hf)
      exact this)
    have h5 : (fun i => (⟨pl⟩ : Array (Nat × Nat))[i]?) = placeOf P t := by
      funext k
      rw [arr_get', h4 k]
      unfold placeOf
      rw [hu]
      simp only [Array.getElem?_toList]
      cases fs[k]? <;> rfl
    have h6 := run_places (P := P) w _ _ h3
    simp only [Instr.build, Sem.run_bind, run_zero hi hzv, Result.andThen_ok, run_underlying hu, zeroA hcl, Array.mapM_eq_mapM_toList]
    have h5' : (fun i => pl[i]?) = placeOf P t := by rw [← h5]; funext k; exact (arr_get' pl k).symm
    simp [h6, h5', h1']
  · rename_i n el hu
    have h5 : ∃ s, sizeA P el = some s := Option.isSome_iff_exists.1 ha
    obtain ⟨s, hs⟩ := h5
    have h6 : (fun i => some (i * s, s)) = placeOf P t := by
      funext k
      unfold placeOf
      rw [hu]; simp [hs]
    simp only [Instr.build, Sem.run_bind, run_zero hi hzv, Result.andThen_ok, run_underlying hu, zeroA hcl]
    simp [run_sizeA hs, h6, h1']
  · cases ha

theorem fieldOf_spec {t : TypeId} {i : Nat} {f : Nat × Nat × Bool} (h : fieldOf P t i = some f) :
    ∃ fs fd, P.underlying t = some (.struct fs) ∧ fs[i]? = some fd ∧ fd.offset = f.1 ∧ lay P fd.type = some (f.2.1, f.2.2) := by
  unfold fieldOf at h
  split at h
  · rename_i fs hu
    split at h
    · rename_i fd hfd
      cases hl : lay P fd.type with
      | none => simp [hl] at h
      | some la => simp [hl] at h; subst h; exact ⟨fs, fd, hu, hfd, rfl, hl⟩
    · cases h
  · cases h
theorem arrE_spec {t : TypeId} {x : Nat × Nat × Bool} (h : arrE P t = some x) : ∃ el, P.underlying t = some (.array x.1 el) ∧ lay P el = some (x.2.1, x.2.2) := by
  unfold arrE at h
  split at h
  · rename_i n el hu
    cases hl : lay P el with
    | none => simp [hl] at h
    | some la => simp [hl] at h; subst h; exact ⟨el, hu, hl⟩
  · cases h
theorem aggOf_eq (v : Value) : aggOf v = aggOf' v := by
  cases v <;> try rfl
theorem aggOf_spec {v : Value} {l : List Value} (h : aggOf v = some l) : v = .agg ⟨l⟩ := by
  rw [aggOf_eq] at h
  unfold aggOf' at h
  split at h
  · cases h; rfl
  · cases h
theorem sliceOf_eq (v : Value) : sliceOf v = sliceOf' v := by
  cases v <;> try rfl
  rename_i a n c
  cases a with
  | none => rfl
  | some a => obtain ⟨b, off, sp⟩ := a; cases sp <;> rfl
theorem sliceOf_spec {v : Value} {s : (Nat × Nat) × Nat} (h : sliceOf v = some s) : ∃ c, v = .slice (some ⟨s.1.1, s.1.2, none⟩) s.2 c := by
  rw [sliceOf_eq] at h
  unfold sliceOf' at h
  split at h
  · cases h; exact ⟨_, rfl⟩
  · cases h
theorem VR.agg' {l : List Value} {v' : Value} (h : VR β (.agg ⟨l⟩) v') : ∃ l', v' = .agg ⟨l'⟩ ∧ VRs β l l' := by
  cases h with
  | atom h => simp [Vx.atom] at h
  | agg h => exact ⟨_, rfl, h⟩
theorem VR.tuple' {l : List Value} {v' : Value} (h : VR β (.tuple ⟨l⟩) v') : ∃ l', v' = .tuple ⟨l'⟩ ∧ VRs β l l' := by
  cases h with
  | atom h => simp [Vx.atom] at h
  | tuple h => exact ⟨_, rfl, h⟩
theorem VR.bool' {b : Bool} {v' : Value} (h : VR β (.bool b) v') : v' = .bool b := h.of_atom rfl
theorem VR.int' {k : IntKind} {n : Int} {v' : Value} (h : VR β (.int k n) v') : v' = .int k n := h.of_atom rfl
theorem VR.string' {s : ByteArray} {v' : Value} (h : VR β (.string s) v') : v' = .string s := h.of_atom rfl
/-- A pointer, alive or dead, moved on. -/
theorem VR.ptr_add {b off d : Nat} {v' : Value} (h : VR β (.pointer (some ⟨b, off, none⟩)) v') : ∃ a, v' = .pointer (some a) ∧ VR β (.pointer (some ⟨b, off + d, none⟩)) (.pointer (some (a.add d))) := by
  cases h with
  | atom h => simp [Vx.atom] at h
  | @ptr i rb cp sh o e =>
    refine ⟨_, rfl, ?_⟩
    rw [addr_add, show off + sh + d = off + d + sh from by omega]
    exact .ptr e
  | ptrD e => exact ⟨_, rfl, .ptrD e⟩
theorem VR.sl_add {b off n c d : Nat} {v' : Value} (h : VR β (.slice (some ⟨b, off, none⟩) n c) v') : ∃ a c', v' = .slice (some a) n c' ∧ VR β (.pointer (some ⟨b, off + d, none⟩)) (.pointer (some (a.add d))) := by
  cases h with
  | atom h => simp [Vx.atom] at h
  | @sl i rb cp sh o n c e hn hc =>
    refine ⟨_, _, rfl, ?_⟩
    rw [addr_add, show off + sh + d = off + d + sh from by omega]
    exact .ptr e
  | slD e _ _ => exact ⟨_, _, rfl, .ptrD e⟩

theorem Res.ofV (h : WR P B β V w) {s : Sem Next} {x : Option Value} {v : Value} {V' : VW} (hx : Vx.ofV V x = .val v V') (hk : ∀ u, x = some u → ∃ u', s.run P w = .ok (.value u') w ∧ VR β u u') : Res P B β w s v V' := by
  obtain ⟨h1, rfl⟩ := ofV_spec hx
  obtain ⟨u', h2, h3⟩ := hk v h1
  exact Res.of h h2 h3

theorem run_nilCheck_ptr {a : Addr} {o : Oper} {x : Operand} (ho : o.op = .nilCheck x) {ρ : Rho} (hx : ρ x = .pointer (some a)) : (execOp ρ o).run P w = .ok (.value (.pointer (some a))) w := by
  unfold execOp; simp only [ho, hx]; rfl

/-- Numbers of an index. -/
theorem intN_real {v v' : Value} {n : Nat} (h : intN v = some n) (hv : VR β v v') : ∃ k, v' = .int k (n : Int) := by
  obtain ⟨k, rfl⟩ := intN_spec h
  exact ⟨k, hv.int'⟩

theorem fieldAddr_ok (h : WR P B β V w) {t : TypeId} {x : Operand} {i : Nat} {e ρ : Rho} (hx : VR β (e x) (ρ x)) {v : Value} {V' : VW} (hp : fieldAddrO t x i P e V = .val v V') :
    ∃ v', (Instr.fieldAt t (ρ x) i).run P w = .ok v' w ∧ VR β v v' ∧ V' = V := by
  unfold fieldAddrO at hp
  split at hp
  · rename_i f hf
    obtain ⟨fs, fd, hu, hfd, ho, hl⟩ := fieldOf_spec hf
    obtain ⟨ti, d, hi, hd, hsz, hag⟩ := lay_spec hl
    split at hp
    · rename_i bo hbo
      split at hp
      · cases hp
      · rename_i hn
        cases hp
        have hn : ¬ f.2.1 = 0 := fun e => by rw [e] at hn; simp at hn
        rw [blockOf_spec hbo] at hx
        obtain ⟨a, ha, hr⟩ := hx.ptr_add (d := f.1)
        rw [ha]
        refine ⟨_, ?_, hr, rfl⟩
        simp [Instr.fieldAt, run_underlying hu, hfd, Instr.sureAddr, fieldPlace, run_size hi, hsz, hn, ho]
    · cases hp
  · cases hp

theorem field_ok (h : WR P B β V w) {t : TypeId} {x : Operand} {i : Nat} {e ρ : Rho} (hx : VR β (e x) (ρ x)) {v : Value} {V' : VW} (hp : fieldO t x i P e V = .val v V') :
    ∃ v', (Instr.field t (ρ x) i).run P w = .ok v' w ∧ VR β v v' ∧ V' = V := by
  unfold fieldO at hp
  split at hp
  · rename_i f hf
    obtain ⟨fs, fd, hu, hfd, ho, hl⟩ := fieldOf_spec hf
    split at hp
    · rename_i l hl2
      obtain ⟨h1, rfl⟩ := ofV_spec hp
      rw [aggOf_spec hl2] at hx
      obtain ⟨l', e', hr⟩ := hx.agg'
      obtain ⟨v', h2, h3⟩ := part_ok (w := w) hl hr h1
      refine ⟨v', ?_, h3, rfl⟩
      simp [Instr.field, run_underlying hu, hfd, e', asAgg, ho, h2]
    · cases hp
  · cases hp

theorem indexAddr_ok (h : WR P B β V w) {t : TypeId} {x i : Operand} {e ρ : Rho} (hx : VR β (e x) (ρ x)) (hi : VR β (e i) (ρ i)) {v : Value} {V' : VW} (hp : indexAddrO t x i P e V = .val v V') :
    ∃ v', (Instr.indexAt t (ρ x) (ρ i)).run P w = .ok v' w ∧ VR β v v' ∧ V' = V := by
  unfold indexAddrO at hp
  split at hp
  · cases hp
  · rename_i j hj
    obtain ⟨k, hk⟩ := intN_real hj hi
    split at hp
    · rename_i es hes
      obtain ⟨el, sz⟩ := es
      obtain ⟨hu, hsz⟩ := elemS_spec hes
      split at hp
      · rename_i s hs
        split at hp
        · rename_i hlt
          have hlt := blt_lt hlt
          cases hp
          obtain ⟨c, hc⟩ := sliceOf_spec hs
          rw [hc] at hx
          obtain ⟨a, c', ha, hr⟩ := hx.sl_add (d := j * sz)
          rw [ha, hk]
          refine ⟨_, ?_, hr, rfl⟩
          simp [Instr.indexAt, asIntOf, run_underlying hu, run_sizeA hsz, hlt]
        · cases hp
      · cases hp
    · split at hp
      · rename_i ns hns
        obtain ⟨n, sz⟩ := ns
        obtain ⟨el, hu, hsz⟩ := arrP_spec hns
        split at hp
        · rename_i s hs
          split at hp
          · rename_i hlt
            have hlt := blt_lt hlt
            cases hp
            rw [blockOf_spec hs] at hx
            obtain ⟨a, ha, hr⟩ := hx.ptr_add (d := j * sz)
            rw [ha, hk]
            refine ⟨_, ?_, hr, rfl⟩
            simp only at hlt
            simp [Instr.indexAt, asIntOf, run_underlying hu, run_sizeA hsz, hlt, Instr.sureAddr]
          · cases hp
        · cases hp
      · cases hp

theorem buildSlice_ok (h : WR P B β V w) {t : TypeId} {n : Nat} {ps : Array (Nat × Operand)} {e ρ : Rho} (hρ : ∀ p ∈ ps.toList, VR β (e p.2) (ρ p.2)) {v : Value} {V' : VW} (hp : buildSliceO t n ps P e V = .val v V') :
    Res P B β w (do pure (Next.value (← Instr.buildSlice t n (ps.map fun (i, x) => (i, ρ x))))) v V' := by
  unfold buildSliceO at hp
  split at hp
  · rename_i el sz hes
    obtain ⟨hu, hsz⟩ := elemS_spec hes
    split at hp
    · rename_i z l hz hl
      split at hp
      · rename_i hc
        simp only [Bool.and_eq_true, beq_iff_eq] at hc
        have h0 := blt_lt hc.1.2
        have hb := Nat.le_of_ble_eq_true hc.2
        have hzl := hc.1.1
        split at hp
        · rename_i c hf
          obtain ⟨i, zv, hi, hzv, hcl, hat⟩ := zeroL_spec hz
          obtain ⟨c', h1, h2⟩ := fill_ok ps.toList hρ hl hf ((VRs.atoms (β := β) hat).rep n)
          have hm : (ps.map fun (i, x) => (i, ρ x)).toList = ps.toList.map fun (i, x) => (i, ρ x) := by simp
          have hrun : (Instr.buildSlice t n (ps.map fun (i, x) => (i, ρ x))).run P w = .ok (.slice (some ⟨w.heap.size, 0, none⟩) n n) (w.alloc (.cells ⟨c'⟩ el)) := by
            have hbig : ¬ (n * sz > 2 ^ 24) := by have : (2 : Nat) ^ 24 = 16777216 := rfl; omega
            have hrep : ((Array.range (n * sz)).map fun k => zv.cells[k % zv.cells.size]!) = ⟨rep z n⟩ := by
              rw [zeroA hcl, ← hzl]; exact rep_eq z (by omega) n
            simp only [Instr.buildSlice, Sem.run_bind, run_underlying hu, Result.andThen_ok, run_sizeA hsz, if_neg hbig, hm]
            by_cases hn : n * sz = 0
            · have hn0 : n = 0 := by rcases Nat.mul_eq_zero.1 hn with h | h <;> omega
              subst hn0
              simp only [rep] at h1 h2
              have h1'' : Instr.fill (fun i => some (i * sz, sz)) #[] (ps.toList.map fun x => (x.1, ρ x.2)) = some ⟨c'⟩ := by simpa using h1
              have hr0 : (Array.range 0 : Array Nat) = #[] := rfl
              simp only [Nat.zero_mul, hr0] at *
              simp [h1'', newRow]
            · rw [if_neg hn]
              simp only [Sem.run_bind, run_zero hi hzv, Result.andThen_ok, Sem.run_pure, hrep, h1, newRow, run_newObj_alloc]
          refine Res.new h hp 0 0 (ObjR.whole h2 (by simp)) (run_v hrun) fun β' hβ => ?_
          have hle : ¬ half ≤ n ∨ half ≤ n := by omega
          have : n < half := by
            have : n ≤ n * sz := Nat.le_mul_of_pos_right _ h0
            have : half = 4611686018427387904 := rfl
            omega
          have hcap : capR 0 n = n := if_pos this
          have := VR.sl (β := β') (i := V.size) (o := 0) (n := n) (c := n) hβ (by rw [hcap]; exact Nat.le_refl _) (fun hh => by omega)
          rw [hcap] at this
          exact this
        · cases hp
      · cases hp
    · cases hp
  · cases hp

theorem makeSlice_ok (h : WR P B β V w) {t : TypeId} {l c : Operand} {e ρ : Rho} (hl : VR β (e l) (ρ l)) (hc : VR β (e c) (ρ c)) {v : Value} {V' : VW} (hp : makeSliceO t l c P e V = .val v V') :
    Res P B β w (do pure (Next.value (← Instr.makeSlice t (ρ l) (ρ c)))) v V' := by
  unfold makeSliceO at hp
  split at hp
  · rename_i el sz ln cn hes hln hcn
    obtain ⟨hu, hsz⟩ := elemS_spec hes
    obtain ⟨kl, hl'⟩ := intN_real hln hl
    obtain ⟨kc, hc'⟩ := intN_real hcn hc
    split at hp
    · rename_i z hz
      split at hp
      · rename_i hcond
        simp only [Bool.and_eq_true, beq_iff_eq] at hcond
        obtain ⟨⟨⟨⟨hzl, h0⟩, hlc⟩, hbig⟩, hby⟩ := hcond
        have h0 := blt_lt h0
        have hlc := Nat.le_of_ble_eq_true hlc
        have hbig := Nat.le_of_ble_eq_true hbig
        have hby := Nat.le_of_ble_eq_true hby
        obtain ⟨i, zv, hi, hzv, hcl, hat⟩ := zeroL_spec hz
        have hbytes : i.bytes ≤ 4096 := by simpa [bytesA, hi] using hby
        have hcs : cn ≤ cn * sz := Nat.le_mul_of_pos_right _ h0
        have hmul : i.bytes * cn ≤ 4096 * 65536 := Nat.mul_le_mul hbytes (by omega)
        have hsi : i.size = sz := by
          have := hsz; simp [sizeA, hi] at this; exact this
        have hrun : (Instr.makeSlice t (ρ l) (ρ c)).run P w = .ok (.slice (some ⟨w.heap.size, 0, none⟩) ln cn) (w.alloc (.cells ⟨rep z cn⟩ el)) := by
          have wl : IntKind.i64.wrap (ln : Int) = (ln : Int) := by exact wrap_pos (k := .i64) (m := ln) (by simp only [posL]; omega)
          have wc : IntKind.i64.wrap (cn : Int) = (cn : Int) := by exact wrap_pos (k := .i64) (m := cn) (by simp only [posL]; omega)
          have n1 : ¬ ((cn : Int) < 0) := by omega
          have n2 : ¬ ((2 : Int) ^ 48 < (i.bytes : Int) * (cn : Int)) := by
            have e48 : (2 : Int) ^ 48 = 281474976710656 := rfl
            have : ((i.bytes * cn : Nat) : Int) = (i.bytes : Int) * (cn : Int) := by simp
            rw [← this, e48]; omega
          have n3 : ¬ ((ln : Int) < 0) := by omega
          have n4 : ¬ ((cn : Int) < (ln : Int)) := by omega
          have hrep : ((Array.range (cn * sz)).map fun k => zv.cells[k % zv.cells.size]!) = ⟨rep z cn⟩ := by
            rw [zeroA hcl, ← hzl]; exact rep_eq z (by omega) cn
          rw [hl', hc']
          simp only [Instr.makeSlice, Sem.run_bind, run_underlying hu, Result.andThen_ok, asInt, asIntOf, Sem.run_pure, run_info hi, wl, wc, gt_iff_lt, n1, n2, n3, n4, decide_false, Bool.or_false, Bool.false_or,
            Bool.false_eq_true, if_false, run_askRoom, run_sizeA hsz, Int.toNat_natCast]
          by_cases hn : cn * sz = 0
          · have hn0 : cn = 0 := by rcases Nat.mul_eq_zero.1 hn with h | h <;> omega
            subst hn0
            have hr0 : (Array.range 0 : Array Nat) = #[] := rfl
            simp only [Nat.zero_mul, hr0] at *
            simp [newRow, rep]
          · rw [if_neg hn]
            simp only [Sem.run_bind, run_zero hi hzv, Result.andThen_ok, Sem.run_pure, hrep, newRow, run_newObj_alloc]
        refine Res.new h hp 0 0 (ObjR.whole ((VRs.atoms (β := β) hat).rep cn) (by simp)) (run_v hrun) fun β' hβ => ?_
        have : cn < half := by have : half = 4611686018427387904 := rfl; omega
        have hcap : capR 0 cn = cn := if_pos this
        have := VR.sl (β := β') (i := V.size) (o := 0) (n := ln) (c := cn) hβ (by rw [hcap]; exact hlc) (fun hh => by omega)
        rw [hcap] at this
        exact this
      · cases hp
    · cases hp
  · cases hp
end
end Go.Vx
