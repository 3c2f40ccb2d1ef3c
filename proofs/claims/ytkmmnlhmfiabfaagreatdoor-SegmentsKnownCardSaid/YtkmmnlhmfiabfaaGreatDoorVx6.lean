/-
  Says: What an operation does: slices, maps, texts; all of them. What an operation does, all of them but calls.
-/
import Derived.Test.YtkmmnlhmfiabfaaGreatDoorVx1
set_option linter.unusedVariables false
set_option linter.unusedSimpArgs false
set_option linter.unusedSectionVars false
/-! What an operation does, the simple ones. -/
namespace Go.Vx
variable [Syms]
open Go.RowKit

def RunsTo (P : Program) (s : Sem Next) (w : World) (v : Value) (w' : World) : Prop :=
  s.run P w = .ok (.value v) w' ∨ (v = undef ∧ s.run P w = .ok .skip w')

def Res (P : Program) (B : Base) (β : Nat → Ren) (w : World) (s : Sem Next) (v : Value) (V' : VW) : Prop :=
  ∃ β' v' w', Ext β β' ∧ WR P B β' V' w' ∧ VR β' v v' ∧ RunsTo P s w v' w'

section
variable {P : Program} {B : Base} {β : Nat → Ren} {V : VW} {w : World}

theorem run_v {s : Sem Value} {v : Value} {w' : World} (h : s.run P w = .ok v w') : (do pure (Next.value (← s)) : Sem Next).run P w = .ok (.value v) w' := by simp [h]
theorem run_u {s : Sem Unit} {w' : World} (h : s.run P w = .ok () w') : (do s; pure Next.skip : Sem Next).run P w = .ok .skip w' := by simp [h]

theorem Res.of (h : WR P B β V w) {s : Sem Next} {v v' : Value} (hr : s.run P w = .ok (.value v') w) (hv : VR β v v') : Res P B β w s v V :=
  ⟨β, v', w, .refl _, h, hv, .inl hr⟩

theorem newGo_spec {o : VObj} {k : Nat → Value} {v : Value} {V' : VW} (h : newGo V o k = .val v V') : V.size < top ∧ v = k V.size ∧ V' = V.push o := by
  unfold newGo at h
  split at h
  · rename_i hl
    cases h
    exact ⟨Nat.le_of_ble_eq_true hl, rfl, rfl⟩
  · cases h

theorem Res.new (h : WR P B β V w) {o : VObj} {k : Nat → Value} {v : Value} {V' : VW} (hn : newGo V o k = .val v V') {s : Sem Next} {o' : Obj} (cp sh : Nat)
    (ho : ObjR P β cp sh o o') {k' : Value} (hr : s.run P w = .ok (.value k') (w.alloc o')) (hk : ∀ β' : Nat → Ren, β' V.size = .live w.heap.size cp sh → VR β' (k V.size) k') :
    Res P B β w s v V' := by
  obtain ⟨h1, rfl, rfl⟩ := newGo_spec hn
  obtain ⟨β', a, b, c⟩ := new_ok h h1 cp sh ho
  exact ⟨β', k', _, a, b, hk β' c, .inl hr⟩

theorem ofV_spec {x : Option Value} {v : Value} {V' : VW} (h : ofV V x = .val v V') : x = some v ∧ V' = V := by
  cases x with
  | none => simp [ofV] at h
  | some u => simp [ofV] at h; exact ⟨by rw [h.1], h.2.symm⟩

theorem drV_spec {s : Sem Next} {v : Value} (h : drV P s = some v) : dr P s = some (.value v) ∧ flat v = true := by
  unfold drV at h
  split at h
  · rename_i u hd
    split at h
    · rename_i hf; cases h; exact ⟨hd, hf⟩
    · cases h
  · cases h

theorem flat_ok (h : WR P B β V w) {o : Oper} (hs : ∀ cs b, o.op ≠ .select cs b) {e ρ : Operand → Value} (hρ : ∀ x ∈ o.op.operands, VR β (e x) (ρ x)) (hf : ∀ x ∈ o.op.operands, flat (e x) = true)
    {v : Value} {V' : VW} (hd : ofV V (drV P (execOp e o)) = .val v V') : Res P B β w (execOp ρ o) v V' := by
  obtain ⟨h1, rfl⟩ := ofV_spec hd
  obtain ⟨h2, h3⟩ := drV_spec h1
  rw [execOp_congr o hs fun x hx => (hρ x hx).of_flat (hf x hx)]
  exact Res.of h (dr_run h2 w) (VR.flat h3)

/-! ### Operators -/
theorem blt_tt {a b : Nat} (h : a < b) : Nat.blt a b = true := Nat.ble_eq_true_of_le h
theorem blt_lt {a b : Nat} (h : Nat.blt a b = true) : a < b := Nat.le_of_ble_eq_true h
theorem wrapF_nat (k : IntKind) (m : Nat) : wrapF k (.ofNat m) = (match Nat.blt m (posL k) with
    | true => .ofNat m
    | false => match Nat.beq (negL k) 0 with
      | true => .ofNat (Nat.mod m (posL k))
      | false => k.wrap (.ofNat m)) := rfl
theorem wrapF_neg (k : IntKind) (m : Nat) : wrapF k (.negSucc m) = (match Nat.blt m (negL k) with
    | true => .negSucc m
    | false => k.wrap (.negSucc m)) := rfl
theorem wrapF_small {k : IntKind} {m : Nat} (h : m < posL k) : wrapF k (.ofNat m) = .ofNat m := by rw [wrapF_nat, blt_tt h]
theorem wrap_def (k : IntKind) (n : Int) : k.wrap n = if k.signed = true ∧ (2 : Int) ^ (k.bits - 1) ≤ n % (2 : Int) ^ k.bits then n % (2 : Int) ^ k.bits - (2 : Int) ^ k.bits else n % (2 : Int) ^ k.bits := by
  unfold IntKind.wrap
  simp only [Bool.and_eq_true, decide_eq_true_eq, ge_iff_le]
theorem wrap_s {k : IntKind} {a : Int} {n : Int} (hs : k.signed = true) (ha : (2 : Int) ^ (k.bits - 1) = a) (hb : (2 : Int) ^ k.bits = 2 * a) : k.wrap n = if a ≤ n % (2 * a) then n % (2 * a) - 2 * a else n % (2 * a) := by
  rw [wrap_def, ha, hb, hs]; simp
theorem wrap_u {k : IntKind} {a : Int} {n : Int} (hs : k.signed = false) (hb : (2 : Int) ^ k.bits = a) : k.wrap n = n % a := by
  rw [wrap_def, hb, hs]; simp
theorem wrap_id_s {k : IntKind} {a n : Int} (hs : k.signed = true) (ha : (2 : Int) ^ (k.bits - 1) = a) (hb : (2 : Int) ^ k.bits = 2 * a) (h0 : 0 < a) (h1 : -a ≤ n) (h2 : n < a) : k.wrap n = n := by
  rw [wrap_s hs ha hb]
  rcases Int.lt_or_le n 0 with h | h
  · have : n % (2 * a) = n + 2 * a := by rw [← Int.add_emod_right]; exact Int.emod_eq_of_lt (by omega) (by omega)
    rw [this, if_pos (by omega)]; omega
  · have : n % (2 * a) = n := Int.emod_eq_of_lt h (by omega)
    rw [this, if_neg (by omega)]
theorem wrap_id_u {k : IntKind} {a n : Int} (hs : k.signed = false) (hb : (2 : Int) ^ k.bits = a) (h1 : 0 ≤ n) (h2 : n < a) : k.wrap n = n := by
  rw [wrap_u hs hb]; exact Int.emod_eq_of_lt h1 h2
theorem wrap_pos {k : IntKind} {m : Nat} (h : m < posL k) : k.wrap (.ofNat m) = .ofNat m := by
  have h' : ((m : Nat) : Int) < ((posL k : Nat) : Int) := by omega
  cases k with
  | i8 => exact wrap_id_s (a := 128) rfl rfl rfl (by omega) (by simp only [Int.ofNat_eq_natCast]; omega) h'
  | i16 => exact wrap_id_s (a := 32768) rfl rfl rfl (by omega) (by simp only [Int.ofNat_eq_natCast]; omega) h'
  | i32 => exact wrap_id_s (a := 2147483648) rfl rfl rfl (by omega) (by simp only [Int.ofNat_eq_natCast]; omega) h'
  | i64 => exact wrap_id_s (a := 9223372036854775808) rfl rfl rfl (by omega) (by simp only [Int.ofNat_eq_natCast]; omega) h'
  | u8 => exact wrap_id_u (a := 256) rfl rfl (by simp only [Int.ofNat_eq_natCast]; omega) h'
  | u16 => exact wrap_id_u (a := 65536) rfl rfl (by simp only [Int.ofNat_eq_natCast]; omega) h'
  | u32 => exact wrap_id_u (a := 4294967296) rfl rfl (by simp only [Int.ofNat_eq_natCast]; omega) h'
  | u64 => exact wrap_id_u (a := 18446744073709551616) rfl rfl (by simp only [Int.ofNat_eq_natCast]; omega) h'
theorem wrap_neg {k : IntKind} {m : Nat} (h : m < negL k) : k.wrap (.negSucc m) = .negSucc m := by
  have e : Int.negSucc m = -((m : Int) + 1) := by omega
  have h' : ((m : Nat) : Int) < ((negL k : Nat) : Int) := by omega
  rw [e]
  cases k with
  | i8 => have : (m : Int) < 128 := h'; exact wrap_id_s (a := 128) rfl rfl rfl (by omega) (by omega) (by omega)
  | i16 => have : (m : Int) < 32768 := h'; exact wrap_id_s (a := 32768) rfl rfl rfl (by omega) (by omega) (by omega)
  | i32 => have : (m : Int) < 2147483648 := h'; exact wrap_id_s (a := 2147483648) rfl rfl rfl (by omega) (by omega) (by omega)
  | i64 => have : (m : Int) < 9223372036854775808 := h'; exact wrap_id_s (a := 9223372036854775808) rfl rfl rfl (by omega) (by omega) (by omega)
  | u8 => exact absurd h (Nat.not_lt_zero _)
  | u16 => exact absurd h (Nat.not_lt_zero _)
  | u32 => exact absurd h (Nat.not_lt_zero _)
  | u64 => exact absurd h (Nat.not_lt_zero _)
theorem wrap_mod {k : IntKind} {m : Nat} (h : Nat.beq (negL k) 0 = true) : k.wrap (.ofNat m) = .ofNat (Nat.mod m (posL k)) := by
  cases k with
  | i8 => cases h
  | i16 => cases h
  | i32 => cases h
  | i64 => cases h
  | u8 => exact wrap_u (a := 256) rfl rfl
  | u16 => exact wrap_u (a := 65536) rfl rfl
  | u32 => exact wrap_u (a := 4294967296) rfl rfl
  | u64 => exact wrap_u (a := 18446744073709551616) rfl rfl
theorem wrapF_eq (k : IntKind) (n : Int) : wrapF k n = k.wrap n := by
  cases n with
  | ofNat m =>
    rw [wrapF_nat]
    cases h : Nat.blt m (posL k) with
    | true => exact (wrap_pos (blt_lt h)).symm
    | false =>
      show (match Nat.beq (negL k) 0 with
        | true => Int.ofNat (Nat.mod m (posL k))
        | false => k.wrap (.ofNat m)) = _
      cases h2 : Nat.beq (negL k) 0 with
      | true => exact (wrap_mod h2).symm
      | false => rfl
  | negSucc m =>
    rw [wrapF_neg]
    cases h : Nat.blt m (negL k) with
    | true => exact (wrap_neg (blt_lt h)).symm
    | false => rfl
theorem wrap_small {k : IntKind} {m : Nat} (h : m < posL k) : k.wrap (.ofNat m) = .ofNat m := by rw [← wrapF_eq, wrapF_small h]
theorem kindN_inj {a b : IntKind} (h : Nat.beq (kindN a) (kindN b) = true) : a = b := by
  have h := Nat.eq_of_beq_eq_true h
  cases a <;> cases b <;> first | rfl | (simp [kindN] at h)
theorem eqI_eq (a b : Int) : eqI a b = (a == b) := by
  cases a with
  | ofNat m => cases b with
    | ofNat n =>
      show Nat.beq m n = _
      by_cases h : m = n
      · subst h; simp
      · rw [beq_ff h]; symm; rw [beq_eq_false_iff_ne]; intro e; injection e with e; exact h e
    | negSucc n => rfl
  | negSucc m => cases b with
    | ofNat n => rfl
    | negSucc n =>
      show Nat.beq m n = _
      by_cases h : m = n
      · subst h; simp
      · rw [beq_ff h]; symm; rw [beq_eq_false_iff_ne]; intro e; injection e with e; exact h e
theorem ltI_eq (a b : Int) : ltI a b = decide (a < b) := by
  cases a with
  | ofNat m => cases b with
    | ofNat n =>
      show Nat.blt m n = _
      by_cases h : m < n
      · rw [Nat.ble_eq_true_of_le (show m + 1 ≤ n from h) |> fun e => (show Nat.blt m n = true from e)]; simp [h]
      · have : Nat.blt m n = false := by
          cases hb : Nat.blt m n with
          | false => rfl
          | true => exact absurd (Nat.le_of_ble_eq_true hb) (by omega)
        rw [this]; simp; omega
    | negSucc n => show false = _; simp; omega
  | negSucc m => cases b with
    | ofNat n => show true = _; simp; omega
    | negSucc n =>
      show Nat.blt n m = _
      by_cases h : n < m
      · rw [Nat.ble_eq_true_of_le (show n + 1 ≤ m from h) |> fun e => (show Nat.blt n m = true from e)]; simp; omega
      · have : Nat.blt n m = false := by
          cases hb : Nat.blt n m with
          | false => rfl
          | true => exact absurd (Nat.le_of_ble_eq_true hb) (by omega)
        rw [this]; simp; omega

theorem run_eqGuard_int (op : BinOp) (t : TypeId) (x y : Operand) (k k' : IntKind) (a b : Int) : (eqGuard op t x y (.int k a) (.int k' b)).run P w = .ok () w := by
  cases op <;> simp [eqGuard]

theorem binOp_int {op : BinOp} (h1 : op ≠ .shl) (h2 : op ≠ .shr) (t : TypeId) (k : IntKind) (a b : Int) : binOp op t (.int k a) (.int k b) = (match op with
    | .add | .sub | .mul => Op.intArith op k a b
    | .quo | .rem => Op.intDiv op k a b
    | .and | .or | .xor | .andNot => Op.intBits op k a b
    | _ => Op.intCmp op a b) := by
  cases op <;> first | exact absurd rfl h1 | exact absurd rfl h2 | simp [binOp]
theorem leI (a b : Int) : decide (a ≤ b) = !decide (b < a) := by by_cases h : a ≤ b <;> simp [h] <;> omega
theorem equal_succ : ∃ d, ∀ t x y, Op.equal t x y = Op.equalIn (d + 1) t x y := ⟨9999, fun _ _ _ => rfl⟩

theorem fastC_ok {op : BinOp} {k : IntKind} {a b : Int} {r : Value} (h : fastC op k a b = some r) (h1 : op ≠ .shl) (h2 : op ≠ .shr) (t : TypeId) :
    (binOp op t (.int k a) (.int k b)).run P w = .ok r w ∧ atom r = true := by
  rw [binOp_int h1 h2]
  cases op <;> simp only [fastC] at h
  case add => cases h; exact ⟨by rw [wrapF_eq]; rfl, rfl⟩
  case sub => cases h; exact ⟨by rw [wrapF_eq]; rfl, rfl⟩
  case mul => cases h; exact ⟨by rw [wrapF_eq]; rfl, rfl⟩
  case quo =>
    unfold divF at h
    split at h
    · rename_i m n
      split at h
      · rename_i hm
        have hm := blt_lt hm
        split at h
        · cases h
        · rename_i hn
          have hn : n ≠ 0 := fun e => by subst e; simp at hn
          cases h
          refine ⟨?_, rfl⟩
          have hle : m / n ≤ m := Nat.div_le_self _ _
          have hw : k.wrap (.ofNat (m / n)) = .ofNat (m / n) := wrap_small (by omega)
          show (Op.intDiv .quo k (Int.ofNat m) (Int.ofNat n)).run P w = _
          have hz : ¬ (Int.ofNat n = 0) := by simpa using hn
          simp only [Op.intDiv, if_neg hz]
          show Result.ok (Value.int k (k.wrap (.ofNat (m / n)))) w = _
          rw [hw]; rfl
      · cases h
    · rename_i m n
      split at h
      · rename_i hm
        have hm := blt_lt hm
        split at h
        · cases h
        · rename_i hn
          have hn : n ≠ 0 := fun e => by subst e; simp at hn
          cases h
          refine ⟨?_, rfl⟩
          have hle : (m + 1) / n ≤ m + 1 := Nat.div_le_self _ _
          have hw : k.wrap (Int.negOfNat ((m + 1) / n)) = Int.negOfNat ((m + 1) / n) := by
            cases hq : (m + 1) / n with
            | zero => exact wrap_small (m := 0) (by cases k <;> decide)
            | succ q => exact wrap_neg (m := q) (by omega)
          show (Op.intDiv .quo k (Int.negSucc m) (Int.ofNat n)).run P w = _
          have hz : ¬ (Int.ofNat n = 0) := by simpa using hn
          simp only [Op.intDiv, if_neg hz]
          show Result.ok (Value.int k (k.wrap (-(Int.ofNat ((m + 1) / n))))) w = _
          rw [show -(Int.ofNat ((m + 1) / n)) = Int.negOfNat ((m + 1) / n) from rfl, hw]; rfl
      · cases h
    · cases h
  case rem =>
    unfold remF at h
    split at h
    · rename_i m n
      split at h
      · cases h
      · rename_i hn
        have hn : n ≠ 0 := fun e => by subst e; simp at hn
        cases h
        refine ⟨?_, rfl⟩
        show (Op.intDiv .rem k (Int.ofNat m) (Int.ofNat n)).run P w = _
        have hz : ¬ (Int.ofNat n = 0) := by simpa using hn
        simp only [Op.intDiv, if_neg hz]
        rfl
    · rename_i m n
      split at h
      · cases h
      · rename_i hn
        have hn : n ≠ 0 := fun e => by subst e; simp at hn
        cases h
        refine ⟨?_, rfl⟩
        show (Op.intDiv .rem k (Int.negSucc m) (Int.ofNat n)).run P w = _
        have hz : ¬ (Int.ofNat n = 0) := by simpa using hn
        simp only [Op.intDiv, if_neg hz]
        rfl
    · cases h
  case and =>
    unfold bitsF at h
    split at h
    · rename_i m n
      split at h
      · rename_i hm
        have hm := blt_lt hm
        split at h
        · rename_i hn
          have hn := blt_lt hn
          cases h
          refine ⟨?_, rfl⟩
          have hbits : posL k ≤ 2 ^ k.bits := by cases k <;> simp [posL, IntKind.bits]
          have e1 : BitVec.ofInt k.bits (Int.ofNat m) = BitVec.ofNat k.bits m := by simp
          have e2 : BitVec.ofInt k.bits (Int.ofNat n) = BitVec.ofNat k.bits n := by simp
          have hle : m &&& n ≤ m := Nat.and_le_left
          have e3 : (BitVec.ofNat k.bits m &&& BitVec.ofNat k.bits n).toNat = m &&& n := by
            rw [BitVec.toNat_and, BitVec.toNat_ofNat, BitVec.toNat_ofNat, Nat.mod_eq_of_lt (by omega), Nat.mod_eq_of_lt (by omega)]
          have hw : k.wrap (.ofNat (m &&& n)) = .ofNat (m &&& n) := wrap_small (by omega)
          show (Op.intBits .and k (Int.ofNat m) (Int.ofNat n)).run P w = _
          simp only [Op.intBits, e1, e2, Sem.run_pure]
          rw [e3]
          show Result.ok (Value.int k (k.wrap (.ofNat (m &&& n)))) w = _
          rw [hw]; rfl
        · cases h
      · cases h
    · cases h
  case shl => exact absurd rfl h1
  case shr => exact absurd rfl h2
  case eql => cases h; exact ⟨by rw [eqI_eq]; rfl, rfl⟩
  case neq => cases h; exact ⟨by rw [eqI_eq]; rfl, rfl⟩
  case lss => cases h; exact ⟨by rw [ltI_eq]; rfl, rfl⟩
  case leq => cases h; exact ⟨by rw [ltI_eq, ← leI]; rfl, rfl⟩
  case gtr => cases h; exact ⟨by rw [ltI_eq]; rfl, rfl⟩
  case geq => cases h; exact ⟨by rw [ltI_eq, ← leI]; rfl, rfl⟩
  all_goals cases h

theorem binFast_eq (op : BinOp) (x y : Value) : binFast op x y = binFast' op x y := by
  cases x <;> try rfl
  cases y <;> try rfl
  rename_i k a k' b
  show Bool.rec (motive := fun _ => BinOp → IntKind → Int → Int → Option Value) _ _ (Nat.beq (kindN k) (kindN k')) op k a b = _
  unfold binFast'
  simp only []
  cases Nat.beq (kindN k) (kindN k') with
  | false => rfl
  | true => cases op <;> rfl
theorem binFast_ok {op : BinOp} {x y r : Value} (h : binFast op x y = some r) (t : TypeId) (X Y : Operand) :
    (do eqGuard op t X Y x y; binOp op t x y : Sem Value).run P w = .ok r w ∧ atom x = true ∧ atom y = true ∧ atom r = true := by
  rw [binFast_eq] at h
  unfold binFast' at h
  split at h
  · rename_i k a k' b
    simp only [Sem.run_bind, run_eqGuard_int, Result.andThen_ok]
    split at h
    · rename_i hk
      obtain rfl := kindN_inj hk
      split at h
      · cases h
      · cases h
      · rename_i h1 h2
        obtain ⟨h3, h4⟩ := fastC_ok (P := P) (w := w) h (fun e => h1 e) (fun e => h2 e) t
        exact ⟨h3, rfl, rfl, h4⟩
    · cases h
  · cases h

def nonum : Value → Bool
  | .pointer _ | .slice .. | .map _ | .func .. | .nilFunc => true
  | _ => false
theorem binOp_nonum {x y : Value} (hx : nonum x = true) (hy : nonum y = true) (t : TypeId) (X Y : Operand) :
    (do eqGuard .eql t X Y x y; binOp .eql t x y : Sem Value).run P w = ((Op.equal t x y).run P w).andThen (fun b w' => .ok (.bool b) w') ∧
    (do eqGuard .neq t X Y x y; binOp .neq t x y : Sem Value).run P w = ((Op.equal t x y).run P w).andThen (fun b w' => .ok (.bool !b) w') := by
  have h1 : binOp .eql t x y = (do pure (Value.bool (← Op.equal t x y))) := by
    cases x <;> cases y <;> first | (cases hx; done) | (cases hy; done) | rfl
  have h2 : binOp .neq t x y = (do pure (Value.bool !(← Op.equal t x y))) := by
    cases x <;> cases y <;> first | (cases hx; done) | (cases hy; done) | rfl
  have h3 : ∀ op, (op = .eql ∨ op = .neq) → (eqGuard op t X Y x y).run P w = .ok () w := by
    intro op hop
    rcases hop with rfl | rfl <;> cases x <;> cases y <;> first | (cases hx; done) | (cases hy; done) | rfl
  rw [h1, h2]
  constructor
  · rw [Sem.run_bind, h3 _ (.inl rfl), Result.andThen_ok, Sem.run_bind]; rfl
  · rw [Sem.run_bind, h3 _ (.inr rfl), Result.andThen_ok, Sem.run_bind]; rfl
theorem equal_ok {t : TypeId} {x y x' y' : Value} {b : Bool} (h : eqNil P t x y = some b) (hx : VR β x x') (hy : VR β y y') :
    (Op.equal t x' y').run P w = .ok b w ∧ nonum x' = true ∧ nonum y' = true := by
  obtain ⟨d, hE⟩ := equal_succ
  rw [hE]
  unfold eqNil at h
  split at h <;> cases h <;> rename_i hu <;> cases hx <;> cases hy <;> (try (simp [atom] at *; done)) <;>
    refine ⟨?_, rfl, rfl⟩ <;>
    (unfold Op.equalIn; rw [Sem.run_bind, run_underlying hu]; rfl)
theorem eqNil_ok {t : TypeId} {x y x' y' : Value} {b : Bool} (h : eqNil P t x y = some b) (hx : VR β x x') (hy : VR β y y') (X Y : Operand) :
    (do eqGuard .eql t X Y x' y'; binOp .eql t x' y' : Sem Value).run P w = .ok (.bool b) w ∧ (do eqGuard .neq t X Y x' y'; binOp .neq t x' y' : Sem Value).run P w = .ok (.bool !b) w := by
  obtain ⟨h1, h2, h3⟩ := equal_ok (w := w) h hx hy
  obtain ⟨h4, h5⟩ := binOp_nonum (P := P) (w := w) h2 h3 t X Y
  rw [h4, h5, h1]
  exact ⟨rfl, rfl⟩

theorem binNil_ok {op : BinOp} {t : TypeId} {x y x' y' r : Value} (h : binNil P op t x y = some r) (hx : VR β x x') (hy : VR β y y') (X Y : Operand) :
    (do eqGuard op t X Y x' y'; binOp op t x' y' : Sem Value).run P w = .ok r w ∧ atom r = true := by
  unfold binNil at h
  split at h
  · cases hb : eqNil P t x y with
    | none => simp [hb] at h
    | some b => simp [hb] at h; subst h; exact ⟨(eqNil_ok hb hx hy X Y).1, rfl⟩
  · cases hb : eqNil P t x y with
    | none => simp [hb] at h
    | some b => simp [hb] at h; subst h; exact ⟨(eqNil_ok hb hx hy X Y).2, rfl⟩
  · cases h

/-! ### Structs of whole numbers -/
theorem thenB_true {b : Bool} {r : Option Bool} {c : Bool} (h : thenB b r = some c) : (b = true ∧ r = some c) ∨ (b = false ∧ c = false) := by
  cases b with
  | true => exact .inl ⟨rfl, h⟩
  | false => exact .inr ⟨rfl, (Option.some.inj h).symm⟩
theorem cmpL_nc {f : Value → Value → Option Bool} (y : Value) (t : List Value) : cmpL f [] (y :: t) = none := rfl
theorem cmpL_cn {f : Value → Value → Option Bool} (x : Value) (l : List Value) : cmpL f (x :: l) [] = none := rfl
theorem cmpL_cc {f : Value → Value → Option Bool} (x : Value) (l : List Value) (y : Value) (t : List Value) : cmpL f (x :: l) (y :: t) = (match f x y with
      | some b => thenB b (cmpL f l t)
      | none => none) := by
  show Option.rec (motive := fun _ => Option Bool) none (fun b => thenB b (cmpL f l t)) (f x y) = _
  cases f x y <;> rfl
theorem run_if_f {α : Type} {c : Bool} {s t : Sem α} (h : c = false) : (if c = true then s else t).run P w = t.run P w := by rw [h]; simp
theorem cmpI_spec {x y : Value} {b : Bool} (h : cmpI x y = some b) : ∃ k a c, x = .int k a ∧ y = .int k c ∧ b = eqI a c := by
  unfold cmpI at h
  split at h
  · split at h
    · rename_i hk
      obtain rfl := kindN_inj hk
      exact ⟨_, _, _, rfl, rfl, (Option.some.inj h).symm⟩
    · cases h
  · cases h
/-- What two rows of whole numbers say of each other. -/
def Cmps : List Value → List Value → Bool → Prop
  | [], [], b => b = true
  | x :: l, y :: k, b => ∃ c, cmpI x y = some c ∧ ((c = true ∧ Cmps l k b) ∨ (c = false ∧ b = false))
  | _, _, _ => False
theorem equal_int {t : TypeId} {n : Nat} {k : IntKind} {a c : Int} {i : IntKind} (hu : P.underlying t = some (.int i)) : (Op.equalIn (n + 1) t (.int k a) (.int k c)).run P w = .ok (eqI a c) w := by
  unfold Op.equalIn; rw [Sem.run_bind, run_underlying hu, eqI_eq]; simp
theorem fldI_spec {f : Field} {i : Nat} (h : fldI P f i = true) : ∃ k, P.underlying f.type = some (.int k) ∧ lay P f.type = some (1, false) ∧ f.offset = i ∧ f.name ≠ "_" := by
  unfold fldI at h
  split at h
  · rename_i k n h1 h2
    simp only [Bool.and_eq_true, bne_iff_ne] at h
    obtain rfl := Nat.eq_of_beq_eq_true h.1
    exact ⟨k, h1, h2, Nat.eq_of_beq_eq_true h.2.1, h.2.2⟩
  · cases h
theorem cmps_of {f : Value → Value → Option Bool} (hf : ∀ x y b, f x y = some b → cmpI x y = some b) : ∀ {l k : List Value} {b : Bool}, cmpL f l k = some b → Cmps l k b
  | [], [], b, h => (Option.some.inj h).symm
  | [], y :: t, b, h => by rw [cmpL_nc] at h; cases h
  | x :: l, [], b, h => by rw [cmpL_cn] at h; cases h
  | x :: l, y :: t, b, h => by
    rw [cmpL_cc] at h
    split at h
    · rename_i c hc
      refine ⟨c, hf _ _ _ hc, ?_⟩
      rcases thenB_true h with ⟨h1, h2⟩ | ⟨h1, h2⟩
      · exact .inl ⟨h1, cmps_of hf h2⟩
      · exact .inr ⟨h1, h2⟩
    · cases h
theorem run_part1 {t : TypeId} (hl : lay P t = some (1, false)) {cs : List Value} {off : Nat} {v : Value} (hg : cs[off]? = some v) : (part t ⟨cs⟩ off).run P w = .ok v w := by
  obtain ⟨i, d, hi, hd, _, hag⟩ := lay_spec hl
  simp [part, run_isAgg hd, hag, hg]
theorem struct_loop {g : Field → (Option Bool × Unit) → Sem (ForInStep (Option Bool × Unit))} {xs ys : List Value} {b : Bool}
    (hg : ∀ f i v1 v2 c, fldI P f i = true → xs[i]? = some v1 → ys[i]? = some v2 → cmpI v1 v2 = some c → ∀ s, (g f s).run P w = .ok (if c then .yield (none, ()) else .done (some false, ())) w) :
    ∀ (fl : List Field) (i : Nat), fldsI P fl i = true → Cmps (xs.drop i) (ys.drop i) b → (xs.drop i).length = fl.length →
    (forIn fl (none, ()) g).run P w = .ok ((if b then none else some false), ()) w
  | [], i, _, hc, hl => by
    have hx : xs.drop i = [] := List.eq_nil_of_length_eq_zero hl
    rw [hx] at hc
    cases hy : ys.drop i with
    | nil => rw [hy] at hc; cases (show b = true from hc); rfl
    | cons y t => rw [hy] at hc; exact hc.elim
  | f :: fl, i, hf, hc, hl => by
    simp only [fldsI, Bool.and_eq_true] at hf
    cases hx : xs.drop i with
    | nil => rw [hx] at hl; cases hl
    | cons x l =>
      cases hy : ys.drop i with
      | nil => rw [hx, hy] at hc; exact hc.elim
      | cons y t =>
        rw [hx, hy] at hc
        obtain ⟨c, h1, h2⟩ := hc
        have gx : xs[i]? = some x := by have := List.getElem?_drop (xs := xs) (i := i) (j := 0); rw [hx] at this; simpa using this.symm
        have gy : ys[i]? = some y := by have := List.getElem?_drop (xs := ys) (i := i) (j := 0); rw [hy] at this; simpa using this.symm
        rw [List.forIn_cons, Sem.run_bind, hg f i x y c hf.1 gx gy h1, Result.andThen_ok]
        have hx' : xs.drop (i + 1) = l := by rw [← List.tail_drop, hx]; rfl
        have hy' : ys.drop (i + 1) = t := by rw [← List.tail_drop, hy]; rfl
        rcases h2 with ⟨rfl, h2⟩ | ⟨rfl, rfl⟩
        · exact struct_loop hg fl (i + 1) hf.2 (by rw [hx', hy']; exact h2) (by rw [hx']; rw [hx] at hl; simpa using hl)
        · rfl
theorem equal_str {t : TypeId} {fs : Array Field} (hu : P.underlying t = some (.struct fs)) (hst : P.stoodInHeld t = false) (hf : fldsI P fs.toList 0 = true) {xs ys : List Value} {b : Bool} (hc : Cmps xs ys b) (hl : xs.length = fs.size) (d : Nat) :
    (Op.equalIn (d + 2) t (.agg ⟨xs⟩) (.agg ⟨ys⟩)).run P w = .ok b w := by
  unfold Op.equalIn
  rw [Sem.run_bind, run_underlying hu, Result.andThen_ok]
  show Sem.run P (if P.stoodInHeld t = true then _ else _) w = _
  rw [run_if_f hst, ← Array.forIn_toList, Sem.run_bind, struct_loop (xs := xs) (ys := ys) (b := b) ?_ fs.toList 0 hf hc (by simpa using hl), Result.andThen_ok]
  · cases b <;> rfl
  · intro f i v1 v2 c h1 h2 h3 h4 s
    obtain ⟨k, g1, g2, g3, g4⟩ := fldI_spec h1
    obtain ⟨k', a, e, rfl, rfl, rfl⟩ := cmpI_spec h4
    subst g3
    rw [if_pos g4, Sem.run_bind, run_part1 g2 h2, Result.andThen_ok, Sem.run_bind, run_part1 g2 h3, Result.andThen_ok, Sem.run_bind, equal_int g1, Result.andThen_ok]
    cases eqI a e <;> rfl
theorem plainS_spec {t : TypeId} {n : Nat} (h : plainS P t = some n) : ∃ fs, P.underlying t = some (.struct fs) ∧ P.stoodInHeld t = false ∧ P.eqGuardType P.depth t = false ∧ fldsI P fs.toList 0 = true ∧ n = fs.size := by
  unfold plainS at h
  split at h
  · rename_i fs hu
    split at h
    · rename_i hc
      simp only [Bool.and_eq_true, Bool.not_eq_true'] at hc
      exact ⟨fs, hu, hc.1, hc.2.1, hc.2.2, (Option.some.inj h).symm⟩
    · cases h
  · cases h
/-- Two structs of whole numbers, compared. -/
theorem eqStr_run {t : TypeId} {n : Nat} (hp : plainS P t = some n) {f : Value → Value → Option Bool} (hf : ∀ x y b, f x y = some b → cmpI x y = some b) {x y : Value} {b : Bool} (h : eqStr f n x y = some b) :
    (Op.equal t x y).run P w = .ok b w ∧ ∃ l k, x = .agg ⟨l⟩ ∧ y = .agg ⟨k⟩ := by
  obtain ⟨fs, h1, h2, h3, h4, h5⟩ := plainS_spec hp
  unfold eqStr at h
  split at h
  · rename_i l k
    split at h
    · rename_i hl
      have hl := Nat.eq_of_beq_eq_true hl
      rw [lenL_eq] at hl
      refine ⟨?_, l, k, rfl, rfl⟩
      show (Op.equalIn (9998 + 2) t (.agg ⟨l⟩) (.agg ⟨k⟩)).run P w = _
      exact equal_str h1 h2 h4 (cmps_of hf h) (by rw [hl, h5]) 9998
    · cases h
  · cases h
theorem strOp_run {t : TypeId} {n : Nat} (hp : plainS P t = some n) {l k : List Value} {b : Bool} (h : (Op.equal t (.agg ⟨l⟩) (.agg ⟨k⟩)).run P w = .ok b w) (X Y : Operand) :
    (do eqGuard .eql t X Y (.agg ⟨l⟩) (.agg ⟨k⟩); binOp .eql t (.agg ⟨l⟩) (.agg ⟨k⟩) : Sem Value).run P w = .ok (.bool b) w ∧ (do eqGuard .neq t X Y (.agg ⟨l⟩) (.agg ⟨k⟩); binOp .neq t (.agg ⟨l⟩) (.agg ⟨k⟩) : Sem Value).run P w = .ok (.bool !b) w := by
  obtain ⟨fs, h1, h2, h3, h4, h5⟩ := plainS_spec hp
  have e1 : binOp .eql t (.agg ⟨l⟩) (.agg ⟨k⟩) = (do pure (Value.bool (← Op.equal t (.agg ⟨l⟩) (.agg ⟨k⟩)))) := rfl
  have e2 : binOp .neq t (.agg ⟨l⟩) (.agg ⟨k⟩) = (do pure (Value.bool !(← Op.equal t (.agg ⟨l⟩) (.agg ⟨k⟩)))) := rfl
  have e3 : ∀ op, (op = .eql ∨ op = .neq) → (eqGuard op t X Y (.agg ⟨l⟩) (.agg ⟨k⟩)).run P w = .ok () w := by
    intro op hop
    have : ∃ s : Sem Unit, (eqGuard op t X Y (.agg ⟨l⟩) (.agg ⟨k⟩)).run P w = Sem.run P (if (!P.eqGuardType P.depth t) = true then pure () else s) w := by
      rcases hop with rfl | rfl <;> exact ⟨_, rfl⟩
    obtain ⟨s, hs⟩ := this
    rw [hs, h3]
    rfl
  rw [e1, e2]
  constructor
  · rw [Sem.run_bind, e3 _ (.inl rfl), Result.andThen_ok, Sem.run_bind, h]; rfl
  · rw [Sem.run_bind, e3 _ (.inr rfl), Result.andThen_ok, Sem.run_bind, h]; rfl

/-! Comparisons with symbols. -/
theorem cmpI_of_fast {x y : Value} {b : Bool} (h : binFast .eql x y = some (.bool b)) : cmpI x y = some b := by
  rw [binFast_eq] at h
  unfold binFast' at h
  split at h
  · rename_i k a k' c
    unfold cmpI
    split at h
    · rename_i hk
      simp only [hk]
      have h : some (Value.bool (eqI a c)) = some (.bool b) := h
      cases h; rfl
    · cases h
  · cases h
theorem cmpS_ok {x y x' y' : Value} {b : Bool} (h : cmpS x y = some b) (hx : VR β x x') (hy : VR β y y') : cmpI x' y' = some b := by
  unfold cmpS at h
  split at h
  · rename_i c hc
    obtain ⟨k, a, e, rfl, rfl, _⟩ := cmpI_spec hc
    rw [hx.of_atom rfl, hy.of_atom rfl, hc, ← h]
  · split at h
    · rename_i c hc
      cases h
      obtain ⟨v', g1, g2⟩ := Syms.binOk _ _ _ _ hc β _ _ hx hy
      rw [g1.of_atom rfl] at g2
      exact cmpI_of_fast g2
    · cases h
theorem VR.agg4 {l : List Value} {v' : Value} (h : VR β (.agg ⟨l⟩) v') : ∃ l', v' = .agg ⟨l'⟩ ∧ VRs β l l' := by
  cases h with
  | atom h => simp [Vx.atom] at h
  | agg h => exact ⟨_, rfl, h⟩
theorem cmpL_vr : ∀ {l l' : List Value}, VRs β l l' → ∀ {k k' : List Value}, VRs β k k' → ∀ {b : Bool}, cmpL cmpS l k = some b → cmpL cmpI l' k' = some b
  | _, _, .nil, _, _, .nil, b, h => h
  | _, _, .nil, _, _, .cons _ _, b, h => by rw [cmpL_nc] at h; cases h
  | _, _, .cons _ _, _, _, .nil, b, h => by rw [cmpL_cn] at h; cases h
  | _, _, .cons hx tx, _, _, .cons hy ty, b, h => by
    rw [cmpL_cc] at h ⊢
    split at h
    · rename_i c hc
      rw [cmpS_ok hc hx hy]
      rcases thenB_true h with ⟨rfl, h2⟩ | ⟨rfl, rfl⟩
      · exact cmpL_vr tx ty h2
      · rfl
    · cases h
theorem eqStr_vr {n : Nat} {x y x' y' : Value} {b : Bool} (h : eqStr cmpS n x y = some b) (hx : VR β x x') (hy : VR β y y') : eqStr cmpI n x' y' = some b := by
  unfold eqStr at h
  split at h
  · rename_i l k
    split at h
    · rename_i hl
      obtain ⟨l', rfl, h1⟩ := hx.agg4
      obtain ⟨k', rfl, h2⟩ := hy.agg4
      unfold eqStr
      simp only [lenL_eq] at hl ⊢
      rw [h1.length, hl]
      exact cmpL_vr h1 h2 h
    · cases h
  · cases h
theorem binStr_ok {op : BinOp} {t : TypeId} {x y x' y' r : Value} (h : binStr P op t x y = some r) (hx : VR β x x') (hy : VR β y y') (X Y : Operand) :
    (do eqGuard op t X Y x' y'; binOp op t x' y' : Sem Value).run P w = .ok r w ∧ atom r = true := by
  unfold binStr at h
  split at h
  · split at h
    · rename_i n hn
      split at h
      · rename_i b hb
        cases h
        obtain ⟨h1, l, k, rfl, rfl⟩ := eqStr_run (w := w) hn (f := cmpI) (fun _ _ _ h => h) (eqStr_vr hb hx hy)
        exact ⟨(strOp_run hn h1 X Y).1, rfl⟩
      · cases h
    · cases h
  · split at h
    · rename_i n hn
      split at h
      · rename_i b hb
        cases h
        obtain ⟨h1, l, k, rfl, rfl⟩ := eqStr_run (w := w) hn (f := cmpI) (fun _ _ _ h => h) (eqStr_vr hb hx hy)
        exact ⟨(strOp_run hn h1 X Y).2, rfl⟩
      · cases h
    · cases h
  · cases h

/-! ### Parts -/
theorem partL_spec {n : Nat} {g : Bool} {l : List Value} {off : Nat} {v : Value} (h : partL n g l off = some v) : (g = true ∧ v = .agg ⟨(l.drop off).take n⟩) ∨ (g = false ∧ l[off]? = some v) := by
  unfold partL at h
  split at h
  · cases h; exact .inl ⟨rfl, by rw [takeL_eq, dropL_eq]⟩
  · rw [nthL_eq] at h; exact .inr ⟨rfl, h⟩
theorem part_ok {t : TypeId} {n : Nat} {g : Bool} (hl : lay P t = some (n, g)) {l l' : List Value} (h : VRs β l l') {off : Nat} {v : Value} (hp : partL n g l off = some v) :
    ∃ v', (part t ⟨l'⟩ off).run P w = .ok v' w ∧ VR β v v' := by
  obtain ⟨i, d, hi, hd, rfl, rfl⟩ := lay_spec hl
  rcases partL_spec hp with ⟨hag, rfl⟩ | ⟨hag, hu⟩
  · refine ⟨.agg ⟨(l'.drop off).take i.size⟩, ?_, .agg ((h.drop off).take _)⟩
    have : (⟨l'⟩ : Array Value).extract off (off + i.size) = ⟨(l'.drop off).take i.size⟩ := by
      apply Array.ext'
      simp [List.extract_eq_take_drop]
    simp only [part, Sem.run_bind, run_isAgg hd, Result.andThen_ok, hag, if_true, run_size hi, Sem.run_pure, this]
  · obtain ⟨v', h1, h2⟩ := h.get? hu
    refine ⟨v', ?_, h2⟩
    simp [part, run_isAgg hd, hag, h1]

theorem intN_eq (v : Value) : intN v = intN' v := by
  cases v <;> try rfl
  rename_i k n
  cases n <;> rfl
theorem intN_spec {v : Value} {n : Nat} (h : intN v = some n) : ∃ k, v = .int k (n : Int) := by
  rw [intN_eq] at h
  unfold intN' at h
  split at h
  · cases h; exact ⟨_, rfl⟩
  · cases h

/-- The cells of a value are laid into a row. -/
theorem fold_splice (off : Nat) : ∀ (l : List Value) (k : Nat) (cs : Array Value), off + k + l.length ≤ cs.size →
    ((l.zipIdx k).foldl (fun cs (c, j) => cs.setIfInBounds (off + j) c) cs).toList = splice cs.toList (off + k) l
  | [], k, cs, _ => by simp [splice_eq]
  | x :: l, k, cs, h => by
    simp only [List.length_cons] at h
    simp only [List.zipIdx_cons, List.foldl_cons]
    rw [fold_splice off l (k + 1) _ (by simp; omega)]
    rw [splice_eq, splice_eq, Array.toList_setIfInBounds]
    have hlt : off + k < cs.toList.length := by simp; omega
    have h1 : (cs.toList.set (off + k) x).take (off + (k + 1)) = cs.toList.take (off + k) ++ [x] := by
      rw [show off + (k + 1) = off + k + 1 from rfl, List.take_add_one, List.take_set_of_le (by omega)]
      simp
      exact List.getElem?_set_self hlt
    have h2 : (cs.toList.set (off + k) x).drop (off + (k + 1) + l.length) = cs.toList.drop (off + k + (x :: l).length) := by
      rw [List.drop_set_of_lt (by omega)]
      simp only [List.length_cons]
      congr 1; omega
    rw [h1, h2]
    simp

theorem fill_ok {f : Nat → Option (Nat × Nat)} {e ρ : Operand → Value} : ∀ (ps : List (Nat × Operand)) {l : List (Nat × Nat × List Value)} {c c' out : List Value},
    (∀ p ∈ ps, VR β (e p.2) (ρ p.2)) → partsL f e ps = some l → fillL c l = some out → VRs β c c' →
    ∃ out', Instr.fill f ⟨c'⟩ (ps.map fun (i, x) => (i, ρ x)) = some ⟨out'⟩ ∧ VRs β out out'
  | [], l, c, c', out, _, hp, hf, hc => by
    simp [partsL] at hp; subst hp
    simp [fillL] at hf; subst hf
    exact ⟨c', rfl, hc⟩
  | (i, x) :: ps, l, c, c', out, hv, hp, hf, hc => by
    simp only [partsL] at hp
    split at hp
    · rename_i off n l0 h1 h2
      cases hp
      simp only [fillL] at hf
      split at hf
      · rename_i hcond
        simp only [Bool.and_eq_true, beq_iff_eq] at hcond
        have hle := Nat.le_of_ble_eq_true hcond.2
        have hx : VRs β (cellsL (e x)) (cellsL (ρ x)) := (hv (i, x) (by simp)).cellsL
        have hlen : (cellsL (ρ x)).length = n := by rw [hx.length]; exact hcond.1
        have hs := fold_splice off (cellsL (ρ x)) 0 ⟨c'⟩ (by simp; rw [hlen, hc.length]; omega)
        obtain ⟨out', h3, h4⟩ := fill_ok ps (fun p hp => hv p (by simp [hp])) h2 hf (hc.splice hx off)
        refine ⟨out', ?_, h4⟩
        simp only [List.map_cons, Instr.fill, h1, cells_eq]
        rw [if_neg (by simp; rw [hlen, hc.length]; omega)]
        rw [← h3]
        congr 1
        apply Array.ext'
        have he : (⟨cellsL (ρ x)⟩ : Array Value).zipIdx = ⟨(cellsL (ρ x)).zipIdx⟩ := by simp
        rw [he]
        simpa using hs
      · cases hf
    · cases hp

end
end Go.Vx
/-! What an operation does: the rest but calls. -/
namespace Go.Vx
variable [Syms]
open Go.RowKit

section
variable {P : Program} {B : Base} {β : Nat → Ren} {V : VW} {w : World}

theorem arr_get' {α : Type} (l : List α) (i : Nat) : (⟨l⟩ : Array α)[i]? = l[i]? := by simp
theorem zeroA {z : Value} {l : List Value} (h : cellsL z = l) : z.cells = ⟨l⟩ := by rw [cells_eq, h]

theorem run_alloc {t : TypeId} {l : List Value} (h : zeroL P t = some l) : (Instr.alloc t true (.tuple #[])).run P w = .ok (.pointer (some ⟨w.heap.size, 0, none⟩)) (w.alloc (.cells ⟨l⟩ t)) := by
  obtain ⟨i, z, hi, hz, hl, _⟩ := zeroL_spec h
  simp only [Instr.alloc, Sem.run_bind, run_zero hi hz, Result.andThen_ok, newVar, newRow, zeroA hl, run_newObj_alloc, Sem.run_pure]

theorem rep_length (z : List Value) : ∀ n, (rep z n).length = n * z.length
  | 0 => by simp [rep]
  | n + 1 => by simp [rep, rep_length z n, Nat.succ_mul, Nat.add_comm]

theorem rep_get (z : List Value) (hz : 0 < z.length) : ∀ n j, j < n * z.length → (rep z n)[j]? = z[j % z.length]?
  | 0, j, h => by simp at h
  | n + 1, j, h => by
    unfold rep
    rcases Nat.lt_or_ge j z.length with hj | hj
    · rw [List.getElem?_append_left hj, Nat.mod_eq_of_lt hj]
    · rw [List.getElem?_append_right hj, rep_get z hz n _ (by rw [Nat.succ_mul] at h; omega), ← Nat.mod_eq_sub_mod hj]

theorem rep_eq (z : List Value) (hz : 0 < z.length) (n : Nat) : ((Array.range (n * z.length)).map fun k => (⟨z⟩ : Array Value)[k % (⟨z⟩ : Array Value).size]!) = ⟨rep z n⟩ := by
  apply Array.ext'
  apply List.ext_getElem?
  intro j
  simp only [Array.toList_map, Array.toList_range]
  rw [List.getElem?_map]
  rcases Nat.lt_or_ge j (n * z.length) with hj | hj
  · rw [List.getElem?_range hj, rep_get z hz n j hj]
    have hm : j % z.length < z.length := Nat.mod_lt _ hz
    simp [List.getElem?_eq_getElem hm, hm]
  · rw [List.getElem?_eq_none (by simpa using hj), List.getElem?_eq_none (by rw [rep_length]; exact hj)]
    rfl

theorem places_ok : ∀ (fs : List Field), (∀ f ∈ fs, (P.info? f.type).isSome = true) → ∃ places, fs.mapM (fun f => (P.info? f.type).map fun i => (f.offset, i.size)) = some places ∧
    ∀ (i : Nat), places[i]? = (fs[i]?).bind fun (f : Field) => (sizeA P f.type).map fun n => (f.offset, n)
  | [], _ => ⟨[], by simp, by simp⟩
  | f :: fs, h => by
    obtain ⟨pl, h1, h2⟩ := places_ok fs (fun g hg => h g (by simp [hg]))
    obtain ⟨i, hi⟩ := Option.isSome_iff_exists.1 (h f (by simp))
    refine ⟨(f.offset, i.size) :: pl, by simp [List.mapM_cons, hi, h1], fun k => ?_⟩
    cases k with
    | zero => simp [sizeA, hi]
    | succ k => simpa using h2 k

theorem build_ok (h : WR P B β V w) {t : TypeId} {ps : Array (Nat × Operand)} {e ρ : Operand → Value} (hρ : ∀ p ∈ ps.toList, VR β (e p.2) (ρ p.2))
    {z : List Value} (hz : zeroL P t = some z) {l : List (Nat × Nat × List Value)} (hl : partsL (placeOf P t) e ps.toList = some l) (ha : allFieldsOk P t = true) {c : List Value} (hc : fillL z l = some c) :
    ∃ c', (Instr.build t (ps.map fun (i, x) => (i, ρ x))).run P w = .ok (.agg ⟨c'⟩) w ∧ VRs β c c' := by
  obtain ⟨i, zv, hi, hzv, hcl, hat⟩ := zeroL_spec hz
  obtain ⟨c', h1, h2⟩ := fill_ok ps.toList hρ hl hc (VRs.atoms hat)
  refine ⟨c', ?_, h2⟩
  have h1' : Instr.fill (placeOf P t) ⟨z⟩ (ps.toList.map fun x => (x.1, ρ x.2)) = some ⟨c'⟩ := by simpa using h1
  unfold allFieldsOk at ha
  split at ha
  · rename_i fs hu
    obtain ⟨pl, h3, h4⟩ := places_ok (P := P) fs.toList (fun f hf => by
      have := Array.all_eq_true_iff_forall_mem.1 ha f (by simpa using hf)
      exact this)
    have h5 : (fun i => (⟨pl⟩ : Array (Nat × Nat))[i]?) = placeOf P t := by
      funext k
      rw [arr_get', h4 k]
      unfold placeOf
      rw [hu]
      simp only [Array.getElem?_toList]
      cases fs[k]? <;> rfl
    have h6 := run_places (P := P) w _ _ h3
    simp only [Instr.build, Sem.run_bind, run_zero hi hzv, Result.andThen_ok, run_underlying hu, zeroA hcl, Array.mapM_eq_mapM_toList]
    have h5' : (fun i => pl[i]?) = placeOf P t := by rw [← h5]; funext k; exact (arr_get' pl k).symm
    simp [h6, h5', h1']
  · rename_i n el hu
    have h5 : ∃ s, sizeA P el = some s := Option.isSome_iff_exists.1 ha
    obtain ⟨s, hs⟩ := h5
    have h6 : (fun i => some (i * s, s)) = placeOf P t := by
      funext k
      unfold placeOf
      rw [hu]; simp [hs]
    simp only [Instr.build, Sem.run_bind, run_zero hi hzv, Result.andThen_ok, run_underlying hu, zeroA hcl]
    simp [run_sizeA hs, h6, h1']
  · cases ha

theorem fieldOf_spec {t : TypeId} {i : Nat} {f : Nat × Nat × Bool} (h : fieldOf P t i = some f) :
    ∃ fs fd, P.underlying t = some (.struct fs) ∧ fs[i]? = some fd ∧ fd.offset = f.1 ∧ lay P fd.type = some (f.2.1, f.2.2) := by
  unfold fieldOf at h
  split at h
  · rename_i fs hu
    split at h
    · rename_i fd hfd
      cases hl : lay P fd.type with
      | none => simp [hl] at h
      | some la => simp [hl] at h; subst h; exact ⟨fs, fd, hu, hfd, rfl, hl⟩
    · cases h
  · cases h
theorem arrE_spec {t : TypeId} {x : Nat × Nat × Bool} (h : arrE P t = some x) : ∃ el, P.underlying t = some (.array x.1 el) ∧ lay P el = some (x.2.1, x.2.2) := by
  unfold arrE at h
  split at h
  · rename_i n el hu
    cases hl : lay P el with
    | none => simp [hl] at h
    | some la => simp [hl] at h; subst h; exact ⟨el, hu, hl⟩
  · cases h
theorem aggOf_eq (v : Value) : aggOf v = aggOf' v := by
  cases v <;> try rfl
theorem aggOf_spec {v : Value} {l : List Value} (h : aggOf v = some l) : v = .agg ⟨l⟩ := by
  rw [aggOf_eq] at h
  unfold aggOf' at h
  split at h
  · cases h; rfl
  · cases h
theorem sliceOf_eq (v : Value) : sliceOf v = sliceOf' v := by
  cases v <;> try rfl
  rename_i a n c
  cases a with
  | none => rfl
  | some a => obtain ⟨b, off, sp⟩ := a; cases sp <;> rfl
theorem sliceOf_spec {v : Value} {s : (Nat × Nat) × Nat} (h : sliceOf v = some s) : ∃ c, v = .slice (some ⟨s.1.1, s.1.2, none⟩) s.2 c := by
  rw [sliceOf_eq] at h
  unfold sliceOf' at h
  split at h
  · cases h; exact ⟨_, rfl⟩
  · cases h
theorem VR.agg' {l : List Value} {v' : Value} (h : VR β (.agg ⟨l⟩) v') : ∃ l', v' = .agg ⟨l'⟩ ∧ VRs β l l' := by
  cases h with
  | atom h => simp [Vx.atom] at h
  | agg h => exact ⟨_, rfl, h⟩
theorem VR.tuple' {l : List Value} {v' : Value} (h : VR β (.tuple ⟨l⟩) v') : ∃ l', v' = .tuple ⟨l'⟩ ∧ VRs β l l' := by
  cases h with
  | atom h => simp [Vx.atom] at h
  | tuple h => exact ⟨_, rfl, h⟩
theorem VR.bool' {b : Bool} {v' : Value} (h : VR β (.bool b) v') : v' = .bool b := h.of_atom rfl
theorem VR.int' {k : IntKind} {n : Int} {v' : Value} (h : VR β (.int k n) v') : v' = .int k n := h.of_atom rfl
theorem VR.string' {s : ByteArray} {v' : Value} (h : VR β (.string s) v') : v' = .string s := h.of_atom rfl
/-- A pointer, alive or dead, moved on. -/
theorem VR.ptr_add {b off d : Nat} {v' : Value} (h : VR β (.pointer (some ⟨b, off, none⟩)) v') : ∃ a, v' = .pointer (some a) ∧ VR β (.pointer (some ⟨b, off + d, none⟩)) (.pointer (some (a.add d))) := by
  cases h with
  | atom h => simp [Vx.atom] at h
  | @ptr i rb cp sh o e =>
    refine ⟨_, rfl, ?_⟩
    rw [addr_add, show off + sh + d = off + d + sh from by omega]
    exact .ptr e
  | ptrD e => exact ⟨_, rfl, .ptrD e⟩
theorem VR.sl_add {b off n c d : Nat} {v' : Value} (h : VR β (.slice (some ⟨b, off, none⟩) n c) v') : ∃ a c', v' = .slice (some a) n c' ∧ VR β (.pointer (some ⟨b, off + d, none⟩)) (.pointer (some (a.add d))) := by
  cases h with
  | atom h => simp [Vx.atom] at h
  | @sl i rb cp sh o n c e hn hc =>
    refine ⟨_, _, rfl, ?_⟩
    rw [addr_add, show off + sh + d = off + d + sh from by omega]
    exact .ptr e
  | slD e _ _ => exact ⟨_, _, rfl, .ptrD e⟩

theorem Res.ofV (h : WR P B β V w) {s : Sem Next} {x : Option Value} {v : Value} {V' : VW} (hx : Vx.ofV V x = .val v V') (hk : ∀ u, x = some u → ∃ u', s.run P w = .ok (.value u') w ∧ VR β u u') : Res P B β w s v V' := by
  obtain ⟨h1, rfl⟩ := ofV_spec hx
  obtain ⟨u', h2, h3⟩ := hk v h1
  exact Res.of h h2 h3

/-- Numbers of an index. -/
theorem intN_real {v v' : Value} {n : Nat} (h : intN v = some n) (hv : VR β v v') : ∃ k, v' = .int k (n : Int) := by
  obtain ⟨k, rfl⟩ := intN_spec h
  exact ⟨k, hv.int'⟩

theorem fieldAddr_ok (h : WR P B β V w) {t : TypeId} {x : Operand} {i : Nat} {e ρ : Rho} (hx : VR β (e x) (ρ x)) {v : Value} {V' : VW} (hp : fieldAddrO t x i P e V = .val v V') :
    ∃ v', (Instr.fieldAt t (ρ x) i).run P w = .ok v' w ∧ VR β v v' ∧ V' = V := by
  unfold fieldAddrO at hp
  split at hp
  · rename_i f hf
    obtain ⟨fs, fd, hu, hfd, ho, hl⟩ := fieldOf_spec hf
    obtain ⟨ti, d, hi, hd, hsz, hag⟩ := lay_spec hl
    split at hp
    · rename_i bo hbo
      split at hp
      · cases hp
      · rename_i hn
        cases hp
        have hn : ¬ f.2.1 = 0 := fun e => by rw [e] at hn; simp at hn
        rw [blockOf_spec hbo] at hx
        obtain ⟨a, ha, hr⟩ := hx.ptr_add (d := f.1)
        rw [ha]
        refine ⟨_, ?_, hr, rfl⟩
        simp [Instr.fieldAt, run_underlying hu, hfd, Instr.sureAddr, fieldPlace, run_size hi, hsz, hn, ho]
    · cases hp
  · cases hp

theorem field_ok (h : WR P B β V w) {t : TypeId} {x : Operand} {i : Nat} {e ρ : Rho} (hx : VR β (e x) (ρ x)) {v : Value} {V' : VW} (hp : fieldO t x i P e V = .val v V') :
    ∃ v', (Instr.field t (ρ x) i).run P w = .ok v' w ∧ VR β v v' ∧ V' = V := by
  unfold fieldO at hp
  split at hp
  · rename_i f hf
    obtain ⟨fs, fd, hu, hfd, ho, hl⟩ := fieldOf_spec hf
    split at hp
    · rename_i l hl2
      obtain ⟨h1, rfl⟩ := ofV_spec hp
      rw [aggOf_spec hl2] at hx
      obtain ⟨l', e', hr⟩ := hx.agg'
      obtain ⟨v', h2, h3⟩ := part_ok (w := w) hl hr h1
      refine ⟨v', ?_, h3, rfl⟩
      simp [Instr.field, run_underlying hu, hfd, e', asAgg, ho, h2]
    · cases hp
  · cases hp

theorem indexAddr_ok (h : WR P B β V w) {t : TypeId} {x i : Operand} {e ρ : Rho} (hx : VR β (e x) (ρ x)) (hi : VR β (e i) (ρ i)) {v : Value} {V' : VW} (hp : indexAddrO t x i P e V = .val v V') :
    ∃ v', (Instr.indexAt t (ρ x) (ρ i)).run P w = .ok v' w ∧ VR β v v' ∧ V' = V := by
  unfold indexAddrO at hp
  split at hp
  · cases hp
  · rename_i j hj
    obtain ⟨k, hk⟩ := intN_real hj hi
    split at hp
    · rename_i es hes
      obtain ⟨el, sz⟩ := es
      obtain ⟨hu, hsz⟩ := elemS_spec hes
      split at hp
      · rename_i s hs
        split at hp
        · rename_i hlt
          have hlt := blt_lt hlt
          cases hp
          obtain ⟨c, hc⟩ := sliceOf_spec hs
          rw [hc] at hx
          obtain ⟨a, c', ha, hr⟩ := hx.sl_add (d := j * sz)
          rw [ha, hk]
          refine ⟨_, ?_, hr, rfl⟩
          simp [Instr.indexAt, asIntOf, run_underlying hu, run_sizeA hsz, hlt]
        · cases hp
      · cases hp
    · split at hp
      · rename_i ns hns
        obtain ⟨n, sz⟩ := ns
        obtain ⟨el, hu, hsz⟩ := arrP_spec hns
        split at hp
        · rename_i s hs
          split at hp
          · rename_i hlt
            have hlt := blt_lt hlt
            cases hp
            rw [blockOf_spec hs] at hx
            obtain ⟨a, ha, hr⟩ := hx.ptr_add (d := j * sz)
            rw [ha, hk]
            refine ⟨_, ?_, hr, rfl⟩
            simp only at hlt
            simp [Instr.indexAt, asIntOf, run_underlying hu, run_sizeA hsz, hlt, Instr.sureAddr]
          · cases hp
        · cases hp
      · cases hp

theorem buildSlice_ok (h : WR P B β V w) {t : TypeId} {n : Nat} {ps : Array (Nat × Operand)} {e ρ : Rho} (hρ : ∀ p ∈ ps.toList, VR β (e p.2) (ρ p.2)) {v : Value} {V' : VW} (hp : buildSliceO t n ps P e V = .val v V') :
    Res P B β w (do pure (Next.value (← Instr.buildSlice t n (ps.map fun (i, x) => (i, ρ x))))) v V' := by
  unfold buildSliceO at hp
  split at hp
  · rename_i el sz hes
    obtain ⟨hu, hsz⟩ := elemS_spec hes
    split at hp
    · rename_i z l hz hl
      split at hp
      · rename_i hc
        simp only [Bool.and_eq_true, beq_iff_eq] at hc
        have h0 := blt_lt hc.1.2
        have hb := Nat.le_of_ble_eq_true hc.2
        have hzl := hc.1.1
        split at hp
        · rename_i c hf
          obtain ⟨i, zv, hi, hzv, hcl, hat⟩ := zeroL_spec hz
          obtain ⟨c', h1, h2⟩ := fill_ok ps.toList hρ hl hf ((VRs.atoms (β := β) hat).rep n)
          have hm : (ps.map fun (i, x) => (i, ρ x)).toList = ps.toList.map fun (i, x) => (i, ρ x) := by simp
          have hrun : (Instr.buildSlice t n (ps.map fun (i, x) => (i, ρ x))).run P w = .ok (.slice (some ⟨w.heap.size, 0, none⟩) n n) (w.alloc (.cells ⟨c'⟩ el)) := by
            have hbig : ¬ (n * sz > 2 ^ 24) := by have : (2 : Nat) ^ 24 = 16777216 := rfl; omega
            have hrep : ((Array.range (n * sz)).map fun k => zv.cells[k % zv.cells.size]!) = ⟨rep z n⟩ := by
              rw [zeroA hcl, ← hzl]; exact rep_eq z (by omega) n
            simp only [Instr.buildSlice, Sem.run_bind, run_underlying hu, Result.andThen_ok, run_sizeA hsz, if_neg hbig, hm]
            by_cases hn : n * sz = 0
            · have hn0 : n = 0 := by rcases Nat.mul_eq_zero.1 hn with h | h <;> omega
              subst hn0
              simp only [rep] at h1 h2
              have h1'' : Instr.fill (fun i => some (i * sz, sz)) #[] (ps.toList.map fun x => (x.1, ρ x.2)) = some ⟨c'⟩ := by simpa using h1
              have hr0 : (Array.range 0 : Array Nat) = #[] := rfl
              simp only [Nat.zero_mul, hr0] at *
              simp [h1'', newRow]
            · rw [if_neg hn]
              simp only [Sem.run_bind, run_zero hi hzv, Result.andThen_ok, Sem.run_pure, hrep, h1, newRow, run_newObj_alloc]
          refine Res.new h hp 0 0 (ObjR.whole h2 (by simp)) (run_v hrun) fun β' hβ => ?_
          have hle : ¬ half ≤ n ∨ half ≤ n := by omega
          have : n < half := by
            have : n ≤ n * sz := Nat.le_mul_of_pos_right _ h0
            have : half = 4611686018427387904 := rfl
            omega
          have hcap : capR 0 n = n := if_pos this
          have := VR.sl (β := β') (i := V.size) (o := 0) (n := n) (c := n) hβ (by rw [hcap]; exact Nat.le_refl _) (fun hh => by omega)
          rw [hcap] at this
          exact this
        · cases hp
      · cases hp
    · cases hp
  · cases hp

theorem makeSlice_ok (h : WR P B β V w) {t : TypeId} {l c : Operand} {e ρ : Rho} (hl : VR β (e l) (ρ l)) (hc : VR β (e c) (ρ c)) {v : Value} {V' : VW} (hp : makeSliceO t l c P e V = .val v V') :
    Res P B β w (do pure (Next.value (← Instr.makeSlice t (ρ l) (ρ c)))) v V' := by
  unfold makeSliceO at hp
  split at hp
  · rename_i el sz ln cn hes hln hcn
    obtain ⟨hu, hsz⟩ := elemS_spec hes
    obtain ⟨kl, hl'⟩ := intN_real hln hl
    obtain ⟨kc, hc'⟩ := intN_real hcn hc
    split at hp
    · rename_i z hz
      split at hp
      · rename_i hcond
        simp only [Bool.and_eq_true, beq_iff_eq] at hcond
        obtain ⟨⟨⟨⟨hzl, h0⟩, hlc⟩, hbig⟩, hby⟩ := hcond
        have h0 := blt_lt h0
        have hlc := Nat.le_of_ble_eq_true hlc
        have hbig := Nat.le_of_ble_eq_true hbig
        have hby := Nat.le_of_ble_eq_true hby
        obtain ⟨i, zv, hi, hzv, hcl, hat⟩ := zeroL_spec hz
        have hbytes : i.bytes ≤ 4096 := by simpa [bytesA, hi] using hby
        have hcs : cn ≤ cn * sz := Nat.le_mul_of_pos_right _ h0
        have hmul : i.bytes * cn ≤ 4096 * 65536 := Nat.mul_le_mul hbytes (by omega)
        have hsi : i.size = sz := by
          have := hsz; simp [sizeA, hi] at this; exact this
        have hrun : (Instr.makeSlice t (ρ l) (ρ c)).run P w = .ok (.slice (some ⟨w.heap.size, 0, none⟩) ln cn) (w.alloc (.cells ⟨rep z cn⟩ el)) := by
          have wl : IntKind.i64.wrap (ln : Int) = (ln : Int) := by exact wrap_pos (k := .i64) (m := ln) (by simp only [posL]; omega)
          have wc : IntKind.i64.wrap (cn : Int) = (cn : Int) := by exact wrap_pos (k := .i64) (m := cn) (by simp only [posL]; omega)
          have n1 : ¬ ((cn : Int) < 0) := by omega
          have n2 : ¬ ((2 : Int) ^ 48 < (i.bytes : Int) * (cn : Int)) := by
            have e48 : (2 : Int) ^ 48 = 281474976710656 := rfl
            have : ((i.bytes * cn : Nat) : Int) = (i.bytes : Int) * (cn : Int) := by simp
            rw [← this, e48]; omega
          have n3 : ¬ ((ln : Int) < 0) := by omega
          have n4 : ¬ ((cn : Int) < (ln : Int)) := by omega
          have hrep : ((Array.range (cn * sz)).map fun k => zv.cells[k % zv.cells.size]!) = ⟨rep z cn⟩ := by
            rw [zeroA hcl, ← hzl]; exact rep_eq z (by omega) cn
          rw [hl', hc']
          simp only [Instr.makeSlice, Sem.run_bind, run_underlying hu, Result.andThen_ok, asInt, asIntOf, Sem.run_pure, run_info hi, wl, wc, gt_iff_lt, n1, n2, n3, n4, decide_false, Bool.or_false, Bool.false_or,
            Bool.false_eq_true, if_false, run_askRoom, run_sizeA hsz, Int.toNat_natCast]
          by_cases hn : cn * sz = 0
          · have hn0 : cn = 0 := by rcases Nat.mul_eq_zero.1 hn with h | h <;> omega
            subst hn0
            have hr0 : (Array.range 0 : Array Nat) = #[] := rfl
            simp only [Nat.zero_mul, hr0] at *
            simp [newRow, rep]
          · rw [if_neg hn]
            simp only [Sem.run_bind, run_zero hi hzv, Result.andThen_ok, Sem.run_pure, hrep, newRow, run_newObj_alloc]
        refine Res.new h hp 0 0 (ObjR.whole ((VRs.atoms (β := β) hat).rep cn) (by simp)) (run_v hrun) fun β' hβ => ?_
        have : cn < half := by have : half = 4611686018427387904 := rfl; omega
        have hcap : capR 0 cn = cn := if_pos this
        have := VR.sl (β := β') (i := V.size) (o := 0) (n := ln) (c := cn) hβ (by rw [hcap]; exact hlc) (fun hh => by omega)
        rw [hcap] at this
        exact this
      · cases hp
    · cases hp
  · cases hp
end
end Go.Vx
set_option linter.unusedVariables false
set_option linter.unusedSimpArgs false
set_option linter.unusedSectionVars false
/-! What an operation does: slices, maps, texts; all of them. -/
namespace Go.Vx
variable [Syms]
open Go.RowKit

section
variable {P : Program} {B : Base} {β : Nat → Ren} {V : VW} {w : World}

/-! ### Slices -/
theorem run_bound {k : IntKind} {n y : Nat} (h : n ≤ y) (code : BoundsCode) : (Instr.sliceBound (.int k (n : Int)) y code).run P w = .ok n w := by
  have h1 : (n : Int) ≤ (y : Int) := by omega
  simp [Instr.sliceBound, asIntOf, h]

/-- An end of a slice: none, or a number. -/
inductive BR : Nat → Option Value → Nat → Prop where
  | none {d : Nat} : BR d none d
  | some {d n : Nat} {k : IntKind} : BR d (some (.int k (n : Int))) n

theorem loN_real {d n : Nat} {o : Option Operand} {e ρ : Rho} (h : loN d (o.map e) = some n) (hv : ∀ x, o = some x → VR β (e x) (ρ x)) : BR d (o.map ρ) n := by
  cases o with
  | none => cases h; exact .none
  | some x =>
    obtain ⟨k, hk⟩ := intN_real (h : intN (e x) = some n) (hv x rfl)
    show BR d (some (ρ x)) n
    rw [hk]; exact .some

theorem run_bounds2 {s : Bool} {len cap l h : Nat} {lo hi : Option Value} (hl : BR 0 lo l) (hh : BR len hi h) (h1 : l ≤ h) (h2 : h ≤ cap) :
    (Instr.sliceBounds s len cap lo hi none).run P w = .ok (l, h, cap) w := by
  cases hl <;> cases hh <;> simp [Instr.sliceBounds, run_bound h1, run_bound h2]

theorem run_bounds3 {s : Bool} {len cap l h m : Nat} {lo : Option Value} {k k' : IntKind} (hl : BR 0 lo l) (h1 : l ≤ h) (h2 : h ≤ m) (h3 : m ≤ cap) :
    (Instr.sliceBounds s len cap lo (some (.int k (h : Int))) (some (.int k' (m : Int)))).run P w = .ok (l, h, m) w := by
  cases hl <;> simp [Instr.sliceBounds, run_bound h1, run_bound h2, run_bound h3]

theorem run_sliceAt {t e : TypeId} {a : Option Addr} {len cap l h m sz : Nat} {lo hi mx : Option Value} (hu : P.underlying t = some (.slice e)) (hs : sizeA P e = some sz)
    (hb : (Instr.sliceBounds true len cap lo hi mx).run P w = .ok (l, h, m) w) :
    (Instr.sliceAt t (.slice a len cap) lo hi mx).run P w = .ok (.slice (if m = l then a else a.map (·.add (l * sz))) (h - l) (m - l)) w := by
  simp only [Instr.sliceAt, Sem.run_bind, run_underlying hu, Result.andThen_ok, Instr.slice, hb, run_sizeA hs, Sem.run_pure]

theorem half_eq : half = 4611686018427387904 := rfl
theorem BIG_eq : BIG = 9223372036854775808 := rfl

/-- A slice of a slice whose rest has a known end. -/
theorem sl_part {b off len cap l h m sz : Nat} {v' : Value} (hv : VR β (.slice (some ⟨b, off, none⟩) len cap) v') (hlh : l ≤ h) (hhm : h ≤ m) (hm : m ≤ len ∨ m ≤ cap ∧ cap < half) (hlen : m < half) :
    ∃ a c', v' = .slice (some a) len c' ∧ m ≤ c' ∧ VR β (.slice (some ⟨b, if m = l then off else off + l * sz, none⟩) (h - l) (m - l)) (.slice (if m = l then some a else (some a).map (·.add (l * sz))) (h - l) (m - l)) := by
  have hml : m - l < half := by omega
  cases hv with
  | atom h => simp [Vx.atom] at h
  | @sl i rb cp sh o n c e hn hc =>
    refine ⟨_, _, rfl, ?_, ?_⟩
    · rcases hm with hm | ⟨hm, hc'⟩
      · omega
      · rw [show capR cp cap = cap from if_pos hc']; exact hm
    · have hcap : capR cp (m - l) = m - l := if_pos hml
      by_cases hl : m = l
      · rw [if_pos hl, if_pos hl]
        have := VR.sl (β := β) (o := off) (n := h - l) (c := m - l) e (by rw [hcap]; omega) (fun hh => by omega)
        rw [hcap] at this; exact this
      · rw [if_neg hl, if_neg hl]
        show VR β _ (.slice (some ((⟨rb, off + sh, none⟩ : Addr).add (l * sz))) _ _)
        rw [addr_add, show off + sh + l * sz = off + l * sz + sh from by omega]
        have := VR.sl (β := β) (o := off + l * sz) (n := h - l) (c := m - l) e (by rw [hcap]; omega) (fun hh => by omega)
        rw [hcap] at this; exact this
  | slD e hn hc =>
    refine ⟨_, _, rfl, ?_, ?_⟩
    · rcases hm with hm | ⟨hm, hc'⟩
      · omega
      · rw [hc hc']; exact hm
    · by_cases hl : m = l
      · rw [if_pos hl, if_pos hl]; exact .slD e (by omega) (fun _ => rfl)
      · rw [if_neg hl, if_neg hl]; exact .slD e (by omega) (fun _ => rfl)

theorem slice_ok (h : WR P B β V w) {t : TypeId} {x : Operand} {lo hi mx : Option Operand} {e ρ : Rho} (hx : VR β (e x) (ρ x)) (hlo : ∀ y, lo = some y → VR β (e y) (ρ y)) (hhi : ∀ y, hi = some y → VR β (e y) (ρ y))
    (hmx : ∀ y, mx = some y → VR β (e y) (ρ y)) {v : Value} {V' : VW} (hp : sliceGo P t V (e x) (lo.map e) (hi.map e) (mx.map e) = .val v V') :
    ∃ v', (Instr.sliceAt t (ρ x) (lo.map ρ) (hi.map ρ) (mx.map ρ)).run P w = .ok v' w ∧ VR β v v' ∧ V' = V := by
  unfold sliceGo at hp
  split at hp
  · rename_i el sz a len cap hes hex
    obtain ⟨hu, hsz⟩ := elemS_spec hes
    rw [hex] at hx
    obtain ⟨y, hy⟩ : ∃ y, ρ x = y := ⟨_, rfl⟩
    rw [hy] at hx ⊢
    split at hp
    · rename_i l hh hlo' hhi'
      have bl := loN_real hlo' hlo
      have bh := loN_real hhi' hhi
      split at hp
      · cases hp
      · rename_i hlh
        have hlh : l ≤ hh := by simp at hlh; exact hlh
        split at hp
        · rename_i hmn
          have hmx0 : mx = none := by cases mx <;> simp_all
          subst hmx0
          split at hp
          · rename_i hcap
            have hcap := blt_lt hcap
            split at hp
            · rename_i hhc
              have hhc := Nat.le_of_ble_eq_true hhc
              split at hp
              · rename_i b off
                cases hp
                obtain ⟨a', c', hv', hmc, hr⟩ := sl_part (sz := sz) hx hlh hhc (.inr ⟨Nat.le_refl _, hcap⟩) hcap
                have hc' : c' = cap := by
                  cases hx with
                  | atom h => simp [Vx.atom] at h
                  | sl e hn hc => cases hv'; exact if_pos hcap
                  | slD e hn hc => cases hv'; exact hc hcap
                subst hc'
                refine ⟨_, by rw [hv']; exact run_sliceAt hu hsz (run_bounds2 bl bh hlh hhc), ?_, rfl⟩
                simpa using hr
              · rename_i heq
                cases hp
                have hv' : y = .slice none len cap := hx.of_atom rfl
                refine ⟨_, by rw [hv']; exact run_sliceAt hu hsz (run_bounds2 bl bh hlh hhc), ?_, rfl⟩
                by_cases hml : cap = l
                · rw [if_pos hml]; exact .atom rfl
                · rw [if_neg hml]; exact .atom rfl
              · cases hp
            · cases hp
          · rename_i hcap
            have hcap : half ≤ cap := by
              rcases Nat.lt_or_ge cap half with hc | hc
              · rw [blt_tt hc] at hcap; exact absurd rfl hcap
              · exact hc
            split at hp
            · cases hp
            · rename_i hhl
              have hhl : hh ≤ len := by simp at hhl; exact hhl
              split at hp
              · rename_i b off
                split at hp
                · rename_i hl0
                  have hl0 : l = 0 := by simpa using hl0
                  subst hl0
                  cases hp
                  cases hx with
                  | atom h => simp [Vx.atom] at h
                  | @sl i rb cp sh o n c e hn hc =>
                    refine ⟨_, run_sliceAt hu hsz (run_bounds2 bl bh hlh (by omega)), ?_, rfl⟩
                    have hadd : (if capR cp cap = 0 then (some (⟨rb, off + sh, none⟩ : Addr)) else (some (⟨rb, off + sh, none⟩ : Addr)).map (·.add (0 * sz))) = some ⟨rb, off + sh, none⟩ := by
                      split
                      · rfl
                      · simp [addr_add]
                    rw [hadd]
                    exact .sl e (by omega) hc
                  | @slD i o n c c' a' e hn hc =>
                    refine ⟨_, run_sliceAt hu hsz (run_bounds2 bl bh hlh (by omega)), ?_, rfl⟩
                    split
                    · exact .slD e (by omega) (fun hh => by omega)
                    · exact .slD e (by omega) (fun hh => by omega)
                · split at hp
                  · rename_i hl0 hcond
                    simp only [Bool.and_eq_true] at hcond
                    have hll := blt_lt hcond.1
                    have hlc := Nat.le_of_ble_eq_true hcond.2
                    cases hp
                    cases hx with
                    | atom h => simp [Vx.atom] at h
                    | @sl i rb cp sh o n c e hn hc =>
                      refine ⟨_, run_sliceAt hu hsz (run_bounds2 bl bh hlh (by omega)), ?_, rfl⟩
                      obtain ⟨hc1, hc2⟩ := hc hcap
                      have hcr : capR cp cap = cp - (BIG - cap) := if_neg (by omega)
                      have hne : ¬ capR cp cap = l := by omega
                      rw [if_neg hne]
                      show VR β _ (.slice (some ((⟨rb, off + sh, none⟩ : Addr).add (l * sz))) _ _)
                      rw [addr_add, show off + sh + l * sz = off + l * sz + sh from by omega]
                      have hcr2 : capR cp (cap - l) = capR cp cap - l := by
                        rw [hcr]; unfold capR; rw [if_neg (by omega)]; omega
                      rw [← hcr2]
                      exact .sl e (by rw [hcr2]; omega) (fun _ => ⟨by omega, by omega⟩)
                    | @slD i o n c c' a' e hn hc =>
                      refine ⟨_, run_sliceAt hu hsz (run_bounds2 bl bh hlh (by omega)), ?_, rfl⟩
                      split
                      · exact .slD e (by omega) (fun hh => by omega)
                      · exact .slD e (by omega) (fun hh => by omega)
                  · cases hp
              · cases hp
        · rename_i mv hmv
          obtain ⟨my, hmy, hmye⟩ : ∃ my, mx = some my ∧ e my = mv := by
            cases mx with
            | none => cases hmv
            | some my => cases hmv; exact ⟨my, rfl, rfl⟩
          subst hmy; subst hmye
          split at hp
          · rename_i m b off hm
            obtain ⟨km, hkm⟩ := intN_real hm (hmx my rfl)
            split at hp
            · rename_i hcond
              simp only [Bool.and_eq_true, Bool.or_eq_true] at hcond
              obtain ⟨⟨⟨hsome, hhm⟩, hmh⟩, hmm⟩ := hcond
              have hhm := Nat.le_of_ble_eq_true hhm
              have hmh := blt_lt hmh
              cases hi with
              | none => cases hsome
              | some hy' =>
                obtain ⟨kh, hkh⟩ := intN_real (hhi' : intN (e hy') = some hh) (hhi hy' rfl)
                cases hp
                have hm' : m ≤ len ∨ m ≤ cap ∧ cap < half := by
                  rcases hmm with hmm | ⟨h1, h2⟩
                  · exact .inl (Nat.le_of_ble_eq_true hmm)
                  · exact .inr ⟨Nat.le_of_ble_eq_true h1, blt_lt h2⟩
                obtain ⟨a', c', hv', hmc, hr⟩ := sl_part (sz := sz) hx hlh hhm hm' hmh
                refine ⟨.slice (if m = l then some a' else (some a').map (·.add (l * sz))) (hh - l) (m - l), ?_, ?_, rfl⟩
                · rw [hv', Option.map_some, Option.map_some, hkh, hkm]
                  exact run_sliceAt hu hsz (run_bounds3 bl hlh hhm hmc)
                · simpa using hr
            · cases hp
          · rename_i m hm
            obtain ⟨km, hkm⟩ := intN_real hm (hmx my rfl)
            split at hp
            · rename_i hcond
              simp only [Bool.and_eq_true] at hcond
              obtain ⟨⟨⟨hsome, hhm⟩, hmm⟩, hcap⟩ := hcond
              have hhm := Nat.le_of_ble_eq_true hhm
              have hmm := Nat.le_of_ble_eq_true hmm
              cases hi with
              | none => cases hsome
              | some hy' =>
                obtain ⟨kh, hkh⟩ := intN_real (hhi' : intN (e hy') = some hh) (hhi hy' rfl)
                cases hp
                have hv' : y = .slice none len cap := hx.of_atom rfl
                refine ⟨.slice (if m = l then none else (none : Option Addr).map (·.add (l * sz))) (hh - l) (m - l), ?_, ?_, rfl⟩
                · rw [hv', Option.map_some, Option.map_some, hkh, hkm]
                  exact run_sliceAt hu hsz (run_bounds3 bl hlh hhm hmm)
                · by_cases hml : m = l
                  · rw [if_pos hml]; exact .atom rfl
                  · rw [if_neg hml]; exact .atom rfl
            · cases hp
          · cases hp
    · cases hp
  · cases hp

theorem sliceA_ok {t : TypeId} {x : Operand} {lo hi : Option Operand} {e ρ : Rho} (hx : VR β (e x) (ρ x)) (hlo : ∀ y, lo = some y → VR β (e y) (ρ y)) (hhi : ∀ y, hi = some y → VR β (e y) (ρ y))
    {v : Value} (hp : sliceAGo P t (e x) (lo.map e) (hi.map e) = some v) :
    ∃ v', (Instr.sliceAt t (ρ x) (lo.map ρ) (hi.map ρ) none).run P w = .ok v' w ∧ VR β v v' := by
  unfold sliceAGo at hp
  split at hp
  · rename_i n sz b off hns hex
    obtain ⟨el, hu, hsz⟩ := arrP_spec hns
    rw [hex] at hx
    obtain ⟨y, hy⟩ : ∃ y, ρ x = y := ⟨_, rfl⟩
    rw [hy] at hx ⊢
    split at hp
    · rename_i l hh hlo' hhi'
      have bl := loN_real hlo' hlo
      have bh := loN_real hhi' hhi
      split at hp
      · rename_i hcond
        simp only [Bool.and_eq_true] at hcond
        obtain ⟨⟨h1, h2⟩, h3⟩ := hcond
        have h1 := Nat.le_of_ble_eq_true h1
        have h2 := Nat.le_of_ble_eq_true h2
        have h3 := blt_lt h3
        have hcap : ∀ c, c ≤ n → ∀ cp, capR cp c = c := fun c hc cp => if_pos (by omega)
        have hrun : ∀ a, (Instr.sliceAt t (.pointer (some a)) (lo.map ρ) (hi.map ρ) none).run P w = .ok (.slice (some (if n = l then a else a.add (l * sz))) (hh - l) (n - l)) w := by
          intro a
          simp only [Instr.sliceAt, Sem.run_bind, run_underlying hu, Result.andThen_ok, Instr.sureAddr, Sem.run_pure, run_bounds2 bl bh h1 h2, run_sizeA hsz]
        cases hx with
        | atom h => simp [Vx.atom] at h
        | @ptr i rb cp sh o e =>
          refine ⟨_, hrun _, ?_⟩
          split at hp
          · rename_i hnl
            have hnl : n = l := by simpa using hnl
            cases hp
            rw [if_pos hnl]
            have := VR.sl (β := β) (o := off) (n := hh - l) (c := 0) e (by rw [hcap 0 (by omega)]; omega) (fun hx => by have := half_eq; omega)
            rw [hcap 0 (by omega)] at this
            rw [show n - l = 0 by omega]
            exact this
          · rename_i hnl
            have hnl : ¬ n = l := by simpa using hnl
            cases hp
            rw [if_neg hnl, addr_add, show off + sh + l * sz = off + l * sz + sh from by omega]
            have := VR.sl (β := β) (o := off + l * sz) (n := hh - l) (c := n - l) e (by rw [hcap (n - l) (by omega)]; omega) (fun hx => by omega)
            rw [hcap (n - l) (by omega)] at this
            exact this
        | ptrD e =>
          refine ⟨_, hrun _, ?_⟩
          split at hp
          · rename_i hnl
            have hnl : n = l := by simpa using hnl
            cases hp
            rw [if_pos hnl, show n - l = 0 by omega]
            exact .slD e (by omega) (fun _ => rfl)
          · rename_i hnl
            have hnl : ¬ n = l := by simpa using hnl
            cases hp
            rw [if_neg hnl]
            exact .slD e (by omega) (fun _ => rfl)
      · cases hp
    · cases hp
  · cases hp

/-! ### Maps -/
theorem mapOf_spec {t : TypeId} {x : TypeId × TypeId} (h : mapOf P t = some x) : P.underlying t = some (.map x.1 x.2) := by
  unfold mapOf at h
  split at h
  · rename_i hu; cases h; exact hu
  · cases h
theorem sameNow_run {kt : TypeId} {d : TypeDesc} (hu : P.underlying kt = some d) {k k' : Value} {b : Bool} (h : Instr.sameNow d k k' = some b) : (Op.equal kt k k').run P w = .ok b w := by
  obtain ⟨n, hE⟩ := equal_succ
  rw [hE]
  unfold Instr.sameNow at h
  split at h
  · split at h
    · rename_i hk
      subst hk; cases h
      unfold Op.equalIn; rw [Sem.run_bind, run_underlying hu]; simp
    · cases h
  all_goals first | (cases h; done) | (cases h; unfold Op.equalIn; rw [Sem.run_bind, run_underlying hu]; rfl)
theorem findNow_run {kt : TypeId} {d : TypeDesc} (hu : P.underlying kt = some d) (k : Value) : ∀ (es : List MapEntry) (i : Nat) {r : Option (Nat × Value)}, Instr.findNow d k es i = some r → (Instr.findAsking kt k es i).run P w = .ok r w
  | [], i, r, h => by cases h; rfl
  | e :: es, i, r, h => by
    unfold Instr.findNow at h
    unfold Instr.findAsking
    rw [Sem.run_bind]
    split at h
    · rename_i hs; cases h; rw [sameNow_run hu hs]; rfl
    · rename_i hs; rw [sameNow_run hu hs]; exact findNow_run hu k es (i + 1) h
    · cases h
theorem findKey_run {kt : TypeId} {d : TypeDesc} (hu : P.underlying kt = some d) {k : Value} {es : List MapEntry} {r : Option (Nat × Value)} (h : (Instr.findAsking kt k es 0).run P w = .ok r w) :
    (Instr.findKey kt k es).run P w = .ok r w := by
  unfold Instr.findKey
  rw [Sem.run_bind, run_underlying hu, Result.andThen_ok]
  split
  · rename_i r' hr
    have := findNow_run (P := P) (w := w) hu k es 0 hr
    rw [h] at this; cases this; rfl
  · exact h
theorem keyEq_run {kt : TypeId} {k k' : Value} {b : Bool} (h : keyEq P kt k k' = some b) : (Op.equal kt k k').run P w = .ok b w := by
  unfold keyEq at h
  split at h
  · rename_i c hc
    cases h
    unfold eqKey at hc
    split at hc
    · rename_i n hn
      exact (eqStr_run hn (fun _ _ _ h => h) hc).1
    · cases hc
  · exact dr_run h w
theorem keyAt_ok {kt : TypeId} {k : Value} : ∀ {es es' : List MapEntry} {i : Nat} {r : Option (Nat × Value)}, EsR β es es' → keyAt P kt k es i = some r →
    ∃ r', (Instr.findAsking kt k es' i).run P w = .ok r' w ∧ (match r with
      | none => r' = none
      | some (j, v) => ∃ v', r' = some (j, v') ∧ VR β v v')
  | _, _, i, r, .nil, h => by cases h; exact ⟨none, rfl, rfl⟩
  | _, _, i, r, .cons hk hv t, h => by
    unfold keyAt at h
    unfold Instr.findAsking
    rw [Sem.run_bind]
    split at h
    · rename_i hd; cases h
      rw [keyEq_run hd]
      exact ⟨_, rfl, _, rfl, hv⟩
    · rename_i hd
      rw [keyEq_run hd]
      exact keyAt_ok t h
    · cases h
theorem keyAt_lt {kt : TypeId} {k : Value} : ∀ {es : List MapEntry} {i j : Nat} {v : Value}, keyAt P kt k es i = some (some (j, v)) → ∃ d, j = i + d ∧ ∀ old, es[d]? = some old → old.val = v
  | [], i, j, v, h => by cases h
  | x :: es, i, j, v, h => by
    unfold keyAt at h
    split at h
    · cases h
      exact ⟨0, rfl, fun old ho => by simp at ho; rw [← ho]⟩
    · obtain ⟨d, h1, h2⟩ := keyAt_lt h
      exact ⟨d + 1, by omega, fun old ho => h2 old (by simpa using ho)⟩
    · cases h
theorem keyAt_val {kt : TypeId} {k : Value} {es : List MapEntry} {i : Nat} {v : Value} (h : keyAt P kt k es 0 = some (some (i, v))) {old : MapEntry} (ho : es[i]? = some old) : old.val = v := by
  obtain ⟨d, h1, h2⟩ := keyAt_lt h
  have : i = d := by omega
  subst this
  exact h2 old ho
theorem EsR.length : ∀ {es es' : List MapEntry}, EsR β es es' → es'.length = es.length
  | _, _, .nil => rfl
  | _, _, .cons _ _ t => by simp [EsR.length t]
theorem EsR.push : ∀ {es es' : List MapEntry}, EsR β es es' → ∀ {k v v' : Value} {n : Nat}, flat k = true → VR β v v' → EsR β (es ++ [⟨k, v, n⟩]) (es' ++ [⟨k, v', n⟩])
  | _, _, .nil, _, _, _, _, hk, hv => .cons hk hv .nil
  | _, _, .cons hk' hv' t, _, _, _, _, hk, hv => .cons hk' hv' (EsR.push t hk hv)
theorem EsR.set : ∀ {es es' : List MapEntry}, EsR β es es' → ∀ {i : Nat} {old : MapEntry} {k v v' : Value}, es[i]? = some old → flat k = true → VR β v v' →
    EsR β (es.set i { old with key := k, val := v }) (es'.modify i fun e => { e with key := k, val := v' }) ∧ (es'[i]?).map (·.key) = some old.key
  | _, _, .nil, i, _, _, _, _, h, _, _ => by simp at h
  | _, _, .cons hk' hv' t, 0, old, k, v, v', h, hk, hv => by
    simp at h; subst h
    refine ⟨?_, by simp⟩
    simp only [List.set_cons_zero, List.modify_zero_cons]
    exact .cons hk hv t
  | _, _, .cons hk' hv' t, i + 1, old, k, v, v', h, hk, hv => by
    simp at h
    obtain ⟨h1, h2⟩ := EsR.set t h hk hv
    refine ⟨?_, by simpa using h2⟩
    simp only [List.set_cons_succ, List.modify_succ_cons]
    exact .cons hk' hv' h1
theorem ObjR.mapInv {cp sh : Nat} {es : List MapEntry} {clock : Nat} {o' : Obj} (h : ObjR P β cp sh (.map es clock) o') : ∃ es', o' = .map ⟨es'⟩ clock ∧ EsR β es es' := by
  cases h with
  | map h => exact ⟨_, rfl, h⟩
theorem run_getObj {r : Nat} {o : Obj} (h : w.heap[r]? = some o) (hc : ∀ c e f, o ≠ .cells c e f) : (getObj r).run P w = .ok o w := by
  simp only [getObj, Sem.run, h]
  try (cases o <;> first | rfl | exact absurd rfl (hc _ _ _))
theorem run_setObj {r : Nat} {o : Obj} (o2 : Obj) (h : w.heap[r]? = some o) (hc : ∀ c e f, o ≠ .cells c e f) : (setObj r o2).run P w = .ok () (w.putObj r o2) := by
  simp only [setObj, Sem.run, h]
  cases o <;> first | rfl | exact absurd rfl (hc _ _ _)

theorem lookup_ok (h : WR P B β V w) {t : TypeId} {m k : Operand} {ok : Bool} {e ρ : Rho} (hm : VR β (e m) (ρ m)) (hk : VR β (e k) (ρ k)) {v : Value} {V' : VW} (hp : lookupO t m k ok P e V = .val v V') :
    ∃ v', (Instr.lookup t (ρ m) (ρ k) ok).run P w = .ok v' w ∧ VR β v v' ∧ V' = V := by
  unfold lookupO at hp
  split at hp
  · rename_i kt et r hmo hem
    have hu := mapOf_spec hmo
    rw [hem] at hm
    split at hp
    · cases hp
    · rename_i hfl
      have hfl : flat (e k) = true := by simpa using hfl
      have hk' := hk.of_flat hfl
      split at hp
      · rename_i es z u1 u2 hes hz hc1 hc2
        obtain ⟨i, hi, hzv, hzf⟩ := zeroV_spec hz
        have hdk : ∃ d, P.underlying kt = some d := by
          cases hd : P.underlying kt with
          | some d => exact ⟨d, rfl⟩
          | none =>
            exfalso
            have hru := dr_run hc1 w
            have : (10000 : Nat) = 9999 + 1 := rfl
            rw [this] at hru
            unfold Instr.checkKey at hru
            simp [underlying, hd] at hru
        obtain ⟨d, hd⟩ := hdk
        have hent : ∃ es', EsR β es es' ∧ ((ρ m = .map none ∧ es' = []) ∨ ∃ rb clock, ρ m = .map (some rb) ∧ w.heap[rb]? = some (.map ⟨es'⟩ clock)) := by
          unfold entriesOf at hes
          split at hes
          · cases hes
            exact ⟨[], .nil, .inl ⟨hm.of_atom rfl, rfl⟩⟩
          · rename_i b
            split at hes
            · rename_i es0 c0 hg
              cases hes
              obtain ⟨rb, cp, sh, o', hv', _, hb, ho⟩ := h.mp hm hg nofun
              obtain ⟨es', rfl, hE⟩ := ho.mapInv
              exact ⟨es', hE, .inr ⟨rb, _, hv', hb⟩⟩
            · cases hes
        obtain ⟨es', hE, hrun⟩ := hent
        have key : ∀ r, keyAt P kt (e k) es 0 = some r → ∃ r', (Instr.findKey kt (e k) es').run P w = .ok r' w ∧ (match r with
            | none => r' = none
            | some (j, v) => ∃ v', r' = some (j, v') ∧ VR β v v') := fun r hr =>
          let ⟨r', h1, h2⟩ := keyAt_ok (w := w) hE hr
          ⟨r', findKey_run hd h1, h2⟩
        have hck : ∀ b, (Instr.checkKey b 10000 kt (e k)).run P w = .ok () w := fun b => by
          cases b
          · exact dr_run hc1 w
          · exact dr_run hc2 w
        have hgo : ∀ r', (Instr.findKey kt (e k) es').run P w = .ok r' w → (Instr.lookup t (ρ m) (ρ k) ok).run P w =
            .ok (match r' with | some (_, v) => (if ok then .tuple #[v, .bool true] else v) | none => (if ok then .tuple #[z, .bool false] else z)) w := by
          intro r' hr'
          rw [hk']
          rcases hrun with ⟨hv', rfl⟩ | ⟨rb, clock, hv', hb⟩
          · rw [hv']
            cases r' with
            | none => simp [Instr.lookup, run_underlying hu, hck, hr', run_zero hi hzv]
            | some p => obtain ⟨j, v⟩ := p; simp [Instr.lookup, run_underlying hu, hck, hr']
          · rw [hv']
            cases r' with
            | none => simp [Instr.lookup, run_underlying hu, run_getObj (P := P) hb nofun, hck, hr', run_zero hi hzv]
            | some p => obtain ⟨j, v⟩ := p; simp [Instr.lookup, run_underlying hu, run_getObj (P := P) hb nofun, hck, hr']
        split at hp
        · rename_i v0 j hka
          cases hp
          obtain ⟨r', h1, v', rfl, h2⟩ := key _ hka
          refine ⟨_, hgo _ h1, ?_, rfl⟩
          cases ok
          · exact h2
          · exact .tuple (.cons h2 (.cons (.atom rfl) .nil))
        · rename_i hka
          cases hp
          obtain ⟨r', h1, rfl⟩ := key _ hka
          refine ⟨_, hgo _ h1, ?_, rfl⟩
          cases ok
          · exact VR.flat1 hzf
          · exact .tuple (.cons (VR.flat1 hzf) (.cons (.atom rfl) .nil))
        · cases hp
      · cases hp
  · cases hp

theorem update_ok (h : WR P B β V w) {t : TypeId} {m k x : Operand} {e ρ : Rho} (hm : VR β (e m) (ρ m)) (hk : VR β (e k) (ρ k)) (hx : VR β (e x) (ρ x)) {v : Value} {V' : VW} (hp : updateO t m k x P e V = .val v V') :
    ∃ w', (Instr.mapUpdate t (ρ m) (ρ k) (ρ x)).run P w = .ok () w' ∧ WR P B β V' w' ∧ v = undef := by
  unfold updateO at hp
  split at hp
  · rename_i kt et b hmo hem
    have hu := mapOf_spec hmo
    rw [hem] at hm
    split at hp
    · cases hp
    · rename_i hfl
      have hfl : flat (e k) = true := by simpa using hfl
      have hk' := hk.of_flat hfl
      split at hp
      · rename_i es clock u1 hg hc1
        obtain ⟨rb, cp, sh, o', hv', hbe, hb, ho⟩ := h.mp hm hg nofun
        obtain ⟨es', rfl, hE⟩ := ho.mapInv
        have hdk : ∃ d, P.underlying kt = some d := by
          cases hd : P.underlying kt with
          | some d => exact ⟨d, rfl⟩
          | none =>
            exfalso
            have hru := dr_run hc1 w
            have : (10000 : Nat) = 9999 + 1 := rfl
            rw [this] at hru
            unfold Instr.checkKey at hru
            simp [underlying, hd] at hru
        obtain ⟨d, hd⟩ := hdk
        split at hp
        · cases hp
        · rename_i hfl2
          have hfl2 : V.floor ≤ b := by simpa using hfl2
          have hstart : ∀ r', (Instr.findKey kt (e k) es').run P w = .ok r' w → (Instr.mapUpdate t (ρ m) (ρ k) (ρ x)).run P w = (match r' with
              | some (i, _) => do
                let key ← Instr.keyThatStays (((((⟨es'⟩ : Array MapEntry)[i]?).map (·.key))).getD (e k)) (e k)
                setObj rb (.map ((⟨es'⟩ : Array MapEntry).modify i fun e => { e with key, val := ρ x }) clock)
              | none => setObj rb (.map ((⟨es'⟩ : Array MapEntry).push { key := e k, val := ρ x, born := clock }) (clock + 1)) : Sem Unit).run P w := by
            intro r' hr'
            rw [hv', hk']
            simp only [Instr.mapUpdate, Sem.run_bind, run_underlying hu, Result.andThen_ok, run_getObj (P := P) hb nofun, dr_run hc1 w, hr']
            cases r' with
            | none => rfl
            | some p => obtain ⟨i, v⟩ := p; simp
          split at hp
          · rename_i i v0 hka
            split at hp
            · rename_i old hold
              split at hp
              · rename_i hsame
                cases hp
                obtain ⟨r', h1, v', rfl, h2⟩ := keyAt_ok (w := w) hE hka
                obtain ⟨h3, h4⟩ := hE.set hold hfl hx
                refine ⟨w.putObj rb (.map ⟨es'.modify i fun e' => { e' with key := e k, val := ρ x }⟩ clock), ?_, h.put hbe hfl2 (.map h3), rfl⟩
                rw [hstart _ (findKey_run hd h1)]
                dsimp only
                have hkey : (((⟨es'⟩ : Array MapEntry)[i]?).map (·.key)).getD (e k) = old.key := by rw [arr_get', h4]; rfl
                rw [hkey]
                simp only [Sem.run_bind, Instr.keyThatStays, hsame, if_true, Sem.run_pure, Result.andThen_ok]
                have hmod : ((⟨es'⟩ : Array MapEntry).modify i fun e' => { e' with key := e k, val := ρ x }) = ⟨es'.modify i fun e' => { e' with key := e k, val := ρ x }⟩ := by
                  apply Array.ext'; simp
                rw [hmod]
                exact run_setObj _ hb nofun
              · cases hp
            · cases hp
          · rename_i hka
            cases hp
            obtain ⟨r', h1, rfl⟩ := keyAt_ok (w := w) hE hka
            refine ⟨w.putObj rb (.map ⟨es' ++ [{ key := e k, val := ρ x, born := clock }]⟩ (clock + 1)), ?_, h.put hbe hfl2 (.map (hE.push hfl hx)), rfl⟩
            rw [hstart _ (findKey_run hd h1)]
            have hpush : (⟨es'⟩ : Array MapEntry).push { key := e k, val := ρ x, born := clock } = ⟨es' ++ [{ key := e k, val := ρ x, born := clock }]⟩ := by
              apply Array.ext'; simp
            simp only [hpush]
            exact run_setObj _ hb nofun
          · cases hp
      · cases hp
  · cases hp

theorem EsR.val : ∀ {es es' : List MapEntry}, EsR β es es' → ∀ {i : Nat} {old : MapEntry} {v v' : Value}, es[i]? = some old → VR β v v' →
    EsR β (es.set i { old with val := v }) (es'.modify i fun e => { e with val := v' })
  | _, _, .nil, i, _, _, _, h, _ => by simp at h
  | _, _, .cons hk' hv' t, 0, old, v, v', h, hv => by
    simp at h; subst h
    simp only [List.set_cons_zero, List.modify_zero_cons]
    exact .cons hk' hv t
  | _, _, .cons hk' hv' t, i + 1, old, v, v', h, hv => by
    simp at h
    simp only [List.set_cons_succ, List.modify_succ_cons]
    exact .cons hk' hv' (EsR.val t h hv)
theorem EsR.at : ∀ {es es' : List MapEntry}, EsR β es es' → ∀ {i : Nat} {old : MapEntry}, es[i]? = some old → ∃ v', es'[i]? = some { old with val := v' } ∧ VR β old.val v'
  | _, _, .nil, i, _, h => by simp at h
  | _, _, .cons hk' hv' t, 0, old, h => by
    simp at h; subst h
    exact ⟨_, rfl, hv'⟩
  | _, _, .cons hk' hv' t, i + 1, old, h => by
    simp at h
    obtain ⟨v', h1, h2⟩ := EsR.at t h
    exact ⟨v', by simpa using h1, h2⟩
theorem bornAt_ok {n : Int} : ∀ {es es' : List MapEntry}, EsR β es es' → bornAt n es = es'.findIdx? fun e => (e.born : Int) == n
  | _, _, .nil => rfl
  | _, _, .cons (k := k) (v := v) (v' := v') (n := m) (l := l) (l' := l') hk hv t => by
    change Bool.rec (motive := fun _ => Option Nat) ((bornAt n l).map Nat.succ) (some 0) (eqI (Int.ofNat m) n) = _
    rw [List.findIdx?_cons, eqI_eq, bornAt_ok t]
    simp only []
    cases hb : ((Int.ofNat m) == n) with
    | true => rfl
    | false => rfl

theorem mapEntry_ok (h : WR P B β V w) {t : TypeId} {m k : Operand} {e ρ : Rho} (hm : VR β (e m) (ρ m)) (hk : VR β (e k) (ρ k)) {v : Value} {V' : VW} (hp : mapEntryO t m k P e V = .val v V') :
    ∃ v' w', (Instr.mapEntry t (ρ m) (ρ k)).run P w = .ok v' w' ∧ WR P B β V' w' ∧ VR β v v' := by
  unfold mapEntryO at hp
  split at hp
  · rename_i kt et b hmo hem
    have hu := mapOf_spec hmo
    rw [hem] at hm
    split at hp
    · cases hp
    · rename_i hfl
      have hfl : flat (e k) = true := by simpa using hfl
      have hk' := hk.of_flat hfl
      split at hp
      · rename_i es clock u1 hg hc1
        obtain ⟨rb, cp, sh, o', hv', hbe, hb, ho⟩ := h.mp hm hg nofun
        obtain ⟨es', rfl, hE⟩ := ho.mapInv
        have hdk : ∃ d, P.underlying kt = some d := by
          cases hd : P.underlying kt with
          | some d => exact ⟨d, rfl⟩
          | none =>
            exfalso
            have hru := dr_run hc1 w
            have : (10000 : Nat) = 9999 + 1 := rfl
            rw [this] at hru
            unfold Instr.checkKey at hru
            simp [underlying, hd] at hru
        obtain ⟨d, hd⟩ := hdk
        split at hp
        · cases hp
        · rename_i hfl2
          have hfl2 : V.floor ≤ b := by simpa using hfl2
          have hstart : ∀ r', (Instr.findKey kt (e k) es').run P w = .ok r' w → (Instr.mapEntry t (ρ m) (ρ k)).run P w = (match r' with
              | some (i, v) => do
                let key ← Instr.keyThatStays (((((⟨es'⟩ : Array MapEntry)[i]?).map (·.key))).getD (e k)) (e k)
                setObj rb (.map ((⟨es'⟩ : Array MapEntry).modify i fun e => { e with key }) clock)
                pure (.tuple #[v, goInt ((((⟨es'⟩ : Array MapEntry)[i]?).map (·.born)).getD 0)])
              | none => do
                let zero ← zeroValue et
                setObj rb (.map ((⟨es'⟩ : Array MapEntry).push { key := e k, val := zero, born := clock }) (clock + 1))
                pure (.tuple #[zero, goInt clock]) : Sem Value).run P w := by
            intro r' hr'
            rw [hv', hk']
            simp only [Instr.mapEntry, Sem.run_bind, run_underlying hu, Result.andThen_ok, run_getObj (P := P) hb nofun, dr_run hc1 w, hr']
            cases r' with
            | none => rfl
            | some p => obtain ⟨i, v⟩ := p; simp
          split at hp
          · rename_i i v0 hka
            split at hp
            · rename_i old hold
              split at hp
              · rename_i hsame
                cases hp
                obtain ⟨r', h1, v', rfl, h2⟩ := keyAt_ok (w := w) hE hka
                obtain ⟨ov, hov, _⟩ := hE.at hold
                have hv2 : (es'[i]?).map (·.val) = some v' ∨ True := .inr trivial
                obtain ⟨h3, h4⟩ := hE.set (v' := ov) hold hfl (v := old.val) (by obtain ⟨ov', a1, a2⟩ := hE.at hold; rw [hov] at a1; cases a1; exact a2)
                refine ⟨.tuple #[v', goInt old.born], w.putObj rb (.map ⟨es'.modify i fun e' => { e' with key := e k }⟩ clock), ?_, ?_, .tuple (.cons h2 (.cons (.atom rfl) .nil))⟩
                · rw [hstart _ (findKey_run hd h1)]
                  dsimp only
                  have hkey : (((⟨es'⟩ : Array MapEntry)[i]?).map (·.key)).getD (e k) = old.key := by rw [arr_get', h4]; rfl
                  have hborn : (((⟨es'⟩ : Array MapEntry)[i]?).map (fun x => (x.born : Int))).getD 0 = (old.born : Int) := by rw [arr_get', hov]; rfl
                  rw [hkey, hborn]
                  simp only [Sem.run_bind, Instr.keyThatStays, hsame, if_true, Sem.run_pure, Result.andThen_ok]
                  have hmod : ((⟨es'⟩ : Array MapEntry).modify i fun e' => { e' with key := e k }) = ⟨es'.modify i fun e' => { e' with key := e k }⟩ := by
                    apply Array.ext'; simp
                  rw [hmod, run_setObj _ hb nofun]
                  rfl
                · refine h.put hbe hfl2 (.map ?_)
                  have hval : es'.modify i (fun e' => { e' with key := e k }) = es'.modify i (fun e' => { e' with key := e k, val := ov }) := by
                    apply List.ext_getElem?
                    intro j
                    simp only [List.getElem?_modify]
                    by_cases hj : i = j
                    · subst hj; rw [hov]; rfl
                    · simp [hj]
                  rw [hval]
                  exact keyAt_val hka hold ▸ h3
              · cases hp
            · cases hp
          · rename_i hka
            split at hp
            · rename_i z hz
              cases hp
              obtain ⟨i, hi, hzv, hzf⟩ := zeroV_spec hz
              obtain ⟨r', h1, rfl⟩ := keyAt_ok (w := w) hE hka
              refine ⟨.tuple #[z, goInt clock], w.putObj rb (.map ⟨es' ++ [{ key := e k, val := z, born := clock }]⟩ (clock + 1)), ?_, h.put hbe hfl2 (.map (hE.push hfl (VR.flat1 hzf))), .tuple (.cons (VR.flat1 hzf) (.cons (.atom rfl) .nil))⟩
              rw [hstart _ (findKey_run hd h1)]
              have hpush : (⟨es'⟩ : Array MapEntry).push { key := e k, val := z, born := clock } = ⟨es' ++ [{ key := e k, val := z, born := clock }]⟩ := by
                apply Array.ext'; simp
              simp only [Sem.run_bind, run_zero hi hzv, Result.andThen_ok, hpush, run_setObj (P := P) _ hb nofun, Sem.run_pure]
            · cases hp
          · cases hp
      · cases hp
  · cases hp

theorem entryStore_ok (h : WR P B β V w) {t : TypeId} {m s x : Operand} {e ρ : Rho} (hm : VR β (e m) (ρ m)) (hs : VR β (e s) (ρ s)) (hx : VR β (e x) (ρ x)) {v : Value} {V' : VW} (hp : entryStoreO m s x P e V = .val v V') :
    ∃ w', (Instr.entryStore t (ρ m) (ρ s) (ρ x)).run P w = .ok () w' ∧ WR P B β V' w' ∧ v = undef := by
  unfold entryStoreO at hp
  split at hp
  · rename_i b ik n hem hes
    rw [hem] at hm
    rw [hes] at hs
    split at hp
    · rename_i es clock hg
      obtain ⟨rb, cp, sh, o', hv', hbe, hb, ho⟩ := h.mp hm hg nofun
      obtain ⟨es', rfl, hE⟩ := ho.mapInv
      split at hp
      · cases hp
      · rename_i hfl2
        have hfl2 : V.floor ≤ b := by simpa using hfl2
        split at hp
        · rename_i i hbo
          split at hp
          · rename_i old hold
            cases hp
            refine ⟨w.putObj rb (.map ⟨es'.modify i fun e' => { e' with val := ρ x }⟩ clock), ?_, h.put hbe hfl2 (.map (hE.val hold hx)), rfl⟩
            rw [bornAt_ok hE] at hbo
            have hidx : (⟨es'⟩ : Array MapEntry).findIdx? (fun e => (e.born : Int) == n) = some i := by simpa using hbo
            have hmod : ((⟨es'⟩ : Array MapEntry).modify i fun e' => { e' with val := ρ x }) = ⟨es'.modify i fun e' => { e' with val := ρ x }⟩ := by
              apply Array.ext'; simp
            rw [hv', hs.int']
            simp only [Instr.entryStore, Sem.run_bind, Result.andThen_ok, run_getObj (P := P) hb nofun, asInt, asIntOf, Sem.run_pure, hidx, hmod]
            exact run_setObj _ hb nofun
          · cases hp
        · cases hp
    · cases hp
  · cases hp

/-! ### A text, rune by rune -/
theorem next_ok (h : WR P B β V w) {it : Operand} {str : Bool} {ty : TypeId} {e ρ : Rho} (hi : VR β (e it) (ρ it)) {v : Value} {V' : VW} (hp : nextO it str P e V = .val v V') :
    ∃ v' w', (Instr.next (ρ it) str ty).run P w = .ok v' w' ∧ WR P B β V' w' ∧ VR β v v' := by
  unfold nextO at hp
  split at hp
  · rename_i b hei
    rw [hei] at hi
    split at hp
    · rename_i s pos hg
      obtain ⟨rb, cp, sh, o', hv', hbe, hb, ho⟩ := h.ptr hi hg nofun
      obtain ⟨rfl, rfl⟩ : o' = .stringIter s pos ∧ sh = 0 := by cases ho with | iter h0 => exact ⟨rfl, h0⟩
      rw [hv']
      split at hp
      · rename_i hlt
        have hlt := blt_lt hlt
        split at hp
        · rename_i hfl
          have hfl := Nat.le_of_ble_eq_true hfl
          cases hp
          refine ⟨_, w.putObj rb (.stringIter s (pos + (Utf8.decode s pos).2)), ?_, h.put hbe hfl (.iter rfl), .tuple (.cons (.atom rfl) (.cons (.atom rfl) (.cons (.atom rfl) .nil)))⟩
          simp [Instr.next, run_getObj (P := P) hb nofun, hlt, run_setObj (P := P) _ hb nofun]
        · cases hp
      · rename_i hlt
        have hlt : ¬ pos < s.size := fun hh => by rw [blt_tt hh] at hlt; exact hlt rfl
        cases hp
        refine ⟨_, w, ?_, h, .tuple (.cons (.atom rfl) .nil)⟩
        simp [Instr.next, run_getObj (P := P) hb nofun, hlt]
    · cases hp
  · cases hp
end
end Go.Vx
/-! What an operation does, all of them but calls. -/
namespace Go.Vx
variable [Syms]
open Go.RowKit

section
variable {P : Program} {B : Base} {β : Nat → Ren} {V : VW} {w : World}

theorem optW_spec {n : Nat} {x : Option VW} {v : Value} {V' : VW} (h : optW n x = .val v V') : x = some V' ∧ v = undef := by
  cases x with
  | none => cases h
  | some u => cases h; exact ⟨rfl, rfl⟩

theorem convFast_ok {s d : TypeId} {x r : Value} (h : convFast P s d x = some r) : (convert s d x).run P w = .ok r w ∧ atom x = true ∧ atom r = true := by
  unfold convFast at h
  split at h
  · rename_i k n
    split at h
    · rename_i sd k' hs hd
      cases h
      refine ⟨?_, rfl, rfl⟩
      rw [wrapF_eq]
      simp [convert, run_underlying hs, run_underlying hd, Conv.intToInt]
    · cases h
  · cases h

theorem plain_ok (h : WR P B β V w) {o : Oper} {e ρ : Rho} (hρ : ∀ x ∈ o.op.operands, VR β (e x) (ρ x)) {v : Value} {V' : VW} (hp : plainGo P o e V = .val v V') :
    Res P B β w (execOp ρ o) v V' := by
  obtain ⟨dst, op, type, pos, after, guard⟩ := o
  cases op <;> simp only [Op.operands] at hρ
  case move x =>
    change valO x P e V = _ at hp
    cases hp; exact Res.of h rfl (hρ x (by simp))
  case assign x =>
    change valO x P e V = _ at hp
    cases hp; exact Res.of h rfl (hρ x (by simp))
  case pick c a b =>
    change pickO c a b P e V = _ at hp
    unfold pickO at hp
    have hc := hρ c (by simp)
    split at hp
    · rename_i hb; cases hp; rw [hb] at hc
      exact Res.of h (v' := ρ a) (by simp [execOp, hc.bool', asBool]) (hρ a (by simp))
    · rename_i hb; cases hp; rw [hb] at hc
      exact Res.of h (v' := ρ b) (by simp [execOp, hc.bool', asBool]) (hρ b (by simp))
    · cases hp
  case alloc t =>
    change allocO t P e V = _ at hp
    unfold allocO at hp
    split at hp
    · rename_i z hz
      obtain ⟨_, _, _, _, _, hat⟩ := zeroL_spec hz
      exact Res.new h hp 0 0 (ObjR.whole (VRs.atoms hat) (by simp)) (run_v (run_alloc hz)) fun β' hβ => .ptr hβ
    · cases hp
  case box t x =>
    change boxO t x P e V = _ at hp
    have hx := hρ x (by simp)
    exact Res.new h hp 0 0 (o' := .cells ⟨cellsL (ρ x)⟩ t (0, 0)) (ObjR.whole hx.cellsL (by simp)) (run_v (by
      simp only [Instr.box, newVar, newRow, Sem.run_bind, run_newObj_alloc, Result.andThen_ok, Sem.run_pure, cells_eq])) fun β' hβ => .ptr hβ
  case build t ps =>
    change buildO t ps P e V = _ at hp
    unfold buildO at hp
    have hps : ∀ p ∈ ps.toList, VR β (e p.2) (ρ p.2) := fun p hpm => hρ p.2 (by simp; exact ⟨p.1, by simpa using hpm⟩)
    split at hp
    · rename_i z l hz hl
      split at hp
      · rename_i ha
        split at hp
        · rename_i c hc
          cases hp
          obtain ⟨c', h1, h2⟩ := build_ok h hps hz hl ha hc
          exact Res.of h (run_v h1) (.agg h2)
        · cases hp
      · cases hp
    · cases hp
  case buildSlice t n ps =>
    change buildSliceO t n ps P e V = _ at hp
    have hps : ∀ p ∈ ps.toList, VR β (e p.2) (ρ p.2) := fun p hpm => hρ p.2 (by simp; exact ⟨p.1, by simpa using hpm⟩)
    exact buildSlice_ok h hps hp
  case insert t m k x =>
    change updateO t m k x P e V = _ at hp
    obtain ⟨w', h1, h2, rfl⟩ := update_ok h (hρ m (by simp)) (hρ k (by simp)) (hρ x (by simp)) hp
    exact ⟨β, undef, w', .refl _, h2, .undef, .inr ⟨rfl, run_u h1⟩⟩
  case mapUpdate t m k x =>
    change updateO t m k x P e V = _ at hp
    obtain ⟨w', h1, h2, rfl⟩ := update_ok h (hρ m (by simp)) (hρ k (by simp)) (hρ x (by simp)) hp
    exact ⟨β, undef, w', .refl _, h2, .undef, .inr ⟨rfl, run_u h1⟩⟩
  case mapEntry t m k =>
    change mapEntryO t m k P e V = _ at hp
    obtain ⟨v', w', h1, h2, h3⟩ := mapEntry_ok h (hρ m (by simp)) (hρ k (by simp)) hp
    exact ⟨β, v', w', .refl _, h2, h3, .inl (run_v h1)⟩
  case entryStore t m s x =>
    change entryStoreO m s x P e V = _ at hp
    obtain ⟨w', h1, h2, rfl⟩ := entryStore_ok (t := t) h (hρ m (by simp)) (hρ s (by simp)) (hρ x (by simp)) hp
    exact ⟨β, undef, w', .refl _, h2, .undef, .inr ⟨rfl, run_u h1⟩⟩
  case load t a =>
    change loadO t a P e V = _ at hp
    exact Res.ofV h hp fun u hu => by
      obtain ⟨u', h1, h2⟩ := load_ok h (hρ a (by simp)) hu
      exact ⟨u', run_v h1, h2⟩
  case store t a x =>
    change storeO t a x P e V = _ at hp
    obtain ⟨h1, rfl⟩ := optW_spec hp
    obtain ⟨w', h2, h3⟩ := store_ok h (hρ a (by simp)) (hρ x (by simp)) h1
    exact ⟨β, undef, w', .refl _, h3, .undef, .inr ⟨rfl, run_u h2⟩⟩
  case nilCheck x =>
    change nilCheckO x P e V = _ at hp
    unfold nilCheckO at hp
    have hx := hρ x (by simp)
    split at hp
    · rename_i a hb; cases hp; rw [hb] at hx
      obtain ⟨y, hy⟩ : ∃ y, ρ x = y := ⟨_, rfl⟩
      rw [hy] at hx
      have hya : ∃ a', y = .pointer (some a') := by
        cases hx with
        | atom ha => simp [Vx.atom] at ha
        | ptr e => exact ⟨_, rfl⟩
        | ptrD e => exact ⟨_, rfl⟩
      obtain ⟨a', rfl⟩ := hya
      exact Res.of h (by simp [execOp, hy]) hx
    · rename_i f a b hb; cases hp; rw [hb] at hx
      obtain ⟨y, hy⟩ : ∃ y, ρ x = y := ⟨_, rfl⟩
      rw [hy] at hx
      have hya : ∃ a' b', y = .func (.func f) a' b' := by
        cases hx with
        | atom ha => exact ⟨_, _, rfl⟩
        | func _ _ _ => exact ⟨_, _, rfl⟩
      obtain ⟨a', b', rfl⟩ := hya
      exact Res.of h (by simp [execOp, hy]) hx
    · rename_i l a b hb; cases hp; rw [hb] at hx
      obtain ⟨y, hy⟩ : ∃ y, ρ x = y := ⟨_, rfl⟩
      rw [hy] at hx
      have hya : ∃ l' a' b', y = .func (.yield l') a' b' := by
        cases hx with
        | atom ha => simp [Vx.atom] at ha
        | func hn _ _ => cases hn
        | yield e => exact ⟨_, _, _, rfl⟩
        | yieldD e => exact ⟨_, _, _, rfl⟩
      obtain ⟨l', a', b', rfl⟩ := hya
      exact Res.of h (by simp [execOp, hy]) hx
    · cases hp
  case fieldAddr t x i =>
    change fieldAddrO t x i P e V = _ at hp
    obtain ⟨v', h1, h2, rfl⟩ := fieldAddr_ok h (hρ x (by simp)) hp
    exact Res.of h (run_v h1) h2
  case field t x i =>
    change fieldO t x i P e V = _ at hp
    obtain ⟨v', h1, h2, rfl⟩ := field_ok h (hρ x (by simp)) hp
    exact Res.of h (run_v h1) h2
  case indexAddr t x i =>
    change indexAddrO t x i P e V = _ at hp
    obtain ⟨v', h1, h2, rfl⟩ := indexAddr_ok h (hρ x (by simp)) (hρ i (by simp)) hp
    exact Res.of h (run_v h1) h2
  case index t x i =>
    change indexO ⟨dst, .index t x i, type, pos, after, guard⟩ t x i P e V = _ at hp
    have hx := hρ x (by simp)
    have hi := hρ i (by simp)
    unfold indexO at hp
    split at hp
    · rename_i l hl
      rw [hl] at hx
      obtain ⟨l', he, hr⟩ := hx.agg'
      split at hp
      · rename_i n sz a j har hj
        obtain ⟨el, hu, hlay⟩ := arrE_spec har
        obtain ⟨k, hk⟩ := intN_real hj hi
        split at hp
        · rename_i hlt
          have hlt := blt_lt hlt
          refine Res.ofV h hp fun u hu' => ?_
          obtain ⟨u', h1, h2⟩ := part_ok (w := w) hlay hr hu'
          refine ⟨u', run_v ?_, h2⟩
          obtain ⟨ti, d, hi', hd, hsz, _⟩ := lay_spec hlay
          simp only at hsz hlt hu
          simp [Instr.index, asIntOf, hk, he, run_underlying hu, hlt, run_size hi', hsz, h1]
        · cases hp
      · cases hp
    · split at hp
      · rename_i hf
        simp only [Bool.and_eq_true] at hf
        refine flat_ok h (o := ⟨dst, .index t x i, type, pos, after, guard⟩) (fun cs b hh => by cases hh) (e := e) (fun y hy => hρ y hy) (fun y hy => ?_) hp
        simp only [Op.operands, List.mem_toArray, List.mem_cons, List.not_mem_nil, or_false] at hy
        rcases hy with rfl | rfl
        · exact hf.1
        · exact hf.2
      · cases hp
  case extract x i =>
    change extractO x i P e V = _ at hp
    have hx := hρ x (by simp)
    unfold extractO at hp
    split at hp
    · rename_i l hl
      rw [hl] at hx
      obtain ⟨l', he, hr⟩ := hx.tuple'
      refine Res.ofV h hp fun u hu => ?_
      rw [nthL_eq] at hu
      obtain ⟨u', h1, h2⟩ := hr.get? hu
      exact ⟨u', run_v (by simp [Instr.extract, he, h1]), h2⟩
    · cases hp
  case binOp op t x y yt =>
    change binO ⟨dst, .binOp op t x y yt, type, pos, after, guard⟩ op t x y P e V = _ at hp
    have hx := hρ x (by simp)
    have hy := hρ y (by simp)
    unfold binO at hp
    split at hp
    · rename_i r hr
      cases hp
      obtain ⟨h1, h2, h3, h4⟩ := binFast_ok (P := P) (w := w) hr t x y
      refine Res.of h (v' := v) (run_v ?_) (.atom h4)
      rw [hx.of_atom h2, hy.of_atom h3]; exact h1
    · split at hp
      · rename_i r hr
        cases hp
        obtain ⟨h1, h2⟩ := binNil_ok (w := w) hr hx hy x y
        exact Res.of h (v' := v) (run_v h1) (.atom h2)
      · split at hp
        · rename_i r hr
          cases hp
          obtain ⟨h1, h2⟩ := binStr_ok (w := w) hr hx hy x y
          exact Res.of h (v' := v) (run_v h1) (.atom h2)
        · split at hp
          · rename_i hf
            simp only [Bool.and_eq_true] at hf
            refine flat_ok h (o := ⟨dst, .binOp op t x y yt, type, pos, after, guard⟩) (fun cs b hh => by cases hh) (e := e) (fun y hy => hρ y hy) (fun z hz => ?_) hp
            simp only [Op.operands, List.mem_toArray, List.mem_cons, List.not_mem_nil, or_false] at hz
            rcases hz with rfl | rfl
            · exact hf.1
            · exact hf.2
          · exact Res.ofV h hp fun u hu => by
              obtain ⟨v', g1, g2⟩ := Syms.binOk _ _ _ _ hu β _ _ hx hy
              obtain ⟨h1, _⟩ := binFast_ok (P := P) (w := w) g2 t x y
              exact ⟨v', run_v h1, g1⟩
  case unOp op t x =>
    change unO ⟨dst, .unOp op t x, type, pos, after, guard⟩ op x P e V = _ at hp
    have hx := hρ x (by simp)
    unfold unO at hp
    split at hp
    · split at hp
      · rename_i b hb
        cases hp
        rw [hb] at hx
        exact Res.of h (v' := .bool (not b)) (run_v (by simp [hx.bool', Op.unary])) (.atom rfl)
      · cases hp
    · split at hp
      · rename_i hf
        refine flat_ok h (o := ⟨dst, .unOp op t x, type, pos, after, guard⟩) (fun cs b hh => by cases hh) (e := e) (fun y hy => hρ y hy) (fun z hz => ?_) hp
        simp only [Op.operands, List.mem_toArray, List.mem_cons, List.not_mem_nil, or_false] at hz
        subst hz; exact hf
      · cases hp
  case convert s d x =>
    change convertO ⟨dst, .convert s d x, type, pos, after, guard⟩ s d x P e V = _ at hp
    have hx := hρ x (by simp)
    unfold convertO at hp
    split at hp
    · rename_i r hr
      cases hp
      obtain ⟨h1, h2, h3⟩ := convFast_ok (w := w) hr
      refine Res.of h (v' := v) (run_v ?_) (.atom h3)
      rw [hx.of_atom h2]; exact h1
    · split at hp
      · rename_i hf
        refine flat_ok h (o := ⟨dst, .convert s d x, type, pos, after, guard⟩) (fun cs b hh => by cases hh) (e := e) (fun y hy => hρ y hy) (fun z hz => ?_) hp
        simp only [Op.operands, List.mem_toArray, List.mem_cons, List.not_mem_nil, or_false] at hz
        subst hz; exact hf
      · split at hp
        · rename_i du k hds hdd
          exact Res.ofV h hp fun u hu => by
            obtain ⟨k0, n, hx', g1⟩ := Syms.convOk _ _ _ hu β _ hx
            have hcf : convFast P s d (.int k0 n) = some (.int k (wrapF k n)) := by unfold convFast; rw [hds, hdd]
            obtain ⟨h1, _, _⟩ := convFast_ok (w := w) hcf
            rw [← hx'] at h1
            exact ⟨_, run_v h1, g1⟩
        · cases hp
  case makeFunc fn a b =>
    change makeFuncO fn a b P e V = _ at hp
    unfold makeFuncO at hp
    split at hp
    · rename_i hn
      cases hp
      rw [mapL_eq, mapL_eq]
      refine Res.of h (v' := .func fn ⟨a.toList.map ρ⟩ ⟨b.toList.map ρ⟩) ?_ (.func hn (VRs.map fun y hy => hρ y (by simp; exact .inl (by simpa using hy))) (VRs.map fun y hy => hρ y (by simp; exact .inr (by simpa using hy))))
      have ha : a.map ρ = ⟨a.toList.map ρ⟩ := by apply Array.ext'; simp
      have hb : b.map ρ = ⟨b.toList.map ρ⟩ := by apply Array.ext'; simp
      simp only [execOp, Instr.makeFunc, ha, hb]; rfl
    · cases hp
  case makeMap t r =>
    change makeMapO t r P e V = _ at hp
    unfold makeMapO at hp
    split at hp
    · exact Res.new h hp 0 0 (o' := .map ⟨[]⟩ 0) (.map .nil) (run_v (by simp [Instr.makeMap])) fun β' hβ => .map hβ
    · rename_i hint
      split at hp
      · rename_i kt k n hm hh
        have hv := hρ hint (by simp)
        rw [hh] at hv
        exact Res.new h hp 0 0 (o' := .map ⟨[]⟩ 0) (.map .nil) (run_v (by simp [Instr.makeMap, run_underlying (mapOf_spec hm), hv.int', asInt, asIntOf])) fun β' hβ => .map hβ
      · cases hp
  case makeSlice t l c =>
    change makeSliceO t l c P e V = _ at hp
    exact makeSlice_ok h (hρ l (by simp)) (hρ c (by simp)) hp
  case slice t x lo hi mx =>
    change sliceO ⟨dst, .slice t x lo hi mx, type, pos, after, guard⟩ t x lo hi mx P e V = _ at hp
    have hx := hρ x (by simp)
    have hlo : ∀ y, lo = some y → VR β (e y) (ρ y) := fun y hy => hρ y (by subst hy; simp)
    have hhi : ∀ y, hi = some y → VR β (e y) (ρ y) := fun y hy => hρ y (by subst hy; simp)
    have hmx : ∀ y, mx = some y → VR β (e y) (ρ y) := fun y hy => hρ y (by subst hy; simp)
    unfold sliceO at hp
    split at hp
    · obtain ⟨v', h1, h2, rfl⟩ := slice_ok h hx hlo hhi hmx hp
      exact Res.of h (run_v h1) h2
    · split at hp
      · rename_i hmn
        have hmn : mx = none := by simpa using hmn
        subst hmn
        refine Res.ofV h hp fun u hu => ?_
        obtain ⟨v', h1, h2⟩ := sliceA_ok (w := w) hx hlo hhi hu
        exact ⟨v', run_v h1, h2⟩
      · cases hp
    · rename_i s hs
      split at hp
      · rename_i hf
        simp only [Bool.and_eq_true] at hf
        obtain ⟨⟨hmn, hfl⟩, hfh⟩ := hf
        have hmn : mx = none := by simpa using hmn
        subst hmn
        refine flat_ok h (o := ⟨dst, .slice t x lo hi none, type, pos, after, guard⟩) (fun cs b hh => by cases hh) (e := e) (fun y hy => hρ y hy) (fun z hz => ?_) hp
        simp only [Op.operands, Array.mem_append] at hz
        rcases hz with ((hz | hz) | hz) | hz
        · simp at hz; subst hz; rw [hs]; rfl
        · cases lo with
          | none => simp at hz
          | some y => simp at hz; subst hz; exact hfl
        · cases hi with
          | none => simp at hz
          | some y => simp at hz; subst hz; exact hfh
        · simp at hz
      · cases hp
    · cases hp
  case lookup t m k ok =>
    change lookupO t m k ok P e V = _ at hp
    obtain ⟨v', h1, h2, rfl⟩ := lookup_ok h (hρ m (by simp)) (hρ k (by simp)) hp
    exact Res.of h (run_v h1) h2
  case range t x =>
    change rangeO t x P e V = _ at hp
    have hx := hρ x (by simp)
    unfold rangeO at hp
    split at hp
    · rename_i s hs
      rw [hs] at hx
      split at hp
      · rename_i hu
        have hu : P.underlying t = some .string := by
          cases hd : P.underlying t with
          | none => rw [hd] at hu; cases hu
          | some d => rw [hd] at hu; cases d <;> first | rfl | (cases hu)
        exact Res.new h hp 0 0 (o' := .stringIter s 0) (.iter rfl) (run_v (by simp [Instr.range, run_underlying hu, hx.string'])) fun β' hβ => .ptr hβ
      · cases hp
    · cases hp
  case next it str =>
    change nextO it str P e V = _ at hp
    obtain ⟨v', w', h1, h2, h3⟩ := next_ok h (ty := type) (hρ it (by simp)) hp
    exact ⟨β, v', w', .refl _, h2, h3, .inl (run_v h1)⟩
  all_goals (cases hp)
end
end Go.Vx
