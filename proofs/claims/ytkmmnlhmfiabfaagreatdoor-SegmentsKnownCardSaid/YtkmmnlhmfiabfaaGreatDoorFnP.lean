/-
  Says: what Parse gives for every string.
-/
import Derived.Test.YtkmmnlhmfiabfaaGreatDoorFnK
import Derived.Lib.OthersKept
set_option linter.unusedVariables false
set_option linter.unusedSimpArgs false
namespace Go.Proofs.YtkmmnlhmfiabfaaGreatDoor
open Go Go.RowKit

/-- What one rune at byte pos does to what has been read: kind, sign, number. -/
def stp (pos : Nat) (r k sg c : Int) : Int × Int × Int := if pos = 0 then (kindR r, sg, c) else if r = 45 then (k, -1, c) else if 48 ≤ r ∧ r ≤ 57 ∧ c ≤ 4096 then (k, sg, 10 * c + (r - 48)) else (k, sg, c)
def rdF (s : ByteArray) : Nat → Nat → Int × Int × Int → Int × Int × Int
  | 0, _, st => st
  | f + 1, pos, st => if pos < s.size then rdF s f (pos + (Utf8.decode s pos).2) (stp pos (Utf8.decode s pos).1 st.1 st.2.1 st.2.2) else st
theorem rdF_end (s : ByteArray) (f pos : Nat) (st : Int × Int × Int) (h : ¬ pos < s.size) : rdF s f pos st = st := by
  cases f with
  | zero => rfl
  | succ f => simp [rdF, h]
theorem width_pos (s : ByteArray) (pos : Nat) (h : pos < s.size) : 1 ≤ (Utf8.decode s pos).2 := by
  by_cases ha : (s[pos]'h).toNat < 128
  · rw [decode_ascii s pos h ha]
    exact Nat.le_refl _
  · exact (decode_high s pos h (by omega)).2
theorem kindR_range (r : Int) : 0 ≤ kindR r ∧ kindR r ≤ 4 := by
  unfold kindR
  repeat' split
  all_goals omega
/-- Where the reading stands at byte pos. -/
structure Rd (s : ByteArray) (w wr : World) (pos fu : Nat) (k sg c : Int) : Prop where
  k0 : 0 ≤ k
  k1 : k ≤ 4
  sg1 : sg = 1 ∨ sg = -1
  c0 : 0 ≤ c
  c1 : c ≤ 40969
  eq : rdF s fu pos (k, sg, c) = rdF s s.size 0 (0, 1, 0)
  fuel : s.size ≤ pos + fu
  small : pos ≤ s.size + 4
  line : wr.heap[w.heap.size + 1]? = some (.cells #[.int .u8 k, .int .i64 c] 27)
  res : wr.heap[w.heap.size]? = some (.cells #[.int .u8 0, .int .i64 0] 27)
  iter : wr.heap[w.heap.size + 1 + 1]? = some (.stringIter s pos)
  below : Below w.heap.size w wr
theorem decode_w (s : ByteArray) (pos : Nat) : (Utf8.decode s pos).2 ≤ 4 := by
  simp only [Utf8.decode]
  repeat' split
  all_goals simp_all [Utf8.runeError]
theorem push_last (w : World) (o : Obj) : (w.alloc o).heap[w.heap.size]? = some o := by
  show (w.heap.push o)[w.heap.size]? = _
  simp
theorem iterPos_of {w : World} {k : Nat} {s : ByteArray} {p : Nat} (h : w.heap[k]? = some (.stringIter s p)) : w.iterPos k = p := by simp [World.iterPos, h]
set_option maxHeartbeats 4000000 in
theorem read_any (s : ByteArray) (w : World) (hs : s.size ≤ maxLen) : Calls Tryz.prog 117 #[.string s] w fun e w' => e = .returned (ln (rdF s s.size 0 (0, 1, 0)).1 ((rdF s s.size 0 (0, 1, 0)).2.2 * (rdF s s.size 0 (0, 1, 0)).2.1)) ∧ Below w.heap.size w w' := by
  unfold maxLen at hs
  go_enter Tryz.func117, Tryz.ntmps117
  go_wp2
  go_loopw [4] (fun sgv wr => ∃ (pos fu : Nat) (k sg c : Int), sgv = .int .i64 sg ∧ Rd s w wr pos fu k sg c) (fun _ wr => s.size - wr.iterPos (w.heap.size + 1 + 1))
  case atStart =>
    refine ⟨0, s.size, 0, 1, 0, rfl, ⟨by omega, by omega, by omega, by omega, by omega, rfl, by omega, by omega, ?_, ?_, ?_, ?_⟩⟩
    · show (((w.alloc _).alloc _).alloc _).heap[w.heap.size + 1]? = _
      rw [Below.heap_alloc _ _ _ (by simp)]
      have := push_last (w.alloc (.cells #[.int .u8 0, .int .i64 0] 27)) (.cells #[.int .u8 0, .int .i64 0] 27)
      simpa using this
    · show (((w.alloc _).alloc _).alloc _).heap[w.heap.size]? = _
      rw [Below.heap_alloc _ _ _ (by simp; omega), Below.heap_alloc _ _ _ (by simp)]
      exact push_last w _
    · show (((w.alloc _).alloc _).alloc _).heap[w.heap.size + 1 + 1]? = _
      have := push_last ((w.alloc (.cells #[.int .u8 0, .int .i64 0] 27)).alloc (.cells #[.int .u8 0, .int .i64 0] 27)) (.stringIter s 0)
      simpa using this
    · exact below_alloc (below_alloc (below_alloc (Below.refl _ _) _) _) _
  case round =>
    obtain ⟨pos, fu, k, sg, c, rfl, hr⟩ := hrel
    obtain ⟨hk0, hk1, hsg, hc0, hc1, heq, hfu, hsm, hline, hres, hiter, hbel⟩ := hr
    by_cases hp : pos < s.size
    · have hwd := width_pos s pos hp
      have hdw := decode_w s pos
      have hd1 := decode_le s pos
      obtain ⟨fu', rfl⟩ : ∃ f, fu = f + 1 := ⟨fu - 1, by omega⟩
      have hnx := fun ty => Lib.run_next_any_at (P := Tryz.prog) wr (w.heap.size + 1 + 1) s pos ty hiter hp
      have hit := Lib.iterAt_heap wr (w.heap.size + 1 + 1) s pos (pos + (Utf8.decode s pos).2) hiter
      have hl := (Lib.iterAt_other wr (w.heap.size + 1 + 1) (w.heap.size + 1) s (pos + (Utf8.decode s pos).2) (by omega)).trans hline
      have hrs := (Lib.iterAt_other wr (w.heap.size + 1 + 1) w.heap.size s (pos + (Utf8.decode s pos).2) (by omega)).trans hres
      have hbl := Lib.below_iterAt hbel (k := w.heap.size + 1 + 1) (by omega) s (pos + (Utf8.decode s pos).2)
      have hst : rdF s fu' (pos + (Utf8.decode s pos).2) (stp pos (Utf8.decode s pos).1 k sg c) = rdF s s.size 0 (0, 1, 0) := by rw [← heq]; simp [rdF, hp]
      have HI : Hid (wr.iterPos (w.heap.size + 1 + 1) = pos) := iterPos_of hiter
      clear heq hline hres hiter hbel
      generalize wr.iterAt (w.heap.size + 1 + 1) s (pos + (Utf8.decode s pos).2) = W at hnx hit hl hrs hbl
      generalize (Utf8.decode s pos).2 = D at hwd hdw hit hst
      obtain ⟨R, hR⟩ : ∃ R : Int, ((Utf8.decode s pos).1 : Int) = R := ⟨_, rfl⟩
      have hR0 : 0 ≤ R := by omega
      have hR1 : R ≤ 2147483647 := by omega
      rw [hR] at hnx hst
      clear hR hd1
      have e0 : W.cell? ⟨w.heap.size + 1, 0, none⟩ = some (.int .u8 k) := held_cell hl 0
      have e1 : W.cell? ⟨w.heap.size + 1, 1, none⟩ = some (.int .i64 c) := held_cell hl 1
      have f0 : W.frozen? ⟨w.heap.size + 1, 0, none⟩ = false := held_free hl 0
      have f1 : W.frozen? ⟨w.heap.size + 1, 1, none⟩ = false := held_free hl 1
      have HS : Hid (rdF s fu' (pos + D) (stp pos R k sg c) = rdF s s.size 0 (0, 1, 0)) := hst
      have HL : Hid (W.heap[w.heap.size + 1]? = some (.cells #[.int .u8 k, .int .i64 c] 27)) := hl
      have HR : Hid (W.heap[w.heap.size]? = some (.cells #[.int .u8 0, .int .i64 0] 27)) := hrs
      have HT : Hid (W.heap[w.heap.size + 1 + 1]? = some (.stringIter s (pos + D))) := hit
      have HG : Hid (sg = 1 ∨ sg = -1) := hsg
      clear hst hl hrs hit hsg
      by_cases hz : pos = 0
      · have hz1 : ((pos : Int) == 0) = true := by simp [hz]
        have HZ : Hid (pos = 0) := hz
        clear hz
        go_wp2_with (go_at_call 155; refine (kindOf_any _ _).mono ?_; rintro e w3 ⟨rfl, hb3⟩; obtain ⟨u3, rfl⟩ := after hb3; clear hb3)
        go_roundw
        case rel =>
          have hkr := kindR_range R
          exact ⟨pos + D, fu', kindR R, sg, c, rfl, ⟨hkr.1, hkr.2, HG.out, hc0, hc1, by have := HS.out; unfold stp at this; rw [if_pos HZ.out] at this; exact this, by omega, by omega, held_set (held_on u3 HL.out) 0 _, held_set_other (held_on u3 HR.out) (by omega) _ _, held_set_other (held_on u3 HT.out) (by omega) _ _, below_set (below_on hbl u3) (by simp) _⟩⟩
        case measure =>
          rw [HI.out, iterPos_of (held_set_other (held_on u3 HT.out) (by omega) _ _)]
          omega
      · have hz1 : ((pos : Int) == 0) = false := by simpa using hz
        have HZ : Hid (¬ pos = 0) := hz
        clear hz
        by_cases hm : R = 45
        · subst hm
          go_wp2_with fail
          go_roundw
          case rel =>
            exact ⟨pos + D, fu', k, -1, c, rfl, ⟨hk0, hk1, .inr rfl, hc0, hc1, by have := HS.out; unfold stp at this; rw [if_neg HZ.out, if_pos rfl] at this; exact this, by omega, by omega, HL.out, HR.out, HT.out, hbl⟩⟩
          case measure =>
            rw [HI.out, iterPos_of HT.out]
            omega
        · have hm1 : (R == 45) = false := by simpa using hm
          have HM : Hid (¬ R = 45) := hm
          clear hm
          by_cases a1 : 48 ≤ R
          · by_cases a2 : R ≤ 57
            · by_cases a3 : c ≤ 4096
              · go_wp2_with fail
                go_roundw
                case rel =>
                  exact ⟨pos + D, fu', k, sg, 10 * c + (R - 48), rfl, ⟨hk0, hk1, HG.out, by omega, by omega, by have := HS.out; unfold stp at this; rw [if_neg HZ.out, if_neg HM.out, if_pos ⟨a1, a2, a3⟩] at this; exact this, by omega, by omega, held_set HL.out 1 _, held_set_other HR.out (by omega) _ _, held_set_other HT.out (by omega) _ _, below_set hbl (by simp) _⟩⟩
                case measure =>
                  rw [HI.out, iterPos_of (held_set_other HT.out (by omega) _ _)]
                  omega
              · go_wp2_with fail
                go_roundw
                case rel => exact ⟨pos + D, fu', k, sg, c, rfl, ⟨hk0, hk1, HG.out, hc0, hc1, by have := HS.out; unfold stp at this; rw [if_neg HZ.out, if_neg HM.out, if_neg (by omega)] at this; exact this, by omega, by omega, HL.out, HR.out, HT.out, hbl⟩⟩
                case measure =>
                  rw [HI.out, iterPos_of HT.out]
                  omega
            · go_wp2_with fail
              go_roundw
              case rel => exact ⟨pos + D, fu', k, sg, c, rfl, ⟨hk0, hk1, HG.out, hc0, hc1, by have := HS.out; unfold stp at this; rw [if_neg HZ.out, if_neg HM.out, if_neg (by omega)] at this; exact this, by omega, by omega, HL.out, HR.out, HT.out, hbl⟩⟩
              case measure =>
                rw [HI.out, iterPos_of HT.out]
                omega
          · go_wp2_with fail
            go_roundw
            case rel => exact ⟨pos + D, fu', k, sg, c, rfl, ⟨hk0, hk1, HG.out, hc0, hc1, by have := HS.out; unfold stp at this; rw [if_neg HZ.out, if_neg HM.out, if_neg (by omega)] at this; exact this, by omega, by omega, HL.out, HR.out, HT.out, hbl⟩⟩
            case measure =>
              rw [HI.out, iterPos_of HT.out]
              omega
    · have hnx := fun ty => Lib.run_next_end_at (P := Tryz.prog) wr (w.heap.size + 1 + 1) s pos ty hiter hp
      rw [rdF_end s fu pos _ hp] at heq
      have HE : Hid (((k, sg, c) : Int × Int × Int) = rdF s s.size 0 (0, 1, 0)) := heq
      have e0 : wr.cell? ⟨w.heap.size + 1, 0, none⟩ = some (.int .u8 k) := held_cell hline 0
      have e1 : wr.cell? ⟨w.heap.size + 1, 1, none⟩ = some (.int .i64 c) := held_cell hline 1
      have f0 : wr.frozen? ⟨w.heap.size + 1, 0, none⟩ = false := held_free hline 0
      have f1 : wr.frozen? ⟨w.heap.size + 1, 1, none⟩ = false := held_free hline 1
      have e2 : wr.cell? ⟨w.heap.size, 0, none⟩ = some (.int .u8 0) := held_cell hres 0
      have e3 : wr.cell? ⟨w.heap.size, 1, none⟩ = some (.int .i64 0) := held_cell hres 1
      have f2 : wr.frozen? ⟨w.heap.size, 0, none⟩ = false := held_free hres 0
      have f3 : wr.frozen? ⟨w.heap.size, 1, none⟩ = false := held_free hres 1
      clear heq hline hres hiter
      rcases hsg with rfl | rfl
      · go_wp2
        refine bodyPost_ret (v := ln k c) (by simp [results, Tryz.results117, go_sem, e0, e1, e2, e3, f0, f1, f2, f3]) rfl ⟨?_, ?_⟩
        · rw [← HE.out]; simp
        · repeat first | exact hbel | (with_reducible refine below_set ?_ (by simp) _)
      · go_wp2
        refine bodyPost_ret (v := ln k (-c)) (by simp [results, Tryz.results117, go_sem, e0, e1, e2, e3, f0, f1, f2, f3]) rfl ⟨?_, ?_⟩
        · rw [← HE.out]; simp
        · repeat first | exact hbel | (with_reducible refine below_set ?_ (by simp) _)

end Go.Proofs.YtkmmnlhmfiabfaaGreatDoor
set_option linter.unusedVariables false
set_option linter.unusedSimpArgs false
namespace Go.Proofs.YtkmmnlhmfiabfaaGreatDoor
open Go Go.RowKit

theorem letter_ascii (k : Int) : (letter k).toNat < 128 := by
  unfold letter
  repeat' split
  all_goals decide
theorem kindR_letter (k : Int) (h1 : 1 ≤ k) (h2 : k ≤ 4) : kindR ((letter k).toNat : Int) = k := by
  obtain rfl | rfl | rfl | rfl : k = 1 ∨ k = 2 ∨ k = 3 ∨ k = 4 := by omega
  all_goals rfl
/-- The same reading over a list of bytes. -/
def rdL : List UInt8 → Nat → Int × Int × Int → Int × Int × Int
  | [], _, st => st
  | b :: l, pos, st => rdL l (pos + 1) (stp pos (b.toNat : Int) st.1 st.2.1 st.2.2)
theorem rdL_snoc (b : UInt8) : ∀ (l : List UInt8) (pos : Nat) (st : Int × Int × Int), rdL (l ++ [b]) pos st = stp (pos + l.length) (b.toNat : Int) (rdL l pos st).1 (rdL l pos st).2.1 (rdL l pos st).2.2
  | [], pos, st => rfl
  | a :: l, pos, st => by
    show rdL (l ++ [b]) (pos + 1) _ = _
    rw [rdL_snoc b l (pos + 1)]
    show stp (pos + 1 + l.length) _ _ _ _ = stp (pos + (l.length + 1)) _ _ _ _
    rw [show pos + 1 + l.length = pos + (l.length + 1) by omega]
    rfl
theorem rdF_ascii (bs : List UInt8) (ha : ∀ b ∈ bs, b.toNat < 128) : ∀ (f pos : Nat) (st : Int × Int × Int), bs.length ≤ pos + f → rdF ⟨bs.toArray⟩ f pos st = rdL (bs.drop pos) pos st
  | 0, pos, st, h => by rw [List.drop_eq_nil_of_le (by omega)]; rfl
  | f + 1, pos, st, h => by
    by_cases hp : pos < bs.length
    · have hp' : pos < (ByteArray.mk bs.toArray).size := by show pos < bs.toArray.size; simpa using hp
      have hb : (ByteArray.mk bs.toArray)[pos]'hp' = bs[pos] := by show bs.toArray[pos] = _; simp
      have hd : Utf8.decode ⟨bs.toArray⟩ pos = ((bs[pos]).toNat, 1) := by
        rw [decode_ascii _ pos hp' (by rw [hb]; exact ha _ (List.getElem_mem hp)), hb]
      unfold rdF
      rw [if_pos hp', hd, rdF_ascii bs ha f (pos + 1) _ (by omega), List.drop_eq_getElem_cons hp]
      rfl
    · rw [rdF_end _ _ _ _ (by show ¬ pos < bs.toArray.size; simpa using hp), List.drop_eq_nil_of_le (by omega)]
      rfl
theorem dig_nat (u : Nat) : (UInt8.ofNat (48 + u % 10)).toNat = 48 + u % 10 := by
  rw [UInt8.toNat_ofNat']; omega
theorem dig_nat1 (u : Nat) (h : u < 10) : (UInt8.ofNat (48 + u)).toNat = 48 + u := by
  rw [UInt8.toNat_ofNat']; omega
theorem stp_dig (pos u : Nat) (k sg c : Int) (hp : 1 ≤ pos) (hu : u < 10) (hc : c ≤ 4096) : stp pos ((48 + u : Nat) : Int) k sg c = (k, sg, 10 * c + u) := by
  unfold stp
  rw [if_neg (by omega), if_neg (by omega), if_pos (by omega)]
  congr 2; omega
theorem rdL_digits (n : Nat) : ∀ (u pos : Nat) (k sg : Int), u ≤ n → u ≤ 40000 → 1 ≤ pos → rdL (Lib.decDigits u) pos (k, sg, 0) = (k, sg, (u : Int)) := by
  induction n with
  | zero =>
    intro u pos k sg hn h hp
    have : u = 0 := by omega
    subst this
    rw [Lib.decDigits_one (by omega)]
    show stp pos _ k sg 0 = _
    rw [dig_nat1 0 (by omega), stp_dig pos 0 k sg 0 hp (by omega) (by omega)]
    rfl
  | succ n ih =>
    intro u pos k sg hn h hp
    by_cases h10 : u < 10
    · rw [Lib.decDigits_one h10]
      show stp pos _ k sg 0 = _
      rw [dig_nat1 u h10, stp_dig pos u k sg 0 hp h10 (by omega)]
      congr 2; omega
    · rw [Lib.decDigits.eq_1 u, dif_neg h10, rdL_snoc, ih (u / 10) pos k sg (by omega) (by omega) hp, dig_nat]
      show stp _ ((48 + u % 10 : Nat) : Int) k sg ((u / 10 : Nat) : Int) = _
      rw [stp_dig _ (u % 10) k sg _ (by omega) (by omega) (by omega)]
      congr 2; omega
theorem digits_ascii (n : Nat) : ∀ u, u ≤ n → ∀ b ∈ Lib.decDigits u, b.toNat < 128 := by
  induction n with
  | zero =>
    intro u hu b hb
    rw [Lib.decDigits_one (by omega)] at hb
    rw [List.mem_singleton.1 hb, dig_nat1 u (by omega)]; omega
  | succ n ih =>
    intro u hu b hb
    by_cases h10 : u < 10
    · rw [Lib.decDigits_one h10] at hb
      rw [List.mem_singleton.1 hb, dig_nat1 u h10]; omega
    · rw [Lib.decDigits.eq_1 u, dif_neg h10] at hb
      rcases List.mem_append.1 hb with hb | hb
      · exact ih (u / 10) (by omega) b hb
      · rw [List.mem_singleton.1 hb, dig_nat]; omega
theorem textL_ascii (k c : Int) : ∀ b ∈ textL k c, b.toNat < 128 := by
  intro b hb
  unfold textL at hb
  rcases List.mem_cons.1 hb with rfl | hb
  · exact letter_ascii k
  rcases List.mem_cons.1 hb with rfl | hb
  · decide
  unfold Lib.itoa at hb
  split at hb
  · rcases List.mem_cons.1 hb with rfl | hb
    · decide
    · exact digits_ascii _ _ (Nat.le_refl _) b hb
  · exact digits_ascii _ _ (Nat.le_refl _) b hb
/-- Reading a line's text gives the line. -/
theorem rd_text (k c : Int) (h1 : 1 ≤ k) (h2 : k ≤ 4) (h3 : -4096 ≤ c) (h4 : c ≤ 4096) :
    rdF ⟨(textL k c).toArray⟩ (ByteArray.mk (textL k c).toArray).size 0 (0, 1, 0) = (k, if c < 0 then -1 else 1, if c < 0 then -c else c) := by
  rw [rdF_ascii _ (textL_ascii k c) _ _ _ (by show _ ≤ 0 + (textL k c).toArray.size; simp)]
  rw [List.drop_zero]
  unfold textL
  show rdL (Lib.itoa c) 2 (stp 1 32 (stp 0 ((letter k).toNat : Int) 0 1 0).1 (stp 0 ((letter k).toNat : Int) 0 1 0).2.1 (stp 0 ((letter k).toNat : Int) 0 1 0).2.2) = _
  have e0 : stp 0 ((letter k).toNat : Int) 0 1 0 = (k, 1, 0) := by unfold stp; rw [if_pos rfl, kindR_letter k h1 h2]
  have e1 : stp 1 32 k 1 0 = (k, 1, 0) := by unfold stp; rw [if_neg (by omega), if_neg (by omega), if_neg (by omega)]
  rw [e0]
  show rdL (Lib.itoa c) 2 (stp 1 32 k 1 0) = _
  rw [e1]
  by_cases hc : c < 0
  · rw [if_pos hc, if_pos hc]
    unfold Lib.itoa
    rw [if_pos hc]
    show rdL (Lib.decDigits c.natAbs) 3 (stp 2 45 k 1 0) = _
    have e2 : stp 2 45 k 1 0 = (k, -1, 0) := by unfold stp; rw [if_neg (by omega), if_pos rfl]
    rw [e2, rdL_digits _ _ 3 k (-1) (Nat.le_refl _) (by omega) (by omega)]
    congr 2; omega
  · rw [if_neg hc, if_neg hc]
    unfold Lib.itoa
    rw [if_neg hc, rdL_digits _ _ 2 k 1 (Nat.le_refl _) (by omega) (by omega)]
    congr 2; omega
end Go.Proofs.YtkmmnlhmfiabfaaGreatDoor
set_option linter.unusedVariables false
set_option linter.unusedSimpArgs false
namespace Go.Proofs.YtkmmnlhmfiabfaaGreatDoor
open Go Go.RowKit

/-- What read makes of a string: a kind and a number. -/
def rdK (s : ByteArray) : Int := (rdF s s.size 0 (0, 1, 0)).1
def rdC (s : ByteArray) : Int := (rdF s s.size 0 (0, 1, 0)).2.2 * (rdF s s.size 0 (0, 1, 0)).2.1
theorem read_kc (s : ByteArray) (w : World) (hs : s.size ≤ maxLen) : Calls Tryz.prog 117 #[.string s] w fun e w' => e = .returned (ln (rdK s) (rdC s)) ∧ Below w.heap.size w w' := read_any s w hs
set_option maxHeartbeats 800000 in
theorem parse_ok (s : ByteArray) (k c : Int) (w : World) (hT : Tab w) (h1 : 1 ≤ k) (h2 : k ≤ 4) (h3 : -4096 ≤ c) (h4 : c ≤ 4096) (hs : s.size ≤ maxLen) (hk : rdK s = k) (hc : rdC s = c) (ht : (textL k c == s.toList) = true) : Calls Tryz.prog 78 #[.string s] w fun e w' => e = .returned (.tuple #[ln k c, .int .i64 0]) ∧ Below w.heap.size w w' := by
  have HR : Hid (∀ w, Calls Tryz.prog 117 #[.string s] w fun e w' => e = .returned (ln k c) ∧ Below w.heap.size w w') := fun w => by rw [← hk, ← hc]; exact read_kc s w hs
  have hT' : ∀ W, Below w.heap.size w W → Tab W := fun W hb => tab_below hT hb
  clear hk hc
  go_enter Tryz.func78, Tryz.ntmps78
  go_wp2_with (first | (go_at_call 117; refine (HR.out _).mono ?_; rintro e w3 ⟨rfl, hb3⟩; obtain ⟨u3, rfl⟩ := after hb3; have z3 : w.heap.size < (on u3).heap.size := (by have := on_size u3; simp at this; omega); clear hb3) | (go_at_call 58; refine (check_ok _ _ _ (by omega) (by omega) (by omega) (by omega)).mono ?_; rintro e w1 ⟨rfl, hb1⟩; obtain ⟨u1, rfl⟩ := after hb1; clear hb1) | (go_at_call 56; refine (text_ok _ _ _ (hT' _ (by repeat first | (with_reducible exact Below.refl _ _) | (with_reducible refine below_on ?_ _) | (with_reducible refine below_alloc ?_ _) | (with_reducible refine below_set ?_ (by simp; try omega) _) | (with_reducible refine below_drew ?_))) (by omega) (by omega) (by omega) (by omega)).mono ?_; rintro e w5 ⟨rfl, hb5⟩; obtain ⟨u5, rfl⟩ := after hb5; clear hb5) | fail)
  exact bodyPost_ret (v := .tuple #[ln k c, .int .i64 0]) (by simp [results, Tryz.results78, go_sem, z3]) rfl ⟨rfl, by repeat first | (with_reducible exact Below.refl _ _) | (with_reducible refine below_on ?_ _) | (with_reducible refine below_alloc ?_ _) | (with_reducible refine below_set ?_ (by simp; try omega) _) | (with_reducible refine below_drew ?_)⟩
set_option maxHeartbeats 800000 in
theorem parse_bad (s : ByteArray) (k c : Int) (w : World) (hT : Tab w) (h : k < 1 ∨ 4 < k ∨ c < -4096 ∨ 4096 < c) (hs : s.size ≤ maxLen) (hk : rdK s = k) (hc : rdC s = c) : Calls Tryz.prog 78 #[.string s] w fun e w' => e = .returned (.tuple #[ln 0 0, .int .i64 4]) ∧ Below w.heap.size w w' := by
  have H : Hid (k < 1 ∨ 4 < k ∨ c < -4096 ∨ 4096 < c) := h
  clear h
  have HR : Hid (∀ w, Calls Tryz.prog 117 #[.string s] w fun e w' => e = .returned (ln k c) ∧ Below w.heap.size w w') := fun w => by rw [← hk, ← hc]; exact read_kc s w hs
  have hT' : ∀ W, Below w.heap.size w W → Tab W := fun W hb => tab_below hT hb
  clear hk hc
  go_enter Tryz.func78, Tryz.ntmps78
  go_wp2_with (first | (go_at_call 117; refine (HR.out _).mono ?_; rintro e w3 ⟨rfl, hb3⟩; obtain ⟨u3, rfl⟩ := after hb3; have z3 : w.heap.size < (on u3).heap.size := (by have := on_size u3; simp at this; omega); clear hb3) | (go_at_call 58; refine (check_bad _ _ _ H.out).mono ?_; rintro e w1 ⟨rfl, hb1⟩; obtain ⟨u1, rfl⟩ := after hb1; clear hb1) | fail)
  exact bodyPost_ret (v := .tuple #[ln 0 0, .int .i64 4]) (by simp [results, Tryz.results78, go_sem, z3]) rfl ⟨rfl, by repeat first | (with_reducible exact Below.refl _ _) | (with_reducible refine below_on ?_ _) | (with_reducible refine below_alloc ?_ _) | (with_reducible refine below_set ?_ (by simp; try omega) _) | (with_reducible refine below_drew ?_)⟩
theorem toList_mk (l : List UInt8) : (ByteArray.mk l.toArray).toList = l := by simp
/-- Parse, at every string: the line whose text it is; else ErrForm. -/
def ParsePost (s : ByteArray) (w : World) (e : Ending) (w' : World) : Prop :=
  ((∃ k c : Int, 1 ≤ k ∧ k ≤ 4 ∧ -4096 ≤ c ∧ c ≤ 4096 ∧ s.toList = textL k c ∧ e = .returned (.tuple #[ln k c, .int .i64 0])) ∨ e = .returned (.tuple #[ln 0 0, .int .i64 4])) ∧ Below w.heap.size w w'
theorem parse_text (k c : Int) (w : World) (hT : Tab w) (h1 : 1 ≤ k) (h2 : k ≤ 4) (h3 : -4096 ≤ c) (h4 : c ≤ 4096) : Calls Tryz.prog 78 #[.string ⟨(textL k c).toArray⟩] w fun e w' => e = .returned (.tuple #[ln k c, .int .i64 0]) ∧ Below w.heap.size w w' := by
  have hr := rd_text k c h1 h2 h3 h4
  have hl := itoa_len c (by omega) (by omega)
  refine parse_ok _ k c w hT h1 h2 h3 h4 (by show (textL k c).toArray.size ≤ _; unfold maxLen textL; simp; omega) (by unfold rdK; rw [hr]) (by unfold rdC; rw [hr]; show (if c < 0 then -c else c) * (if c < 0 then -1 else 1) = c; split <;> omega) (by rw [toList_mk]; simp)
end Go.Proofs.YtkmmnlhmfiabfaaGreatDoor
