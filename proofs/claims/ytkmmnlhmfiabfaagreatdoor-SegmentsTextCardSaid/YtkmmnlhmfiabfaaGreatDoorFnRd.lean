/-
  Says: what read makes of every string.
-/
import Derived.Test.YtkmmnlhmfiabfaaGreatDoorFnK
import Derived.Lib.OthersKept
set_option linter.unusedVariables false
set_option linter.unusedSimpArgs false
namespace Go.Proofs.YtkmmnlhmfiabfaaGreatDoor
open Go Go.RowKit

/-- What one rune at byte pos does to what has been read: kind, sign, number. -/
def stp (pos : Nat) (r k sg c : Int) : Int × Int × Int := if pos = 0 then (kindR r, sg, c) else if r = 45 then (k, -1, c) else if 48 ≤ r ∧ r ≤ 57 ∧ c ≤ 4096 then (k, sg, 10 * c + (r - 48)) else (k, sg, c)
def rdF (s : ByteArray) : Nat → Nat → Int × Int × Int → Int × Int × Int
  | 0, _, st => st
  | f + 1, pos, st => if pos < s.size then rdF s f (pos + (Utf8.decode s pos).2) (stp pos (Utf8.decode s pos).1 st.1 st.2.1 st.2.2) else st
theorem rdF_end (s : ByteArray) (f pos : Nat) (st : Int × Int × Int) (h : ¬ pos < s.size) : rdF s f pos st = st := by
  cases f with
  | zero => rfl
  | succ f => simp [rdF, h]
theorem width_pos (s : ByteArray) (pos : Nat) (h : pos < s.size) : 1 ≤ (Utf8.decode s pos).2 := by
  by_cases ha : (s[pos]'h).toNat < 128
  · rw [decode_ascii s pos h ha]
    exact Nat.le_refl _
  · exact (decode_high s pos h (by omega)).2
theorem kindR_range (r : Int) : 0 ≤ kindR r ∧ kindR r ≤ 4 := by
  unfold kindR
  repeat' split
  all_goals omega
/-- Where the reading stands at byte pos. -/
structure Rd (s : ByteArray) (w wr : World) (pos fu : Nat) (k sg c : Int) : Prop where
  k0 : 0 ≤ k
  k1 : k ≤ 4
  sg1 : sg = 1 ∨ sg = -1
  c0 : 0 ≤ c
  c1 : c ≤ 40969
  eq : rdF s fu pos (k, sg, c) = rdF s s.size 0 (0, 1, 0)
  fuel : s.size ≤ pos + fu
  small : pos ≤ s.size + 4
  line : wr.heap[w.heap.size + 1]? = some (.cells #[.int .u8 k, .int .i64 c] 27)
  res : wr.heap[w.heap.size]? = some (.cells #[.int .u8 0, .int .i64 0] 27)
  iter : wr.heap[w.heap.size + 1 + 1]? = some (.stringIter s pos)
  below : Below w.heap.size w wr
theorem decode_w (s : ByteArray) (pos : Nat) : (Utf8.decode s pos).2 ≤ 4 := by
  simp only [Utf8.decode]
  repeat' split
  all_goals simp_all [Utf8.runeError]
theorem push_last (w : World) (o : Obj) : (w.alloc o).heap[w.heap.size]? = some o := by
  show (w.heap.push o)[w.heap.size]? = _
  simp
theorem iterPos_of {w : World} {k : Nat} {s : ByteArray} {p : Nat} (h : w.heap[k]? = some (.stringIter s p)) : w.iterPos k = p := by simp [World.iterPos, h]
set_option maxHeartbeats 4000000 in
theorem read_any (s : ByteArray) (w : World) (hs : s.size ≤ maxLen) : Calls Tryz.prog 117 #[.string s] w fun e w' => e = .returned (ln (rdF s s.size 0 (0, 1, 0)).1 ((rdF s s.size 0 (0, 1, 0)).2.2 * (rdF s s.size 0 (0, 1, 0)).2.1)) ∧ Below w.heap.size w w' := by
  unfold maxLen at hs
  go_enter Tryz.func117, Tryz.ntmps117
  go_wp2
  go_loopw [4] (fun sgv wr => ∃ (pos fu : Nat) (k sg c : Int), sgv = .int .i64 sg ∧ Rd s w wr pos fu k sg c) (fun _ wr => s.size - wr.iterPos (w.heap.size + 1 + 1))
  case atStart =>
    refine ⟨0, s.size, 0, 1, 0, rfl, ⟨by omega, by omega, by omega, by omega, by omega, rfl, by omega, by omega, ?_, ?_, ?_, ?_⟩⟩
    · show (((w.alloc _).alloc _).alloc _).heap[w.heap.size + 1]? = _
      rw [Below.heap_alloc _ _ _ (by simp)]
      have := push_last (w.alloc (.cells #[.int .u8 0, .int .i64 0] 27)) (.cells #[.int .u8 0, .int .i64 0] 27)
      simpa using this
    · show (((w.alloc _).alloc _).alloc _).heap[w.heap.size]? = _
      rw [Below.heap_alloc _ _ _ (by simp; omega), Below.heap_alloc _ _ _ (by simp)]
      exact push_last w _
    · show (((w.alloc _).alloc _).alloc _).heap[w.heap.size + 1 + 1]? = _
      have := push_last ((w.alloc (.cells #[.int .u8 0, .int .i64 0] 27)).alloc (.cells #[.int .u8 0, .int .i64 0] 27)) (.stringIter s 0)
      simpa using this
    · exact below_alloc (below_alloc (below_alloc (Below.refl _ _) _) _) _
  case round =>
    obtain ⟨pos, fu, k, sg, c, rfl, hr⟩ := hrel
    obtain ⟨hk0, hk1, hsg, hc0, hc1, heq, hfu, hsm, hline, hres, hiter, hbel⟩ := hr
    by_cases hp : pos < s.size
    · have hwd := width_pos s pos hp
      have hdw := decode_w s pos
      have hd1 := decode_le s pos
      obtain ⟨fu', rfl⟩ : ∃ f, fu = f + 1 := ⟨fu - 1, by omega⟩
      have hnx := fun ty => Lib.run_next_any_at (P := Tryz.prog) wr (w.heap.size + 1 + 1) s pos ty hiter hp
      have hit := Lib.iterAt_heap wr (w.heap.size + 1 + 1) s pos (pos + (Utf8.decode s pos).2) hiter
      have hl := (Lib.iterAt_other wr (w.heap.size + 1 + 1) (w.heap.size + 1) s (pos + (Utf8.decode s pos).2) (by omega)).trans hline
      have hrs := (Lib.iterAt_other wr (w.heap.size + 1 + 1) w.heap.size s (pos + (Utf8.decode s pos).2) (by omega)).trans hres
      have hbl := Lib.below_iterAt hbel (k := w.heap.size + 1 + 1) (by omega) s (pos + (Utf8.decode s pos).2)
      have hst : rdF s fu' (pos + (Utf8.decode s pos).2) (stp pos (Utf8.decode s pos).1 k sg c) = rdF s s.size 0 (0, 1, 0) := by rw [← heq]; simp [rdF, hp]
      have HI : Hid (wr.iterPos (w.heap.size + 1 + 1) = pos) := iterPos_of hiter
      clear heq hline hres hiter hbel
      generalize wr.iterAt (w.heap.size + 1 + 1) s (pos + (Utf8.decode s pos).2) = W at hnx hit hl hrs hbl
      generalize (Utf8.decode s pos).2 = D at hwd hdw hit hst
      obtain ⟨R, hR⟩ : ∃ R : Int, ((Utf8.decode s pos).1 : Int) = R := ⟨_, rfl⟩
      have hR0 : 0 ≤ R := by omega
      have hR1 : R ≤ 2147483647 := by omega
      rw [hR] at hnx hst
      clear hR hd1
      have e0 : W.cell? ⟨w.heap.size + 1, 0, none⟩ = some (.int .u8 k) := held_cell hl 0
      have e1 : W.cell? ⟨w.heap.size + 1, 1, none⟩ = some (.int .i64 c) := held_cell hl 1
      have f0 : W.frozen? ⟨w.heap.size + 1, 0, none⟩ = false := held_free hl 0
      have f1 : W.frozen? ⟨w.heap.size + 1, 1, none⟩ = false := held_free hl 1
      have HS : Hid (rdF s fu' (pos + D) (stp pos R k sg c) = rdF s s.size 0 (0, 1, 0)) := hst
      have HL : Hid (W.heap[w.heap.size + 1]? = some (.cells #[.int .u8 k, .int .i64 c] 27)) := hl
      have HR : Hid (W.heap[w.heap.size]? = some (.cells #[.int .u8 0, .int .i64 0] 27)) := hrs
      have HT : Hid (W.heap[w.heap.size + 1 + 1]? = some (.stringIter s (pos + D))) := hit
      have HG : Hid (sg = 1 ∨ sg = -1) := hsg
      clear hst hl hrs hit hsg
      by_cases hz : pos = 0
      · have hz1 : ((pos : Int) == 0) = true := by simp [hz]
        have HZ : Hid (pos = 0) := hz
        clear hz
        go_wp2_with (go_at_call 155; refine (kindOf_any _ _).mono ?_; rintro e w3 ⟨rfl, hb3⟩; obtain ⟨u3, rfl⟩ := after hb3; clear hb3)
        go_roundw
        case rel =>
          have hkr := kindR_range R
          exact ⟨pos + D, fu', kindR R, sg, c, rfl, ⟨hkr.1, hkr.2, HG.out, hc0, hc1, by have := HS.out; unfold stp at this; rw [if_pos HZ.out] at this; exact this, by omega, by omega, held_set (held_on u3 HL.out) 0 _, held_set_other (held_on u3 HR.out) (by omega) _ _, held_set_other (held_on u3 HT.out) (by omega) _ _, below_set (below_on hbl u3) (by simp) _⟩⟩
        case measure =>
          rw [HI.out, iterPos_of (held_set_other (held_on u3 HT.out) (by omega) _ _)]
          omega
      · have hz1 : ((pos : Int) == 0) = false := by simpa using hz
        have HZ : Hid (¬ pos = 0) := hz
        clear hz
        by_cases hm : R = 45
        · subst hm
          go_wp2_with fail
          go_roundw
          case rel =>
            exact ⟨pos + D, fu', k, -1, c, rfl, ⟨hk0, hk1, .inr rfl, hc0, hc1, by have := HS.out; unfold stp at this; rw [if_neg HZ.out, if_pos rfl] at this; exact this, by omega, by omega, HL.out, HR.out, HT.out, hbl⟩⟩
          case measure =>
            rw [HI.out, iterPos_of HT.out]
            omega
        · have hm1 : (R == 45) = false := by simpa using hm
          have HM : Hid (¬ R = 45) := hm
          clear hm
          by_cases a1 : 48 ≤ R
          · by_cases a2 : R ≤ 57
            · by_cases a3 : c ≤ 4096
              · go_wp2_with fail
                go_roundw
                case rel =>
                  exact ⟨pos + D, fu', k, sg, 10 * c + (R - 48), rfl, ⟨hk0, hk1, HG.out, by omega, by omega, by have := HS.out; unfold stp at this; rw [if_neg HZ.out, if_neg HM.out, if_pos ⟨a1, a2, a3⟩] at this; exact this, by omega, by omega, held_set HL.out 1 _, held_set_other HR.out (by omega) _ _, held_set_other HT.out (by omega) _ _, below_set hbl (by simp) _⟩⟩
                case measure =>
                  rw [HI.out, iterPos_of (held_set_other HT.out (by omega) _ _)]
                  omega
              · go_wp2_with fail
                go_roundw
                case rel => exact ⟨pos + D, fu', k, sg, c, rfl, ⟨hk0, hk1, HG.out, hc0, hc1, by have := HS.out; unfold stp at this; rw [if_neg HZ.out, if_neg HM.out, if_neg (by omega)] at this; exact this, by omega, by omega, HL.out, HR.out, HT.out, hbl⟩⟩
                case measure =>
                  rw [HI.out, iterPos_of HT.out]
                  omega
            · go_wp2_with fail
              go_roundw
              case rel => exact ⟨pos + D, fu', k, sg, c, rfl, ⟨hk0, hk1, HG.out, hc0, hc1, by have := HS.out; unfold stp at this; rw [if_neg HZ.out, if_neg HM.out, if_neg (by omega)] at this; exact this, by omega, by omega, HL.out, HR.out, HT.out, hbl⟩⟩
              case measure =>
                rw [HI.out, iterPos_of HT.out]
                omega
          · go_wp2_with fail
            go_roundw
            case rel => exact ⟨pos + D, fu', k, sg, c, rfl, ⟨hk0, hk1, HG.out, hc0, hc1, by have := HS.out; unfold stp at this; rw [if_neg HZ.out, if_neg HM.out, if_neg (by omega)] at this; exact this, by omega, by omega, HL.out, HR.out, HT.out, hbl⟩⟩
            case measure =>
              rw [HI.out, iterPos_of HT.out]
              omega
    · have hnx := fun ty => Lib.run_next_end_at (P := Tryz.prog) wr (w.heap.size + 1 + 1) s pos ty hiter hp
      rw [rdF_end s fu pos _ hp] at heq
      have HE : Hid (((k, sg, c) : Int × Int × Int) = rdF s s.size 0 (0, 1, 0)) := heq
      have e0 : wr.cell? ⟨w.heap.size + 1, 0, none⟩ = some (.int .u8 k) := held_cell hline 0
      have e1 : wr.cell? ⟨w.heap.size + 1, 1, none⟩ = some (.int .i64 c) := held_cell hline 1
      have f0 : wr.frozen? ⟨w.heap.size + 1, 0, none⟩ = false := held_free hline 0
      have f1 : wr.frozen? ⟨w.heap.size + 1, 1, none⟩ = false := held_free hline 1
      have e2 : wr.cell? ⟨w.heap.size, 0, none⟩ = some (.int .u8 0) := held_cell hres 0
      have e3 : wr.cell? ⟨w.heap.size, 1, none⟩ = some (.int .i64 0) := held_cell hres 1
      have f2 : wr.frozen? ⟨w.heap.size, 0, none⟩ = false := held_free hres 0
      have f3 : wr.frozen? ⟨w.heap.size, 1, none⟩ = false := held_free hres 1
      clear heq hline hres hiter
      rcases hsg with rfl | rfl
      · go_wp2
        refine bodyPost_ret (v := ln k c) (by simp [results, Tryz.results117, go_sem, e0, e1, e2, e3, f0, f1, f2, f3]) rfl ⟨?_, ?_⟩
        · rw [← HE.out]; simp
        · repeat first | exact hbel | (with_reducible refine below_set ?_ (by simp) _)
      · go_wp2
        refine bodyPost_ret (v := ln k (-c)) (by simp [results, Tryz.results117, go_sem, e0, e1, e2, e3, f0, f1, f2, f3]) rfl ⟨?_, ?_⟩
        · rw [← HE.out]; simp
        · repeat first | exact hbel | (with_reducible refine below_set ?_ (by simp) _)

end Go.Proofs.YtkmmnlhmfiabfaaGreatDoor
