/-
  Says: CellsWay answers true.
-/
import Derived.Test.YtgkiliijefkcaaaDoorLwWay0
import Derived.Test.YtgkiliijefkcaaaDoorCv1
import Derived.Test.YtgkiliijefkcaaaDoorCf9
import Derived.Test.YtgkiliijefkcaaaDoorCf4
import Derived.Test.YtgkiliijefkcaaaDoorCf3
import Derived.Test.YtgkiliijefkcaaaDoorCb
import Derived.BigRegion
import Derived.Deep.CutRange
set_option linter.unusedVariables false
set_option linter.unusedSimpArgs false
namespace Go.Proofs.YtgkiliijefkcaaaDoor
open Go Go.RowKit

attribute [local go_sem] World.cell?_alloc_some frozen?_alloc_cells fz0 fz1 fz2 fz3 fz4 fz5

theorem le_drew {W : World} (u : Later W.drew) : W.heap.size ≤ (on u).heap.size := u.b.size
theorem lnC_near (q e x y : Int) (q1 : 0 ≤ q) (q2 : q ≤ 3) (e1 : 0 ≤ e) (e2 : e ≤ 2) (x1 : -490 ≤ x) (x2 : x ≤ 490) (y1 : -490 ≤ y) (y2 : y ≤ 490) : -1000 ≤ lnC q e x y - 1 ∧ lnC q e x y ≤ 1000 := by
  unfold lnC; (repeat' split) <;> omega
theorem nb_near (q e x y : Int) : x - 1 ≤ nbX q e x ∧ nbX q e x ≤ x + 1 ∧ y - 1 ≤ nbY q e y ∧ nbY q e y ≤ y + 1 ∧ 0 ≤ nbQ q e ∧ nbQ q e ≤ 3 := by
  refine ⟨?_, ?_, ?_, ?_, (nbQ_range q e).1, (nbQ_range q e).2⟩
  iterate 2 (unfold nbX; (repeat' split) <;> omega)
  all_goals (unfold nbY; (repeat' split) <;> omega)

theorem way_facts (x y p : Int) (k n : Nat) (z ax ay aq T X Y : Int) (x1 : -128 ≤ x) (x2 : x ≤ 127) (y1 : -128 ≤ y) (y2 : y ≤ 127) (hp1 : 0 ≤ p) (hp2 : p ≤ 3) (hn : (n : Int) ≤ 30) (hk : (k : Int) < n) (z1 : 0 ≤ z) (z2 : z ≤ 255) (HP : Hid (0 ≤ T ∧ T ≤ 7 ∧ (X + Y) % 2 = 0 ∧ imX T X x y = ax ∧ imY T Y x y = ay ∧ imQ T p = aq ∧ 0 ≤ aq ∧ aq ≤ 3 ∧ -128 - (k : Int) ≤ ax ∧ ax ≤ 128 + (k : Int) ∧ -128 - (k : Int) ≤ ay ∧ ay ≤ 128 + (k : Int) ∧ (4 ≤ T ↔ (k : Int) % 2 = 1))) :
    ∃ K C nx ny nq rT rX rY T' X' Y' : Int,
      (∀ W, Calls Tryd.prog 11 #[cl ax ay aq, .int .u8 (z.tmod 3)] W fun r w' => r = .returned (.tuple #[ln K C, .int .i64 0]) ∧ Below W.heap.size W w') ∧
      (∀ W, Lay W → Calls Tryd.prog 19 #[cl ax ay aq, .int .u8 (z.tmod 3)] W fun r w' => r = .returned (.tuple #[cl nx ny nq, .int .i64 0]) ∧ Below W.heap.size W w') ∧
      (∀ W, Calls Tryd.prog 34 #[ln K C] W fun r w' => r = .returned (.tuple #[mv rT rX rY, .int .i64 0]) ∧ Below W.heap.size W w') ∧
      (∀ W, Lay W → Calls Tryd.prog 35 #[mv T X Y, mv rT rX rY] W fun r w' => r = .returned (.tuple #[mv T' X' Y', .int .i64 0]) ∧ Below W.heap.size W w') ∧
      Hid (0 ≤ T' ∧ T' ≤ 7 ∧ (X' + Y') % 2 = 0 ∧ imX T' X' x y = nx ∧ imY T' Y' x y = ny ∧ imQ T' p = nq ∧ 0 ≤ nq ∧ nq ≤ 3 ∧ -128 - (k + 1 : Int) ≤ nx ∧ nx ≤ 128 + (k + 1 : Int) ∧ -128 - (k + 1 : Int) ≤ ny ∧ ny ≤ 128 + (k + 1 : Int) ∧ (4 ≤ T' ↔ (k + 1 : Int) % 2 = 1)) := by
  obtain ⟨t1, t2, t3, t4, t5, t6, t7, t8, t9, t10, t11, t12, t13⟩ := HP.out
  rw [Int.tmod_eq_emod_of_nonneg z1]
  generalize he : z % 3 = e
  have e1 : 0 ≤ e := by omega
  have e2 : e ≤ 2 := by omega
  have kr := lnK_range aq e
  have cr := lnC_near aq e ax ay t7 t8 e1 e2 (by omega) (by omega) (by omega) (by omega)
  have nr := nb_near aq e ax ay
  have rn := rf_nb ax ay aq e t7 t8 e1 e2
  have rr := rf_range (lnK aq e) (lnC aq e ax ay) kr.1 kr.2 (by omega) (by omega)
  have ib := im_bound T X Y x y 128 (158) t1 t2 (by omega) (by omega) (by omega) (by omega) (by omega) (by omega) (by omega) (by omega)
  have m1 := mvx_range 287 (rfT (lnK aq e)) X Y (by omega) (by omega) (by omega) (by omega) (by omega) (by omega)
  have m2 := mvy_range 287 (rfT (lnK aq e)) X Y (by omega) (by omega) (by omega) (by omega) (by omega) (by omega)
  have ic := im_comp T (rfT (lnK aq e)) X Y (rfX (lnK aq e) (lnC aq e ax ay)) (rfY (lnK aq e) (lnC aq e ax ay)) x y t1 t2 (by omega) (by omega)
  have iq := imQ_comp T (rfT (lnK aq e)) p t1 t2 (by omega) (by omega)
  have mr := mulT_range T (rfT (lnK aq e)) t1 t2 (by omega) (by omega)
  have mp := mv_par (rfT (lnK aq e)) X Y (by omega) (by omega)
  have mf := mulT_flip T (rfT (lnK aq e)) t1 t2 rr.1 rr.2.1
  rw [t4, t5] at ic
  rw [t6] at iq
  exact ⟨_, _, _, _, _, _, _, _, _, _, _, fun W => cline_ok ax ay aq e W (by omega) (by omega) (by omega) (by omega) t7 t8 e1 e2 (by omega) (by omega),
    fun W h => cnei_ok ax ay aq e W h (by omega) (by omega) (by omega) (by omega) t7 t8 e1 e2 (by omega) (by omega) (by omega) (by omega),
    fun W => mof_any (lnK aq e) (lnC aq e ax ay) W kr.1 kr.2 (by omega) (by omega),
    fun W h => then_ok T X Y (rfT (lnK aq e)) (rfX (lnK aq e) (lnC aq e ax ay)) (rfY (lnK aq e) (lnC aq e ax ay)) W h.turns t1 t2 (by omega) (by omega) (by omega) (by omega) t3 (by omega) (by omega) (by omega) (by omega) (by omega) (by omega) rr.2.2.2.2.2.2 (by omega) (by omega) (by omega) (by omega),
    ⟨mr.1, mr.2, by omega, ic.1.symm.trans rn.1, ic.2.symm.trans rn.2.1, iq.symm.trans rn.2.2, nr.2.2.2.2.1, nr.2.2.2.2.2, by omega, by omega, by omega, by omega, by rw [mf]; omega⟩⟩

set_option maxRecDepth 100000 in
set_option maxHeartbeats 8000000 in
theorem way_core (x y q p : Int) (pa : Option Addr) (ab ao n cap : Nat) (zs : List Int) (w : World) (hL : Lay w) (x1 : -128 ≤ x) (x2 : x ≤ 127) (y1 : -128 ≤ y) (y2 : y ≤ 127) (q1 : 0 ≤ q) (q2 : q ≤ 255) (hp : p = q % 4) (hn : (n : Int) ≤ 30) (hpa : 0 < n → pa = some ⟨ab, ao, none⟩)
    (hc : ∀ i : Nat, i < n → w.cell? ⟨ab, ao + i, none⟩ = some (.int .u8 (zs.getD i 0))) (hz : ∀ i : Nat, 0 ≤ zs.getD i 0 ∧ zs.getD i 0 ≤ 255) : Calls Tryd.prog 9 #[.agg #[.int .i8 x, .int .i8 y, .int .u8 q], .slice pa n cap] w fun r w' => r = .returned (.bool true) ∧ Below w.heap.size w w' := by
  have hp1 : 0 ≤ p := by omega
  have hp2 : p ≤ 3 := by omega
  have CO : ∀ W, Calls Tryd.prog 32 #[.agg #[.int .i8 x, .int .i8 y, .int .u8 q]] W fun e w' => e = .returned (cl x y p) ∧ Below W.heap.size W w' := fun W => by rw [hp]; exact cof2_any x y q W x1 x2 y1 y2 q1 q2
  clear hp
  go_enter Tryd.func9, Tryd.ntmps9
  go_wp2_with fail
  have hB0 : Below w.heap.size w (w.alloc (.cells #[.int .i8 x, .int .i8 y, .int .u8 q] 68)) := belr
  have hX : (w.alloc (.cells #[.int .i8 x, .int .i8 y, .int .u8 q] 68)).heap[w.heap.size]? = some (.cells #[.int .i8 x, .int .i8 y, .int .u8 q] 68) := heap_alloc_new _ _
  generalize w.alloc (.cells #[.int .i8 x, .int .i8 y, .int .u8 q] 68) = W0 at *
  have b00 : W0.cell? ⟨w.heap.size, 0, none⟩ = some (.int .i8 x) := held_cell hX 0
  have b01 : W0.cell? ⟨w.heap.size, 1, none⟩ = some (.int .i8 y) := held_cell hX 1
  have b02 : W0.cell? ⟨w.heap.size, 2, none⟩ = some (.int .u8 q) := held_cell hX 2
  clear hX
  go_wp2_with (first | (go_at_call 32; with_reducible refine (CO _).mono ?_; rintro e wx ⟨rfl, hx⟩; obtain ⟨ux, rfl⟩ := after hx; clear hx) | fail)
  have hR : Below W0.heap.size W0 ((on ux).alloc (.cells #[.int .i64 (x), .int .i64 (y), .int .u8 (p)] 23)) := belr
  replace b00 := cRy hR b00
  replace b01 := cRy hR b01
  replace b02 := cRy hR b02
  have hB1 := hB0.trans (hR.mono hB0.size)
  have hA : ((on ux).alloc (.cells #[.int .i64 (x), .int .i64 (y), .int .u8 (p)] 23)).heap[(on ux).heap.size]? = some (.cells #[.int .i64 (x), .int .i64 (y), .int .u8 (p)] 23) := heap_alloc_new _ _
  have hwA : w.heap.size ≤ (on ux).heap.size := Nat.le_trans hB0.size (on_size ux)
  clear hR hB0
  generalize (on ux).alloc (.cells #[.int .i64 (x), .int .i64 (y), .int .u8 (p)] 23) = W1 at *
  generalize (on ux).heap.size = A at *
  clear ux
  go_wp2_with (first | (go_at_call 33; with_reducible refine (ident_any _).mono ?_; rintro e wx ⟨rfl, hx⟩; obtain ⟨ux, rfl⟩ := after hx; clear hx) | fail)
  have hR : Below W1.heap.size W1 ((on ux).alloc (.cells #[.int .u8 0, .int .i64 0, .int .i64 0] 54)) := belr
  replace b00 := cRy hR b00
  replace b01 := cRy hR b01
  replace b02 := cRy hR b02
  have hB2 := hB1.trans (hR.mono hB1.size)
  have hM : ((on ux).alloc (.cells #[.int .u8 0, .int .i64 0, .int .i64 0] 54)).heap[(on ux).heap.size]? = some (.cells #[.int .u8 0, .int .i64 0, .int .i64 0] 54) := heap_alloc_new _ _
  have hAM : A < (on ux).heap.size := Nat.lt_of_lt_of_le (held_lt hA) (on_size ux)
  replace hA := (hR.block _ (held_lt hA)).trans hA
  clear hR hB1
  generalize (on ux).alloc (.cells #[.int .u8 0, .int .i64 0, .int .i64 0] 54) = W2 at *
  generalize (on ux).heap.size = M at *
  clear ux
  have hwx : w.heap.size < A := by
    have := World.block_lt_of_cell? _ _ b00
    exact Nat.lt_of_le_of_ne hwA (fun h => by
      subst h
      have e := held_cell hA 0
      have := b00.symm.trans e
      simp at this)
  go_loopw [7] (fun iv wr => ∃ k : Nat, iv = .int .i64 k ∧ k ≤ n ∧ ∃ ax ay aq T X Y : Int, Hid (0 ≤ T ∧ T ≤ 7 ∧ (X + Y) % 2 = 0 ∧ imX T X x y = ax ∧ imY T Y x y = ay ∧ imQ T p = aq ∧ 0 ≤ aq ∧ aq ≤ 3 ∧ -128 - (k : Int) ≤ ax ∧ ax ≤ 128 + (k : Int) ∧ -128 - (k : Int) ≤ ay ∧ ay ≤ 128 + (k : Int) ∧ (4 ≤ T ↔ (k : Int) % 2 = 1)) ∧ ∃ u : Later w, wr = on u ∧ (on u).heap[A]? = some (.cells #[.int .i64 ax, .int .i64 ay, .int .u8 aq] 23) ∧ (on u).heap[M]? = some (.cells #[.int .u8 T, .int .i64 X, .int .i64 Y] 54) ∧ (on u).cell? ⟨w.heap.size, 0, none⟩ = some (.int .i8 x) ∧ (on u).cell? ⟨w.heap.size, 1, none⟩ = some (.int .i8 y) ∧ (on u).cell? ⟨w.heap.size, 2, none⟩ = some (.int .u8 q)) (fun iv _ => (n - intOf iv).toNat)
  case atStart => exact ⟨0, rfl, Nat.zero_le _, x, y, p, 0, 0, 0, ⟨by omega, by omega, by omega, by simp [imX, mvx0, ngx0], by simp [imY, mvy0, ngy0], by unfold imQ; (repeat' split) <;> omega, by omega, by omega, by omega, by omega, by omega, by omega, by omega⟩, ⟨W2, hB2⟩, rfl, hA, hM, b00, b01, b02⟩
  case round =>
    obtain ⟨k, rfl, hk, ax, ay, aq, T, X, Y, HP, u0, rfl, gA, gM, k0, k1, k2⟩ := hrel
    have hq : Below w.heap.size w (on u0) := u0.b
    clear hA hM b00 b01 b02 hB2
    by_cases hkn : k < n
    · have hkn' : (k : Int) < n := by omega
      obtain rfl := hpa (by omega)
      clear hpa
      obtain ⟨z1, z2⟩ := hz k
      have hcl : (on u0).cell? ⟨ab, ao + k, none⟩ = some (.int .u8 (zs.getD k 0)) := cRy hq (hc k hkn)
      have a0 : (on u0).cell? ⟨A, 0, none⟩ = some (.int .i64 ax) := held_cell gA 0
      have a1 : (on u0).cell? ⟨A, 1, none⟩ = some (.int .i64 ay) := held_cell gA 1
      have a2 : (on u0).cell? ⟨A, 2, none⟩ = some (.int .u8 aq) := held_cell gA 2
      generalize zs.getD k 0 = z at *
      clear hc hz
      go_upto_region 8 with fail
      obtain ⟨K, C, nx, ny, nq, rT, rX, rY, T', X', Y', LN, NB_, OF, TH, NEXT⟩ := way_facts x y p k n z ax ay aq T X Y x1 x2 y1 y2 hp1 hp2 hn hkn' z1 z2 HP
      clear HP
      go_cut [8, 9] from 22 to 71 (fun s8 s9 wx => ∃ b : Nat, s8 = .pointer (some ⟨b, 0, none⟩) ∧ s9 = .int .i64 0 ∧ Below (on u0).heap.size (on u0) wx ∧ wx.cell? ⟨b, 0, none⟩ = some (.int .u8 K) ∧ wx.cell? ⟨b, 1, none⟩ = some (.int .i64 C))
      case first =>
        go_region_with (first | (go_at_call 11; with_reducible refine (LN _).mono ?_; rintro e wx ⟨rfl, hx⟩; obtain ⟨ux, rfl⟩ := after hx; clear hx))
        all_goals (go_wp2_with fail; go_meet)
        all_goals exact ⟨_, rfl, rfl, (by repeat first | (with_reducible exact Below.refl _ _) | (with_reducible exact hq) | (with_reducible refine below_on ?_ _) | (with_reducible refine below_alloc ?_ _) | (with_reducible refine below_drew ?_) | (with_reducible refine below_set ?_ (by first | exact Nat.le_refl _ | exact on_size _ | exact le_drew _ | (rename_i u9; have := le_drew u9; simp at this ⊢; omega) | (have := on_size ux; simp at this ⊢; omega)) _)), by simp [go_sem, *], by simp [go_sem, *]⟩
      case rest =>
        obtain ⟨b, rfl, rfl, hbx, c0, c1⟩ := hcut
        generalize wc = V1 at *
        replace hq := hq.trans (hbx.mono hq.size)
        replace hcl := cRy hbx hcl
        replace gA := (hbx.block _ (held_lt gA)).trans gA
        replace gM := (hbx.block _ (held_lt gM)).trans gM
        replace k0 := cRy hbx k0
        replace k1 := cRy hbx k1
        replace k2 := cRy hbx k2
        clear a0 a1 a2 hbx u0
        have a0 : V1.cell? ⟨A, 0, none⟩ = some (.int .i64 ax) := held_cell gA 0
        have a1 : V1.cell? ⟨A, 1, none⟩ = some (.int .i64 ay) := held_cell gA 1
        have a2 : V1.cell? ⟨A, 2, none⟩ = some (.int .u8 aq) := held_cell gA 2
        go_upto_region 9 with fail
        go_cut [10, 11] from 22 to 71 (fun s8 s9 wx => ∃ b : Nat, s8 = .pointer (some ⟨b, 0, none⟩) ∧ s9 = .int .i64 0 ∧ Below V1.heap.size V1 wx ∧ wx.cell? ⟨b, 0, none⟩ = some (.int .i64 nx) ∧ wx.cell? ⟨b, 1, none⟩ = some (.int .i64 ny) ∧ wx.cell? ⟨b, 2, none⟩ = some (.int .u8 nq))
        case first =>
          go_region_with (first | (go_at_call 19; with_reducible refine (NB_ _ (lay_below hL (by repeat first | (with_reducible exact Below.refl _ _) | (with_reducible exact hq) | (with_reducible refine below_on ?_ _) | (with_reducible refine below_alloc ?_ _) | (with_reducible refine below_drew ?_) | (with_reducible refine below_set ?_ (by first | exact Nat.le_refl _ | exact on_size _ | exact le_drew _ | (rename_i u9; have := le_drew u9; simp at this ⊢; omega) | (have := on_size ux; simp at this ⊢; omega)) _)))).mono ?_; rintro e wx ⟨rfl, hx⟩; obtain ⟨ux, rfl⟩ := after hx; clear hx))
          all_goals (go_wp2_with fail; go_meet)
          all_goals exact ⟨_, rfl, rfl, (by repeat first | (with_reducible exact Below.refl _ _) | (with_reducible exact hq) | (with_reducible refine below_on ?_ _) | (with_reducible refine below_alloc ?_ _) | (with_reducible refine below_drew ?_) | (with_reducible refine below_set ?_ (by first | exact Nat.le_refl _ | exact on_size _ | exact le_drew _ | (rename_i u9; have := le_drew u9; simp at this ⊢; omega) | (have := on_size ux; simp at this ⊢; omega)) _)), by simp [go_sem, *], by simp [go_sem, *], by simp [go_sem, *]⟩
        case rest =>
        obtain ⟨c, rfl, rfl, hbx, d0, d1, d2⟩ := hcut
        generalize wc = V2 at *
        replace hq := hq.trans (hbx.mono hq.size)
        replace c0 := cRy hbx c0
        replace c1 := cRy hbx c1
        replace gA := (hbx.block _ (held_lt gA)).trans gA
        replace gM := (hbx.block _ (held_lt gM)).trans gM
        replace k0 := cRy hbx k0
        replace k1 := cRy hbx k1
        replace k2 := cRy hbx k2
        clear a0 a1 a2 hbx hcl
        have m0 : V2.cell? ⟨M, 0, none⟩ = some (.int .u8 T) := held_cell gM 0
        have m1 : V2.cell? ⟨M, 1, none⟩ = some (.int .i64 X) := held_cell gM 1
        have m2 : V2.cell? ⟨M, 2, none⟩ = some (.int .i64 Y) := held_cell gM 2
        go_wp2_with (first | (go_at_call 34; with_reducible refine (OF _).mono ?_; rintro e wx ⟨rfl, hx⟩; obtain ⟨ux, rfl⟩ := after hx; clear hx) | fail)
        have hR : Below V2.heap.size V2 ((on ux).alloc (.cells #[.int .u8 rT, .int .i64 rX, .int .i64 rY] 54)) := belr
        replace hq := hq.trans (hR.mono hq.size)
        replace d0 := cRy hR d0
        replace d1 := cRy hR d1
        replace d2 := cRy hR d2
        replace gA := (hR.block _ (held_lt gA)).trans gA
        replace gM := (hR.block _ (held_lt gM)).trans gM
        replace k0 := cRy hR k0
        replace k1 := cRy hR k1
        replace k2 := cRy hR k2
        clear m0 m1 m2 c0 c1 hR
        generalize (on ux).alloc (.cells #[.int .u8 rT, .int .i64 rX, .int .i64 rY] 54) = V3 at *
        generalize (on ux).heap.size = R at *
        clear ux
        have cM : ¬ M = c := fun h => by
          subst h
          have := d0.symm.trans (held_cell gM 0)
          simp at this
        have Mc : ¬ c = M := fun h => cM h.symm
        have AM : ¬ A = M := by omega
        have MA : ¬ M = A := by omega
        have wM : ¬ w.heap.size = M := by omega
        have wA : ¬ w.heap.size = A := by omega
        have Ml : M < V3.heap.size := held_lt gM
        have Al : A < V3.heap.size := held_lt gA
        have f0 : V3.frozen? ⟨M, 0, none⟩ = false := held_free gM 0
        have f1 : V3.frozen? ⟨M, 1, none⟩ = false := held_free gM 1
        have f2 : V3.frozen? ⟨M, 2, none⟩ = false := held_free gM 2
        have p0 : V3.frozen? ⟨A, 0, none⟩ = false := held_free gA 0
        have p1 : V3.frozen? ⟨A, 1, none⟩ = false := held_free gA 1
        have p2 : V3.frozen? ⟨A, 2, none⟩ = false := held_free gA 2
        have m0 : V3.cell? ⟨M, 0, none⟩ = some (.int .u8 T) := held_cell gM 0
        have m1 : V3.cell? ⟨M, 1, none⟩ = some (.int .i64 X) := held_cell gM 1
        have m2 : V3.cell? ⟨M, 2, none⟩ = some (.int .i64 Y) := held_cell gM 2
        have a0 : V3.cell? ⟨A, 0, none⟩ = some (.int .i64 ax) := held_cell gA 0
        have a1 : V3.cell? ⟨A, 1, none⟩ = some (.int .i64 ay) := held_cell gA 1
        have a2 : V3.cell? ⟨A, 2, none⟩ = some (.int .u8 aq) := held_cell gA 2
        go_wp2_with (first | (go_at_call 35; with_reducible refine (TH _ (lyb hL)).mono ?_; rintro e wx ⟨rfl, hx⟩; obtain ⟨ux, rfl⟩ := after hx; clear hx) | fail)
        have hx := held_on ux gA
        have hy := held_on ux gM
        have e : ((k + 1 : Nat) : Int) = (k : Int) + 1 := by omega
        have far : ∀ (i : Nat) v, V3.cell? ⟨w.heap.size, i, none⟩ = some v → (((((((on ux).setCell ⟨M, 0, none⟩ (.int .u8 T')).setCell ⟨M, 1, none⟩ (.int .i64 X')).setCell ⟨M, 2, none⟩ (.int .i64 Y')).setCell ⟨A, 0, none⟩ (.int .i64 nx)).setCell ⟨A, 1, none⟩ (.int .i64 ny)).setCell ⟨A, 2, none⟩ (.int .u8 nq)).cell? ⟨w.heap.size, i, none⟩ = some v := fun i v h => by
          rw [World.cell?_setCell_far _ _ _ _ (Ne.symm wA), World.cell?_setCell_far _ _ _ _ (Ne.symm wA), World.cell?_setCell_far _ _ _ _ (Ne.symm wA), World.cell?_setCell_far _ _ _ _ (Ne.symm wM), World.cell?_setCell_far _ _ _ _ (Ne.symm wM), World.cell?_setCell_far _ _ _ _ (Ne.symm wM)]
          exact held_c ux h
        have hwM : w.heap.size ≤ M := by omega
        exact ⟨⟨k + 1, by simp, by omega, nx, ny, nq, T', X', Y', (by rw [e]; exact NEXT), ⟨_, below_set (below_set (below_set (below_set (below_set (below_set (below_on hq ux) hwM _) hwM _) hwM _) hwA _) hwA _) hwA _⟩, rfl, held_set (held_set (held_set (held_set_other (held_set_other (held_set_other hx AM _ _) AM _ _) AM _ _) 0 _) 1 _) 2 _, held_set_other (held_set_other (held_set_other (held_set (held_set (held_set hy 0 _) 1 _) 2 _) MA _ _) MA _ _) MA _ _, far _ _ k0, far _ _ k1, far _ _ k2⟩, by simp [intOf]; omega⟩
    · obtain rfl : k = n := by omega
      obtain ⟨t1, t2, t3, t4, t5, t6, t7, t8, t9, t10, t11, t12, t13⟩ := HP.out
      have ib := im_bound T X Y x y 128 158 t1 t2 (by omega) (by omega) (by omega) (by omega) (by omega) (by omega) (by omega) (by omega)
      have bo := btT_only T x y p ax ay aq hp1 hp2 t7 t8 t1 t2 t6 (by rw [imX_add] at t4; rw [imY_add] at t5; omega)
      have BT := fun W h => cbt_ok x y p ax ay aq W h (by omega) (by omega) (by omega) (by omega) hp1 hp2 (by omega) (by omega) (by omega) (by omega) t7 t8
      rw [← bo, show ax - imX T 0 x y = X by rw [imX_add] at t4; omega, show ay - imY T 0 x y = Y by rw [imY_add] at t5; omega] at BT
      have FL : ∀ fl : Bool, decide (4 ≤ T) = fl → ∀ W, Calls Tryd.prog 36 #[mv T X Y] W fun r w' => r = .returned (.bool fl) ∧ Below W.heap.size W w' := fun fl h W => by rw [← h]; exact flips_ok T X Y W t1 t2 (by omega) (by omega) (by omega) (by omega) t3
      obtain ⟨fl, r, FL2, hr, hf⟩ : ∃ (fl : Bool) (r : Int), (∀ W, Calls Tryd.prog 36 #[mv T X Y] W fun r w' => r = .returned (.bool fl) ∧ Below W.heap.size W w') ∧ (k : Int).tmod 2 = r ∧ (fl = true ∧ r = 1 ∨ fl = false ∧ r = 0) := by
        rw [Int.tmod_eq_emod_of_nonneg (by omega)]
        by_cases h4 : 4 ≤ T
        · exact ⟨true, 1, FL true (by simp [h4]), t13.1 h4, .inl ⟨rfl, rfl⟩⟩
        · exact ⟨false, 0, FL false (by simp [h4]), by have : ¬ (k : Int) % 2 = 1 := fun h => h4 (t13.2 h); omega, .inr ⟨rfl, rfl⟩⟩
      have HF : Hid (fl = true ∧ r = 1 ∨ fl = false ∧ r = 0) := hf
      clear hc hz hpa HP ib bo FL t1 t2 t3 t4 t5 t6 t7 t8 t9 t10 t11 t12 t13 hf hk hkn
      have m0 : (on u0).cell? ⟨M, 0, none⟩ = some (.int .u8 T) := held_cell gM 0
      have m1 : (on u0).cell? ⟨M, 1, none⟩ = some (.int .i64 X) := held_cell gM 1
      have m2 : (on u0).cell? ⟨M, 2, none⟩ = some (.int .i64 Y) := held_cell gM 2
      have a0 : (on u0).cell? ⟨A, 0, none⟩ = some (.int .i64 ax) := held_cell gA 0
      have a1 : (on u0).cell? ⟨A, 1, none⟩ = some (.int .i64 ay) := held_cell gA 1
      have a2 : (on u0).cell? ⟨A, 2, none⟩ = some (.int .u8 aq) := held_cell gA 2
      go_upto_region 17 with fail
      go_cut [14, 15] from 72 (fun s8 s9 wx => ∃ b : Nat, s8 = .pointer (some ⟨b, 0, none⟩) ∧ s9 = .int .i64 0 ∧ Below (on u0).heap.size (on u0) wx ∧ wx.cell? ⟨b, 0, none⟩ = some (.int .u8 T) ∧ wx.cell? ⟨b, 1, none⟩ = some (.int .i64 X) ∧ wx.cell? ⟨b, 2, none⟩ = some (.int .i64 Y))
      case first =>
        go_region_with (first | (go_at_call 32; with_reducible refine (CO _).mono ?_; rintro e wx ⟨rfl, hx⟩; obtain ⟨ux, rfl⟩ := after hx; clear hx) | (go_at_call 28; with_reducible refine (BT _ (lay_below hL (by repeat first | (with_reducible exact Below.refl _ _) | (with_reducible exact hq) | (with_reducible refine below_on ?_ _) | (with_reducible refine below_alloc ?_ _) | (with_reducible refine below_drew ?_) | (with_reducible refine below_set ?_ (by first | exact Nat.le_refl _ | exact on_size _ | exact le_drew _ | (rename_i u9; have := le_drew u9; simp at this ⊢; omega) | (have := on_size ux; simp at this ⊢; omega)) _)))).mono ?_; rintro e wx ⟨rfl, hx⟩; obtain ⟨ux, rfl⟩ := after hx; clear hx))
        all_goals (go_wp2_with fail; go_meet)
        all_goals exact ⟨_, rfl, rfl, (by repeat first | (with_reducible exact Below.refl _ _) | (with_reducible exact hq) | (with_reducible refine below_on ?_ _) | (with_reducible refine below_alloc ?_ _) | (with_reducible refine below_drew ?_) | (with_reducible refine below_set ?_ (by first | exact Nat.le_refl _ | exact on_size _ | exact le_drew _ | (rename_i u9; have := le_drew u9; simp at this ⊢; omega) | (have := on_size ux; simp at this ⊢; omega)) _)), by simp [go_sem, *], by simp [go_sem, *], by simp [go_sem, *]⟩
      case rest =>
        obtain ⟨b, rfl, rfl, hbx, c0, c1, c2⟩ := hcut
        generalize wc = V1 at *
        replace hq := hq.trans (hbx.mono hq.size)
        replace m0 := cRy hbx m0
        replace m1 := cRy hbx m1
        replace m2 := cRy hbx m2
        clear a0 a1 a2 gA gM k0 k1 k2 hbx u0
        obtain ⟨rfl, rfl⟩ | ⟨rfl, rfl⟩ := HF.out
        all_goals go_wp2_with (first | (go_at_call 36; with_reducible refine (FL2 _).mono ?_; rintro e wx ⟨rfl, hx⟩; obtain ⟨ux, rfl⟩ := after hx; clear hx) | (go_at_call 15; with_reducible refine (clives_ok _ (lyb hL)).mono ?_; rintro e wx ⟨rfl, hx⟩; obtain ⟨ux, rfl⟩ := after hx; clear hx) | fail)
        all_goals go_ret
        all_goals exact ⟨by first | rfl | (simp; done) | (simp; omega), belw⟩

set_option maxRecDepth 100000 in
set_option maxHeartbeats 8000000 in
theorem way_long (x y q : Int) (pa : Option Addr) (n cap : Nat) (w : World) (hn : 30 < (n : Int)) : Calls Tryd.prog 9 #[.agg #[.int .i8 x, .int .i8 y, .int .u8 q], .slice pa n cap] w fun r w' => r = .returned (.bool true) ∧ Below w.heap.size w w' := by
  go_enter Tryd.func9, Tryd.ntmps9
  go_wp2_with fail
  go_ret
  exact ⟨by first | rfl | (simp; done) | (simp; omega), belr⟩
theorem cellsway_law (x y q : Int) (pa : Option Addr) (ab ao n cap : Nat) (zs : List Int) (w : World) (hL : Lay w) (x1 : -128 ≤ x) (x2 : x ≤ 127) (y1 : -128 ≤ y) (y2 : y ≤ 127) (q1 : 0 ≤ q) (q2 : q ≤ 255) (hpa : 0 < n → pa = some ⟨ab, ao, none⟩)
    (hc : ∀ i : Nat, i < n → w.cell? ⟨ab, ao + i, none⟩ = some (.int .u8 (zs.getD i 0))) (hz : ∀ i : Nat, 0 ≤ zs.getD i 0 ∧ zs.getD i 0 ≤ 255) : Calls Tryd.prog 9 #[.agg #[.int .i8 x, .int .i8 y, .int .u8 q], .slice pa n cap] w fun r w' => r = .returned (.bool true) ∧ Below w.heap.size w w' := by
  by_cases hn : (n : Int) ≤ 30
  · exact way_core x y q (q % 4) pa ab ao n cap zs w hL x1 x2 y1 y2 q1 q2 rfl hn hpa hc hz
  · exact way_long x y q pa n cap w (by omega)

end Go.Proofs.YtgkiliijefkcaaaDoor
