/-
  Says: slices.Delete and slices.Insert as answers of the executor.
-/
import Derived.Test.YtpieoofkikjjjaaGreatDoorIn4
import Derived.Test.YtpieoofkikjjjaaGreatDoorIn5
set_option linter.unusedVariables false
set_option linter.unusedSimpArgs false
namespace Go.Proofs.YtpieoofkikjjjaaGreatDoor
open Go Go.RowKit

open Go.Vx
/-- The cells without some elements. -/
noncomputable def delC (c : List Value) (off i j n : Nat) : List Value := appL (takeL (dropL c off) (i * 3)) (takeL (dropL c (off + j * 3)) ((n - j) * 3))
noncomputable def delD (args : List Value) (V : VW) : Option (Value × VW) :=
  match args with
  | [.slice (some ⟨b, off, none⟩) n cap, .int .i64 (.ofNat i), .int .i64 (.ofNat j)] =>
    match V.heap.get b with
    | some (.cells c e fz) =>
      if (((Nat.ble half cap && Nat.ble cap BIG) && (Nat.beq off ((BIG - cap) * 3) && !fz)) && ((Nat.beq e 42 && Nat.ble V.floor b) && (Nat.blt V.size top && Nat.blt i j))) && ((Nat.ble j n && Nat.ble n 65536) && (Nat.ble (off + n * 3) (lenL c) && allL Value.oneCell' c)) then
        some (slTo (i + (n - j)) BIG V.size, (V.put b (.dfr true)).push (.cells (delC c off i j n) 42 false))
      else none
    | _ => none
  | _ => none
noncomputable def ndQ (f : FuncId) (args : List Value) (V : VW) : Option (Value × VW) :=
  match Nat.beq f 112 with
  | true => (match args with
    | x :: _ => delD args (flatV V x)
    | _ => none)
  | false => insQ f args V
theorem ndQ_end : True := trivial
variable [Syms] [Keeps]
theorem delD_ok {G : VW} (args : List Value) (V : VW) (v : Value) (V' : VW) (h : delD args V = some (v, V')) : CallOk Tryz.prog G (.val v V') 112 args V := by
  intro v1 V1 he B β w args' hB hW hA _ cs
  cases he
  unfold delD at h
  split at h
  · rename_i b off n cap i j
    split at h
    · rename_i c e fz hg
      split at h
      · rename_i hcond
        simp only [Bool.and_eq_true] at hcond
        obtain ⟨⟨⟨⟨c2, c3⟩, c4, c5⟩, ⟨c7, c8⟩, c9, c10⟩, ⟨c11, c12⟩, c14, c16⟩ := hcond
        have c2 := Nat.le_of_ble_eq_true c2
        have c3 := Nat.le_of_ble_eq_true c3
        have c4 := Nat.eq_of_beq_eq_true c4
        have c7 := Nat.eq_of_beq_eq_true c7
        have c8 := Nat.le_of_ble_eq_true c8
        have c9 := blt_lt c9
        have c10 := blt_lt c10
        have c11 := Nat.le_of_ble_eq_true c11
        have c12 := Nat.le_of_ble_eq_true c12
        have c14 := Nat.le_of_ble_eq_true c14
        rw [lenL_eq] at c14
        rw [allL_eq] at c16
        have c5 : fz = false := by simpa using c5
        subst c5 c7
        cases h
        cases hA with
        | cons hv1 hA =>
        cases hA with
        | cons hv2 hA =>
        cases hA with
        | cons hv3 hA =>
        cases hA
        have hv2 := @VR.of_atom _ _ _ _ hv2 rfl
        subst hv2
        have hv3 := @VR.of_atom _ _ _ _ hv3 rfl
        subst hv3
        obtain ⟨rb, cp, sh, o', hse, hbe, hb, ho, hn1, hn2⟩ := hW.sl hv1 hg nofun
        subst hse
        obtain ⟨pre, mid, post, fr, rfl, rfl, hr, hcap, hfz⟩ := ho.inv
        have hfr := hfz rfl
        subst hfr
        rw [sizeT_C] at hcap
        obtain ⟨hc1, hc2⟩ := hn2 c2
        have hcr : capR cp cap = cp - (BIG - cap) := if_neg (by omega)
        have hml : mid.length = c.length := hr.length.symm ▸ rfl
        obtain ⟨L, hL⟩ : ∃ L : List Value, L = pre ++ (mid ++ post) := ⟨_, rfl⟩
        have hLl : L.length = pre.length + mid.length + post.length := by rw [hL]; simp; omega
        have hdr : ∀ k, L.drop (k + pre.length) = (mid ++ post).drop k := fun k => by
          rw [hL, Nat.add_comm, ← List.drop_drop, List.drop_left]
        have hseg : ∀ k l, k + l ≤ mid.length → (L.drop (k + pre.length)).take l = (mid.drop k).take l := fun k l hk => by
          rw [hdr, List.drop_append_of_le_length (by omega), List.take_append_of_le_length (by rw [List.length_drop]; omega)]
        have h1c : ∀ u ∈ ((⟨L⟩ : Array Value).toList.drop (off + pre.length + j * 3)).take ((n - j) * 3), u.oneCell' = true := fun u hu => by
          rw [show off + pre.length + j * 3 = off + j * 3 + pre.length by omega] at hu
          rw [hseg _ _ (by omega)] at hu
          have h1 := hr.one c16
          exact List.all_eq_true.1 h1 u (List.mem_of_mem_drop (List.mem_of_mem_take hu))
        rw [← hL] at hb
        have hfit : off + pre.length + capR cp cap * 3 ≤ (⟨L⟩ : Array Value).size := by
          show _ ≤ L.length
          rw [hLl, hcr, Nat.sub_mul]
          omega
        have hM : VRs β (delC c off i j n) ((mid.drop off).take (i * 3) ++ (mid.drop (off + j * 3)).take ((n - j) * 3)) := by
          unfold delC
          rw [appL_eq, takeL_eq, takeL_eq, dropL_eq, dropL_eq]
          exact ((hr.drop off).take _).append ((hr.drop _).take _)
        have hMl : ((mid.drop off).take (i * 3) ++ (mid.drop (off + j * 3)).take ((n - j) * 3)).length = (i + (n - j)) * 3 := by
          simp
          omega
        have hcapB : ∀ q, capR q BIG = q := fun q => by
          unfold capR
          rw [if_neg (by show ¬ (9223372036854775808 < 4611686018427387904); omega)]
          omega
        obtain ⟨r, w', fr', ⟨Z, hZ, rfl, rfl⟩, s1, s2, s3⟩ := del_own rb (off + pre.length) n (capR cp cap) i j ⟨L⟩ w c10 c11 c12 hb hfit hn1 h1c cs
        obtain ⟨m1, m2⟩ := (hW.drewW).move hbe c8 c9 (capR cp cap) (off + pre.length) (o := .cells (delC c off i j n) 42 false)
          (o' := .cells ⟨(pre ++ mid.take off) ++ (((mid.drop off).take (i * 3) ++ (mid.drop (off + j * 3)).take ((n - j) * 3)) ++ (Z ++ (mid ++ post).drop (off + n * 3)))⟩ 42 (0, 0))
          (.cells (by simp; omega) (hM.mono (Ext.kill β b)) (by
            rw [sizeT_C, hMl, List.length_append, hZ, List.length_drop, List.length_append, hcr, Nat.sub_mul]
            omega) (fun _ => rfl))
        have t1 : L.take (off + pre.length + i * 3) = pre ++ (mid.take off ++ (mid.drop off).take (i * 3)) := by
          rw [hL, List.take_append, List.take_of_length_le (by omega : pre.length ≤ off + pre.length + i * 3), show off + pre.length + i * 3 - pre.length = off + i * 3 by omega, List.take_append_of_le_length (by omega), List.take_add]
        have harr : (delL L (off + pre.length) i j n Z).toArray = ⟨(pre ++ mid.take off) ++ (((mid.drop off).take (i * 3) ++ (mid.drop (off + j * 3)).take ((n - j) * 3)) ++ (Z ++ (mid ++ post).drop (off + n * 3)))⟩ := by
          unfold delL
          rw [t1, show off + pre.length + j * 3 = off + j * 3 + pre.length by omega, hseg _ _ (by omega), show off + pre.length + n * 3 = off + n * 3 + pre.length by omega, hdr]
          apply Array.ext'
          simp
        have hbd : w.drew.heap[rb]? = some (.cells ⟨L⟩ 42 (0, 0)) := hb
        rw [putObj_setRow hbd] at s1 s3
        rw [harr] at s1 s3
        refine ⟨_, _, _, fr', m2, m1, ?_, s1, s2, s3⟩
        have := VR.sl (β := upd (upd β b .dead) V.size (.live rb (capR cp cap) (off + pre.length))) (o := 0) (n := i + (n - j)) (c := BIG) (upd_same _ _ _) (by rw [hcapB]; omega) (fun _ => ⟨Nat.le_refl _, by omega⟩)
        rw [hcapB, Nat.zero_add] at this
        exact this
      · cases h
    · cases h
  · cases h
theorem ndQ_ok {G : VW} (f : FuncId) (args : List Value) (V : VW) (v : Value) (V' : VW) (h : ndQ f args V = some (v, V')) : CallOk Tryz.prog G (.val v V') f args V := by
  unfold ndQ at h
  split at h
  · rename_i hf
    obtain rfl := Nat.eq_of_beq_eq_true hf
    split at h
    · rename_i x l
      intro v1 V1 he B β w args' hB hW hA
      cases hA with
      | cons hx hA => exact delD_ok (G := G) _ _ _ _ h v1 V1 he B β w _ hB (flatV_ok hW hx) (.cons hx hA)
    · cases h
  · exact insQ_ok f args V v V' h
noncomputable def ndOrc (P : Program) (V : VW) (a : FuncId → List Value → Option Value) (m : Nat) (l : List DeepE) (c : Code → Env → St → Option R) : Orc := ⟨a, fun _ _ => none, fun _ => false, V, fun f args V => match ndQ f args V with
  | some x => some x
  | none => deepL P m (mkD l) f args V, c⟩
theorem ndOrc_ok {G : VW} (hT : Tabs Tryz.prog G) {V : VW} {a : FuncId → List Value → Option Value} {m : Nat} {l : List DeepE} {c : Code → Env → St → Option R} (hV : V = ⟨G.heap, Tryz.prog.globals.size, Tryz.prog.globals.size⟩) (h : AnsOk Tryz.prog G a) (hl : DeepsOk Tryz.prog G l) (hc : CutsOk Tryz.prog G c) : OrcOk Tryz.prog G (ndOrc Tryz.prog V a m l c) :=
  ⟨h, fun _ _ _ hh => (by cases hh), hV, fun f args V v V' hh => by
    have hh : (match ndQ f args V with
      | some x => some x
      | none => deepL Tryz.prog m (mkD l) f args V) = some (v, V') := hh
    cases hq : ndQ f args V with
    | some x =>
      rw [hq] at hh
      cases hh
      exact ndQ_ok f args V v V' hq
    | none =>
      rw [hq] at hh
      exact deepL_ok hT hl f args V v V' hh, hc⟩

end Go.Proofs.YtpieoofkikjjjaaGreatDoor
