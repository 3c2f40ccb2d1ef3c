/-
  Says: slices.Insert as an answer of the executor: the row that it was handed is given up, a new one stands for it.
-/
import Derived.Test.YtpieoofkikjjjaaGreatDoorVx24
import Derived.Test.YtpieoofkikjjjaaGreatDoorIn1
import Derived.Test.YtpieoofkikjjjaaGreatDoorIn2
import Derived.Test.YtpieoofkikjjjaaGreatDoorIn3
set_option linter.unusedVariables false
set_option linter.unusedSimpArgs false
namespace Go.Proofs.YtpieoofkikjjjaaGreatDoor
open Go Go.RowKit

open Go.Vx
/-- The cells behind an insertion. -/
noncomputable def insC (c d : List Value) (off i n : Nat) : List Value := appL (appL (takeL (dropL c off) (i * 3)) d) (takeL (dropL c (off + i * 3)) ((n - i) * 3))
noncomputable def insD (args : List Value) (V : VW) : Option (Value × VW) :=
  match args with
  | [.slice (some ⟨b, off, none⟩) n cap, .int .i64 (.ofNat i), .slice (some ⟨vb, voff, none⟩) m vc] =>
    match V.heap.get b, V.heap.get vb with
    | some (.cells c e fz), some (.cells d e' fz') =>
      if ((((Nat.beq m 1 && Nat.ble half cap) && (Nat.ble cap BIG && Nat.beq off ((BIG - cap) * 3))) && ((!fz && !fz') && (Nat.beq e 42 && (Nat.ble V.floor b && Nat.blt V.size top)))) && (((Nat.ble i n && Nat.ble 1 n) && (Nat.ble n 65536 && !Nat.beq vb b)) && ((Nat.ble (off + n * 3) (lenL c) && Nat.ble (voff + 3) (lenL d)) && (allL Value.oneCell' c && allL Value.oneCell' d)))) then
        some (slTo (n + 1) BIG V.size, (V.put b (.dfr true)).push (.cells (insC c (takeL (dropL d voff) 3) off i n) 42 false))
      else none
    | _, _ => none
  | _ => none
noncomputable def insQ (f : FuncId) (args : List Value) (V : VW) : Option (Value × VW) :=
  match Nat.beq f 113 with
  | true => (match args with
    | x :: _ => insD args (flatV V x)
    | _ => none)
  | false => none
theorem sizeT_C : sizeT Tryz.prog 42 = 3 := by kernel_rfl
theorem row_cells {w : World} {g : Nat} {pre mid post : List Value} {e : TypeId} {fr : Nat × Nat} (h : w.heap[g]? = some (.cells ⟨pre ++ (mid ++ post)⟩ e fr)) {j : Nat} {v : Value} (hj : mid[j]? = some v) : w.cell? ⟨g, j + pre.length, none⟩ = some v := by
  have hlt := (List.getElem?_eq_some_iff.1 hj).1
  simp only [World.cell?, h]
  simp only [Option.isSome_none, Bool.false_eq_true, if_false]
  show (⟨pre ++ (mid ++ post)⟩ : Array Value)[j + pre.length]? = some v
  rw [show (⟨pre ++ (mid ++ post)⟩ : Array Value)[j + pre.length]? = (pre ++ (mid ++ post))[j + pre.length]? by simp, List.getElem?_append_right (by omega), Nat.add_sub_cancel, List.getElem?_append_left hlt, hj]
variable [Syms] [Keeps]
theorem insD_ok {G : VW} (args : List Value) (V : VW) (v : Value) (V' : VW) (h : insD args V = some (v, V')) : CallOk Tryz.prog G (.val v V') 113 args V := by
  intro v1 V1 he B β w args' hB hW hA _ cs
  cases he
  unfold insD at h
  split at h
  · rename_i b off n cap i vb voff m vc
    split at h
    · rename_i c e fz d e' fz' hg hgv
      split at h
      · rename_i hcond
        simp only [Bool.and_eq_true] at hcond
        obtain ⟨⟨⟨⟨c1, c2⟩, c3, c4⟩, ⟨c5, c6⟩, c7, c8, c9⟩, ⟨⟨c10, c11⟩, c12, c13⟩, ⟨c14, c15⟩, c16, c17⟩ := hcond
        have c1 := Nat.eq_of_beq_eq_true c1
        have c2 := Nat.le_of_ble_eq_true c2
        have c3 := Nat.le_of_ble_eq_true c3
        have c4 := Nat.eq_of_beq_eq_true c4
        have c7 := Nat.eq_of_beq_eq_true c7
        have c8 := Nat.le_of_ble_eq_true c8
        have c9 := blt_lt c9
        have c10 := Nat.le_of_ble_eq_true c10
        have c11 := Nat.le_of_ble_eq_true c11
        have c12 := Nat.le_of_ble_eq_true c12
        have c13 : vb ≠ b := fun hh => by
          rw [hh, Nat.beq_refl] at c13
          cases c13
        have c14 := Nat.le_of_ble_eq_true c14
        have c15 := Nat.le_of_ble_eq_true c15
        rw [lenL_eq] at c14 c15
        rw [allL_eq] at c16 c17
        have c5 : fz = false := by simpa using c5
        have c6 : fz' = false := by simpa using c6
        subst c1 c5 c6 c7
        cases h
        cases hA with
        | cons hv1 hA =>
        cases hA with
        | cons hv2 hA =>
        cases hA with
        | cons hv3 hA =>
        cases hA
        have hv2 := @VR.of_atom _ _ _ _ hv2 rfl
        subst hv2
        obtain ⟨rb, cp, sh, o', hse, hbe, hb, ho, hn1, hn2⟩ := hW.sl hv1 hg nofun
        subst hse
        obtain ⟨pre, mid, post, fr, rfl, rfl, hr, hcap, hfz⟩ := ho.inv
        have hfr := hfz rfl
        subst hfr
        obtain ⟨rv, cp2, sh2, o2, hse, hbv, hbb, ho2, hm1, hm2⟩ := hW.sl hv3 hgv nofun
        subst hse
        obtain ⟨pre2, mid2, post2, fr2, rfl, rfl, hr2, hcap2, hfz2⟩ := ho2.inv
        have hfr2 := hfz2 rfl
        subst hfr2
        rw [sizeT_C] at hcap
        obtain ⟨hc1, hc2⟩ := hn2 c2
        have hcr : capR cp cap = cp - (BIG - cap) := if_neg (by omega)
        have hml : mid.length = c.length := hr.length.symm ▸ rfl
        have hml2 : mid2.length = d.length := hr2.length.symm ▸ rfl
        have hne : rv ≠ rb := fun hh => c13 (hW.inj _ _ _ _ _ _ _ hbv (hh ▸ hbe))
        obtain ⟨vs, hvsd⟩ : ∃ vs, vs = (mid2.drop voff).take 3 := ⟨_, rfl⟩
        have hvl : vs.length = 3 := by rw [hvsd, List.length_take, List.length_drop]; omega
        have hvR : VRs β ((d.drop voff).take 3) vs := by rw [hvsd]; exact (hr2.drop voff).take 3
        have hvs : ∀ j u, vs[j]? = some u → w.cell? ⟨rv, voff + pre2.length + j, none⟩ = some u := fun j u hj => by
          rw [hvsd, List.getElem?_take] at hj
          split at hj
          · rw [List.getElem?_drop] at hj
            have := row_cells hbb hj
            rwa [show voff + j + pre2.length = voff + pre2.length + j by omega] at this
          · cases hj
        have h1v : ∀ u ∈ vs, u.oneCell' = true := fun u hu => by
          have h1 := hvR.one (List.all_eq_true.2 fun x hx => List.all_eq_true.1 c17 x (List.mem_of_mem_drop (List.mem_of_mem_take hx)))
          exact List.all_eq_true.1 h1 u hu
        obtain ⟨L, hL⟩ : ∃ L, L = pre ++ (mid ++ post) := ⟨_, rfl⟩
        have hLl : L.length = pre.length + mid.length + post.length := by rw [hL]; simp; omega
        have hdr : ∀ k, L.drop (k + pre.length) = (mid ++ post).drop k := fun k => by
          rw [hL, Nat.add_comm, ← List.drop_drop, List.drop_left]
        have hseg : ∀ k l, k + l ≤ mid.length → (L.drop (k + pre.length)).take l = (mid.drop k).take l := fun k l hk => by
          rw [hdr, List.drop_append_of_le_length (by omega), List.take_append_of_le_length (by rw [List.length_drop]; omega)]
        have hmul : (n - i) * 3 + i * 3 = n * 3 := by omega
        have h1c : ∀ u ∈ ((⟨L⟩ : Array Value).toList.drop (off + pre.length + i * 3)).take ((n - i) * 3), u.oneCell' = true := fun u hu => by
          rw [show off + pre.length + i * 3 = off + i * 3 + pre.length by omega] at hu
          rw [hseg _ _ (by omega)] at hu
          have h1 := hr.one c16
          exact List.all_eq_true.1 h1 u (List.mem_of_mem_drop (List.mem_of_mem_take hu))
        rw [← hL] at hb
        have hfit : off + pre.length + capR cp cap * 3 ≤ (⟨L⟩ : Array Value).size := by
          show _ ≤ L.length
          rw [hLl, hcr, Nat.sub_mul]
          omega
        have hM : VRs β (insC c ((d.drop voff).take 3) off i n) ((mid.drop off).take (i * 3) ++ vs ++ (mid.drop (off + i * 3)).take ((n - i) * 3)) := by
          unfold insC
          rw [appL_eq, appL_eq, takeL_eq, takeL_eq, dropL_eq, dropL_eq]
          exact (((hr.drop off).take _).append hvR).append ((hr.drop _).take _)
        have hMl : ((mid.drop off).take (i * 3) ++ vs ++ (mid.drop (off + i * 3)).take ((n - i) * 3)).length = (n + 1) * 3 := by
          simp [hvl]
          omega
        rw [takeL_eq, dropL_eq]
        have hcapB : ∀ q, capR q BIG = q := fun q => by
          unfold capR
          rw [if_neg (by show ¬ (9223372036854775808 < 4611686018427387904); omega)]
          omega
        have fin : (Calls Tryz.prog 113 #[.slice (some ⟨rb, off + pre.length, none⟩) n (capR cp cap), .int .i64 (i : Int), .slice (some ⟨rv, voff + pre2.length, none⟩) 1 (capR cp2 vc)] w fun e w' => ∃ β' v', e = .returned v' ∧ Ext β β' ∧ WR Tryz.prog B β' ((V.put b (.dfr true)).push (.cells (insC c ((d.drop voff).take 3) off i n) 42 false)) w' ∧ VR β' (slTo (n + 1) BIG V.size) v') →
            ∃ β' v' w' fr, Ext β β' ∧ WR Tryz.prog B β' ((V.put b (.dfr true)).push (.cells (insC c ((d.drop voff).take 3) off i n) 42 false)) w' ∧ VR β' (slTo (n + 1) BIG V.size) v' ∧ Steps Tryz.prog (lone (Frame.enter Tryz.prog 113 ⟨[.slice (some ⟨rb, off + pre.length, none⟩) n (capR cp cap), .int .i64 (i : Int), .slice (some ⟨rv, voff + pre2.length, none⟩) 1 (capR cp2 vc)]⟩ .normal) cs w) (lone fr cs w') ∧ fr.fn = 113 ∧ fr.leaving Tryz.prog w' (.returned v') := fun hc => by
          obtain ⟨r, w', fr', ⟨β', v', rfl, k1, k2, k3⟩, s1, s2, s3⟩ := hc cs
          exact ⟨β', v', w', fr', k1, k2, k3, s1, s2, s3⟩
        refine fin ?_
        -- in place
        have hE := Ext.kill β b
        have inp : n + 1 ≤ capR cp cap → ∀ w0 : World, WR Tryz.prog B β V w0 → w0.heap = w.heap → ∃ β' v', Ending.returned (.slice (some ⟨rb, off + pre.length, none⟩) (n + 1) (capR cp cap)) = .returned v' ∧ Ext β β' ∧ WR Tryz.prog B β' ((V.put b (.dfr true)).push (.cells (insC c ((d.drop voff).take 3) off i n) 42 false)) (w0.setRow rb (insL L (off + pre.length) i n vs).toArray) ∧ VR β' (slTo (n + 1) BIG V.size) v' := fun hroom w0 hw0 hh => by
          have hb0 : w0.heap[rb]? = some (.cells ⟨L⟩ 42 (0, 0)) := by rw [hh]; exact hb
          have hlong : off + (n + 1) * 3 ≤ mid.length + post.length := by omega
          obtain ⟨m1, m2⟩ := hw0.move hbe c8 c9 (capR cp cap) (off + pre.length) (o := .cells (insC c ((d.drop voff).take 3) off i n) 42 false)
            (o' := .cells ⟨(pre ++ mid.take off) ++ (((mid.drop off).take (i * 3) ++ vs ++ (mid.drop (off + i * 3)).take ((n - i) * 3)) ++ (mid ++ post).drop (off + (n + 1) * 3))⟩ 42 (0, 0))
            (.cells (by simp; omega) (hM.mono hE) (by
              rw [sizeT_C, hMl, List.length_drop, List.length_append, hcr, Nat.sub_mul]
              omega) (fun _ => rfl))
          have t1 : L.take (off + pre.length + i * 3) = pre ++ (mid.take off ++ (mid.drop off).take (i * 3)) := by
            rw [hL, List.take_append, List.take_of_length_le (by omega : pre.length ≤ off + pre.length + i * 3), show off + pre.length + i * 3 - pre.length = off + i * 3 by omega, List.take_append_of_le_length (by omega), List.take_add]
          have harr : (insL L (off + pre.length) i n vs).toArray = ⟨(pre ++ mid.take off) ++ (((mid.drop off).take (i * 3) ++ vs ++ (mid.drop (off + i * 3)).take ((n - i) * 3)) ++ (mid ++ post).drop (off + (n + 1) * 3))⟩ := by
            unfold insL
            rw [t1, show off + pre.length + i * 3 = off + i * 3 + pre.length by omega, hseg _ _ (by omega), show off + pre.length + (n + 1) * 3 = off + (n + 1) * 3 + pre.length by omega, hdr]
            apply Array.ext'
            simp
          rw [putObj_setRow hb0, harr]
          refine ⟨_, _, rfl, m2, m1, ?_⟩
          have := VR.sl (β := upd (upd β b .dead) V.size (.live rb (capR cp cap) (off + pre.length))) (o := 0) (n := n + 1) (c := BIG) (upd_same _ _ _) (by rw [hcapB]; exact hroom) (fun _ => ⟨Nat.le_refl _, by omega⟩)
          rw [hcapB, Nat.zero_add] at this
          exact this
        have gro : ∀ w0 : World, WR Tryz.prog B β V w0 → w0.heap.size = w.heap.size → ∀ (C : Nat) (rest : List Value), n + 1 ≤ C → rest.length = (C - (n + 1)) * 3 → ∃ β' v', Ending.returned (.slice (some ⟨w.heap.size, 0, none⟩) (n + 1) C) = .returned v' ∧ Ext β β' ∧ WR Tryz.prog B β' ((V.put b (.dfr true)).push (.cells (insC c ((d.drop voff).take 3) off i n) 42 false)) (w0.alloc (.cells (((mid.drop off).take (i * 3) ++ vs ++ (mid.drop (off + i * 3)).take ((n - i) * 3)) ++ rest).toArray 42)) ∧ VR β' (slTo (n + 1) BIG V.size) v' := fun w0 hw0 hh C rest hC hrl => by
          have hk := hw0.kill hbe c8
          obtain ⟨β', x1, x2, x3⟩ := new_ok hk (show (V.put b (.dfr true)).size < top from c9) C 0 (o := .cells (insC c ((d.drop voff).take 3) off i n) 42 false)
            (o' := .cells ⟨[] ++ (((mid.drop off).take (i * 3) ++ vs ++ (mid.drop (off + i * 3)).take ((n - i) * 3)) ++ rest)⟩ 42 (0, 0)) (.cells rfl (hM.mono hE) (by rw [sizeT_C, hMl, hrl]; omega) (fun _ => rfl))
          refine ⟨β', _, rfl, hE.trans x1, x2, ?_⟩
          rw [← hh]
          have := VR.sl (β := β') (i := V.size) (o := 0) (n := n + 1) (c := BIG) x3 (by rw [hcapB]; exact hC) (fun _ => ⟨Nat.le_refl _, by omega⟩)
          rw [hcapB, Nat.zero_add] at this
          exact this
        have e1 : ((⟨L⟩ : Array Value).toList.drop (off + pre.length)).take (i * 3) = (mid.drop off).take (i * 3) := hseg off (i * 3) (by omega)
        have e2 : ((⟨L⟩ : Array Value).toList.drop (off + pre.length + i * 3)).take ((n - i) * 3) = (mid.drop (off + i * 3)).take ((n - i) * 3) := by
          rw [show off + pre.length + i * 3 = off + i * 3 + pre.length by omega]
          exact hseg _ _ (by omega)
        rcases Nat.lt_or_ge i n with hlt | hge
        · rcases Nat.lt_or_ge (capR cp cap) (n + 1) with hgr | hroom
          · refine (ins_grow rb (off + pre.length) n (capR cp cap) i rv (voff + pre2.length) (capR cp2 vc) ⟨L⟩ vs w hlt hgr c12 hb hfit hn1 hvl hvs h1v h1c (block_lt hbb)).mono ?_
            rintro _ _ ⟨C, rest, k1, k2, rfl, rfl⟩
            rw [e1, e2]
            exact gro w.drew.drew hW.drewW.drewW rfl C rest k1 k2
          · refine (ins_shift rb (off + pre.length) n (capR cp cap) i rv (voff + pre2.length) (capR cp2 vc) ⟨L⟩ vs w hlt hroom c12 hb hfit hn1 hne hvl hvs h1v h1c e' 42 (pre2 ++ (mid2 ++ post2)).length L.length (by simp only [World.shape?, hbb]; rfl) (by simp only [World.shape?, hb]; rfl) (by omega) (by simp [World.frozen?, hbb]) (by simp [World.frozen?, hbb])).mono ?_
            rintro _ _ ⟨rfl, rfl⟩
            exact inp hroom w.drew hW.drewW rfl
        · obtain rfl : n = i := by omega
          rcases Nat.lt_or_ge (capR cp cap) (n + 1) with hgr | hroom
          · refine (ins_end_grow rb (off + pre.length) n (capR cp cap) rv (voff + pre2.length) (capR cp2 vc) ⟨L⟩ vs w hgr c12 hb hfit hn1 hvl hvs h1v).mono ?_
            rintro _ _ ⟨C, rest, k1, k2, rfl, rfl⟩
            have := gro w.drew hW.drewW rfl C rest k1 k2
            rw [Nat.sub_self, Nat.zero_mul, List.take_zero, List.append_nil] at this
            rw [e1]
            exact this
          · refine (ins_end rb (off + pre.length) n (capR cp cap) rv (voff + pre2.length) (capR cp2 vc) ⟨L⟩ vs w hroom hb hfit hn1 hvl hvs h1v).mono ?_
            rintro _ _ ⟨rfl, rfl⟩
            exact inp hroom w hW rfl
      · cases h
    · cases h
  · cases h
theorem insQ_ok {G : VW} (f : FuncId) (args : List Value) (V : VW) (v : Value) (V' : VW) (h : insQ f args V = some (v, V')) : CallOk Tryz.prog G (.val v V') f args V := by
  unfold insQ at h
  split at h
  · rename_i hf
    obtain rfl := Nat.eq_of_beq_eq_true hf
    split at h
    · rename_i x l
      intro v1 V1 he B β w args' hB hW hA
      cases hA with
      | cons hx hA => exact insD_ok (G := G) _ _ _ _ h v1 V1 he B β w _ hB (flatV_ok hW hx) (.cons hx hA)
    · cases h
  · cases h
noncomputable def insOrc (P : Program) (V : VW) (a : FuncId → List Value → Option Value) (m : Nat) (l : List DeepE) (c : Code → Env → St → Option R) : Orc := ⟨a, fun _ _ => none, fun _ => false, V, fun f args V => match insQ f args V with
  | some x => some x
  | none => deepL P m (mkD l) f args V, c⟩
theorem insOrc_ok {G : VW} (hT : Tabs Tryz.prog G) {V : VW} {a : FuncId → List Value → Option Value} {m : Nat} {l : List DeepE} {c : Code → Env → St → Option R} (hV : V = ⟨G.heap, Tryz.prog.globals.size, Tryz.prog.globals.size⟩) (h : AnsOk Tryz.prog G a) (hl : DeepsOk Tryz.prog G l) (hc : CutsOk Tryz.prog G c) : OrcOk Tryz.prog G (insOrc Tryz.prog V a m l c) :=
  ⟨h, fun _ _ _ hh => (by cases hh), hV, fun f args V v V' hh => by
    have hh : (match insQ f args V with
      | some x => some x
      | none => deepL Tryz.prog m (mkD l) f args V) = some (v, V') := hh
    cases hq : insQ f args V with
    | some x =>
      rw [hq] at hh
      cases hh
      exact insQ_ok f args V v V' hq
    | none =>
      rw [hq] at hh
      exact deepL_ok hT hl f args V v V' hh, hc⟩

end Go.Proofs.YtpieoofkikjjjaaGreatDoor
