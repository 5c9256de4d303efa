/- Contracts of functions of the program and of the model: DigN, TimesN, Scaled, TextI, Out, RatM, Bnd, Comb, PlusN, Limbs, OverN, TimesI, Read2, TimesQ, PlusI, PlusQ, SumI. -/
import Derived.Test.YtegdcmcfeaohhaaGreatDoorPk6
import Derived.Deep.RegionHeld3
set_option linter.all false
set_option linter.unusedVariables false
set_option linter.unusedSimpArgs false
set_option linter.unnecessarySimpa false
set_option linter.deprecated false
namespace Go.Proofs.YtegdcmcfeaohhaaGreatDoor
open Go Go.RowKit Go.Shelf

theorem C19_lt : C19 < W64 := by rw [C19_eq, W64_eq]; omega
theorem C19_pos : 0 < C19 := by rw [C19_eq]; omega

theorem tab_later {P : Program} {w w' : World} {name : String} {k : IntKind} {zs : List Int} {B : Nat} (h : Lib.TabIs P w name k zs) (hb : Below B w w') (hB : w.heap.size ≤ B) : Lib.TabIs P w' name k zs := by
  have hv' : w.var? P name = some (zs.map fun z => Value.int k z).toArray := h
  have hv := hv'
  unfold World.var? at hv'
  show w'.var? P name = some _
  cases hg : P.globalNamed name with
  | none => rw [hg] at hv'; simp at hv'
  | some g =>
    refine var?_below (hb.mono hB |> fun h => h) hg ?_ hv
    rw [hg] at hv'
    simp only [Option.bind_some] at hv'
    rcases Nat.lt_or_ge g w.heap.size with h | h
    · exact h
    · rw [Array.getElem?_eq_none (by omega)] at hv'; simp at hv'

theorem drop_val_ne (n j : Nat) (h : j < (dig C19 n).length) : val C19 ((dig C19 n).drop j) ≠ 0 := by
  intro h0
  have h1 := val_take_drop C19 (dig C19 n) j (by omega)
  rw [h0, val_dig C19_two, Nat.mul_zero, Nat.add_zero] at h1
  have h2 := val_lt (B := C19) ((dig C19 n).take j) (fun d hd => dig_lt C19_two n d (List.mem_of_mem_take hd))
  rw [← h1, List.length_take, Nat.min_eq_left (by omega)] at h2
  have := dig_length_le C19_two j n h2
  omega

def lenS : Value → Nat
  | .slice _ n _ => n
  | _ => 0

set_option maxRecDepth 100000 in
theorem divsC_any (v : Value) (a : Nat) (w : World) (h : IsN w v a) (hlen : (dig W64 a).length ≤ 4) (R : Ending → World → Prop)
    (hR : ∀ v' w', IsN w' v' (a / C19) → Below w.heap.size w w' → (∀ b, blk v' = some b → w.heap.size ≤ b) → R (.returned (.tuple #[v', .int .u64 ((a % C19 : Nat) : Int)])) w') :
    Calls Tryz.prog 154 #[v, .int .u64 10000000000000000000] w R := by
  have := divs_own v a C19 w h C19_pos C19_lt (by omega) R hR
  exact this

/-- a slice elsewhere, behind an append -/
theorem Sl.grown {k : IntKind} {w w' : World} {v : Value} {xs : List Nat} {row : Option Nat} (h : Sl k w v xs) (hg : w.grownBy w' row) (hr : ∀ g, row = some g → blk v ≠ some g) : Sl k w' v xs := by
  obtain ⟨ao, cap, hv, hc, hx⟩ := h
  refine ⟨ao, cap, hv, hc, fun i hi => ?_⟩
  obtain ⟨b, off, h1, h2, h3⟩ := hx i hi
  refine ⟨b, off, h1, Nat.lt_of_lt_of_le h2 hg.size, ?_⟩
  have hb : some b ≠ row := by
    intro e
    refine hr b e.symm ?_
    rw [hv, h1]; rfl
  have := World.cell?_of_block (w := w) (w' := w') (a := ⟨b, off + i, none⟩) (hg.block b h2 hb)
  rw [this]; exact h3

/-- one limb is appended to a slice that the call has made; nothing else changes -/
theorem wpList_pushg {P : Program} {w : World} {ops : Array Oper} {rest : List Oper} {o : Oper} {a : Act} {Q : Exit → Act → World → Prop} (hgd : o.guard = none) (s x : Operand) (t : TypeId)
    (ho : o.op = .call { callee := .builtin .append, args := #[s, x], argTypes := #[t, t] })
    (e : TypeId) (k : IntKind) (bytes : Nat) (ht : P.underlying t = some (.slice e)) (hi : (P.info? e).map (fun i => (i.zero, i.size, i.bytes)) = some (some (.int k 0), 1, bytes)) (hby : bytes ≤ 16)
    (B : Nat) (v : Value) (xs : List Nat) (n : Nat) (hs : a.eval s = v) (hown : Own k e w B v xs)
    (g : Nat) (hx : a.eval x = .slice (some ⟨g, 0, none⟩) 1 1) (hg : w.cell? ⟨g, 0, none⟩ = some (.int k ((n : Nat) : Int)))
    (hlen : xs.length ≤ 100000000) (hB : B ≤ w.heap.size)
    (h : ∀ v' w', Own k e w' B v' (xs ++ [n]) → Below B w w' → w.grownBy w' v.ownBlock → wpList P ops Q rest (a.put o.dst v') w') : wpList P ops Q (o :: rest) a w := by
  obtain ⟨i0, hi0, hz0, hz1, hz2⟩ := info_parts hi
  refine wpList_append_own w hgd s x t ho B e i0 (.int k 0) 1 bytes ht hi0 hz0 hz1 hz2 rfl (by decide) v xs.length (nums k xs) hs hown ⟨g, 0, none⟩ 1 1 [.int k ((n : Nat) : Int)] hx rfl ?_ ?_ ?_ ?_ hB ?_
  · intro j u hj
    match j, hj with
    | 0, hj => simp at hj; subst hj; simpa [Addr.add] using hg
  · intro u hu; simp at hu; subst hu; rfl
  · simp only [maxLen]; omega
  · have : (xs.length + 1) * bytes ≤ (xs.length + 1) * 16 := Nat.mul_le_mul_left _ hby
    omega
  · intro v' w' hown' hgrow _
    refine h v' w' ?_ ?_ hgrow
    · simpa [Own, nums] using hown'
    · refine (Below.refl B w).grown hgrow hB (fun g' hg' => ?_)
      exact (Own.ownBlock hown g' hg').1

theorem Own.shapeS {k : IntKind} {e : TypeId} {w : World} {B : Nat} {v : Value} {xs : List Nat} (h : Own k e w B v xs) : ∃ ao c, v = .slice ao xs.length c := by
  rcases h.2 with ⟨rfl, h2⟩ | ⟨g, cap, cur, rfl, _⟩
  · exact ⟨none, 0, by rw [h2]⟩
  · exact ⟨_, _, rfl⟩

/-- what the first loop keeps: the chunks so far, and what is left -/
def DigRel (w : World) (n : Nat) (av cv : Value) (wr : World) : Prop :=
  ∃ m cs, IsN wr av m ∧ Own .u64 123 wr w.heap.size cv cs ∧ cs ++ dig C19 m = dig C19 n ∧ (dig W64 m).length ≤ 4 ∧ Below w.heap.size w wr

theorem digs_step {n m : Nat} {cs : List Nat} (h : cs ++ dig C19 m = dig C19 n) (hm : m ≠ 0) : (cs ++ [m % C19]) ++ dig C19 (m / C19) = dig C19 n := by
  rw [← h, dig_pos C19_two hm]; simp

theorem limbs_div {m k : Nat} (h : (dig W64 m).length ≤ k) : (dig W64 (m / C19)).length ≤ k := by
  refine dig_length_le W64_two k _ ?_
  have h1 := Nat.lt_of_lt_of_le (lt_pow_dig W64_two m) (Nat.pow_le_pow_right (by rw [W64_eq]; omega) h)
  exact Nat.lt_of_le_of_lt (Nat.div_le_self _ _) h1

/-- what the second loop keeps -/
def OutRel (wr : World) (L : Nat) (cs : List Nat) (iv : Value) (wx : World) : Prop :=
  ∃ k : Nat, iv = .int .i64 ((k : Int) - 1) ∧ k ≤ L ∧ IsB wx wr.heap.size (decs (val C19 (cs.drop k))) ∧ Below wr.heap.size wr wx

theorem rep_zero (c : Nat) : Lib.repeatL [48] c = List.replicate c 48 := by
  induction c with
  | zero => rfl
  | succ c ih => rw [Lib.repeatL, ih, List.replicate_succ]; rfl

set_option maxRecDepth 100000 in
theorem rep48_any (c : Nat) (w : World) (hc : c ≤ 100) (R : Ending → World → Prop)
    (hR : ∀ w', Below w.heap.size w w' → R (.returned (.string ⟨(List.replicate c 48).toArray⟩)) w') :
    Calls Tryz.prog 156 #[.string ⟨#[48]⟩, .int .i64 (c : Int)] w R := by
  refine (Tryz.strings_Repeat ⟨#[48]⟩ c w (by omega) (by show 1 * c ≤ _; omega)).mono ?_
  rintro e w' ⟨rfl, hb⟩
  have := hR w' hb
  rw [← rep_zero] at this
  exact this

theorem bstrF_any (b : Nat) (T : List UInt8) (w : World) (h : IsB w b T) (R : Ending → World → Prop)
    (hR : ∀ w', Lib.IsBuilderF 88 5 b b (Lib.byteCells T) w' → Below b w w' → R (.returned (.string ⟨T.toArray⟩)) w') :
    Calls Tryz.prog 72 #[.pointer (some ⟨b, 0, none⟩)] w R := by
  refine (Tryz.Builder_String_any_f b b T w (Lib.IsBuilderF.of h) (Nat.le_of_lt h.lt)).mono ?_
  rintro e w' ⟨rfl, h1, h2⟩
  exact hR w' h1 h2

theorem blenF_any (b : Nat) (T : List UInt8) (w : World) (h : Lib.IsBuilderF 88 5 b b (Lib.byteCells T) w) (R : Ending → World → Prop)
    (hR : R (.returned (.int .i64 (T.length : Int))) w) :
    Calls Tryz.prog 111 #[.pointer (some ⟨b, 0, none⟩)] w R := by
  refine (Tryz.Builder_Len_f b b (Lib.byteCells T) w h).mono ?_
  rintro e w' ⟨rfl, rfl⟩
  rw [byteCells_length]
  exact hR

theorem chunk_step {n j L : Nat} {cs : List Nat} (hcs : cs = dig C19 n) (hL : cs.length = L + 1) (hj : j < L) :
    decs (val C19 (cs.drop j)) = decs (val C19 (cs.drop (j + 1))) ++ (List.replicate (19 - (decs (cs.getD j 0)).length) 48 ++ decs (cs.getD j 0)) := by
  rw [val_drop C19 cs j (by omega), Nat.add_comm, Nat.mul_comm]
  refine decs_chunk _ _ ?_ ?_
  · rw [hcs]; exact drop_val_ne n (j + 1) (by rw [← hcs]; omega)
  · rw [hcs]; exact dig_getD_lt C19_two n j

set_option maxRecDepth 100000 in
set_option maxHeartbeats 4000000 in
theorem digits_any (v : Value) (n : Nat) (w : World) (h : IsN w v n) (htab : Lib.TabIs Tryz.prog w "internal/strconv.uint64pow10" .u64 Lib.pow10Tab) (R : Ending → World → Prop)
    (hR : ∀ w', (decs n).length ≤ 60 → Below w.heap.size w w' → R (.returned (.tuple #[.string ⟨(decs n).toArray⟩, .bool true])) w')
    (hR2 : ∀ s w', ¬ (decs n).length ≤ 60 → Below w.heap.size w w' → R (.returned (.tuple #[.string s, .bool false])) w') :
    Calls Tryz.prog 126 #[v] w R := by
  have HR := Lib.hid hR; clear hR
  have HR2 := Lib.hid hR2; clear hR2
  have HTAB := Lib.hid htab; clear htab
  obtain ⟨ao, k, cap, rfl, hk, hs⟩ := h.open
  have HK := Lib.hid hk
  have HS := Lib.hid hs
  clear h hk hs
  by_cases h0 : n = 0
  · have HN0 := Lib.hid h0
    have hd : decide (n = 0) = true := decide_eq_true h0
    clear h0
    go_enter Tryz.func126, Tryz.ntmps126
    go_wp2_with fail
    refine nzero_any _ n _ HS.out _ ?_
    rw [hd]
    clear hd
    dsimp only
    go_wp2
    first | go_ret | skip
    have := HR.out w (by rw [HN0.out]; decide) (Below.refl _ _)
    rw [HN0.out] at this
    exact this
  · have hd : decide (n = 0) = false := decide_eq_false h0
    have HNZ := Lib.hid h0
    clear h0
    go_enter Tryz.func126, Tryz.ntmps126
    go_wp2_with fail
    refine nzero_any _ n _ HS.out _ ?_
    rw [hd]
    clear hd
    dsimp only
    by_cases h4 : k ≤ 4
    · have h4' : ¬ ((4 : Int) < (k : Int)) := by omega
      have H4 := Lib.hid h4
      clear h4
      go_wp2_with fail
      go_loopw [0, 4] (fun av cv wr => DigRel w n av cv wr) (fun _ cv _ => 5 - lenS cv)
      case atStart => exact ⟨n, [], HS.out, Own.nil _ _ _ _, rfl, by rw [← HK.out]; exact H4.out, Below.refl _ _⟩
      case round =>
        obtain ⟨m, cs, hv, hown, hcs, hl4, hbel⟩ := hrel
        obtain ⟨am, km, capm, rfl, hv'⟩ := IsN.op hv
        obtain ⟨ac, cc, hcv⟩ := hown.shapeS
        obtain ⟨lc, hlcE⟩ : ∃ lc, lc = cs.length := ⟨_, rfl⟩
        rw [← hlcE] at hcv
        subst hcv
        have HLE := Lib.hid hlcE
        clear hlcE
        have hln : (dig C19 n).length ≤ 5 := chunks_few (by have := H4.out; rw [HK.out, W64_eq] at this; exact this)
        have hlc : cs.length + (dig C19 m).length = (dig C19 n).length := by rw [← hcs, List.length_append]
        have HV := Lib.hid hv'
        have HOWN := Lib.hid hown
        have HCS := Lib.hid hcs
        have HL4 := Lib.hid hl4
        have HB := Lib.hid hbel
        have HLC := Lib.hid hlc
        have HLN := Lib.hid hln
        clear hv hv' hown hcs hl4 hbel hlc hln
        go_wp2_with fail
        refine nzero_any _ m _ HV.out _ ?_
        by_cases hm : m = 0
        · have hd : decide (m = 0) = true := decide_eq_true hm
          have HC : Hid (cs = dig C19 n) := Lib.hid (by have := HCS.out; rw [hm, dig_zero, List.append_nil] at this; exact this)
          rw [hd]
          clear hd hm
          dsimp only
          obtain ⟨wo, hwo⟩ : ∃ wo, wo = wr := ⟨_, rfl⟩
          subst hwo
          obtain ⟨L, rfl⟩ : ∃ L, lc = L + 1 := ⟨lc - 1, by
            have h1 : lc ≠ 0 := by
              rw [HLE.out, HC.out]; intro e; exact HNZ.out ((dig_eq_nil C19_two).1 (List.eq_nil_of_length_eq_zero e))
            omega⟩
          have hL5 : L ≤ 5 := by have := HLN.out; have := HLE.out; rw [HC.out] at this; omega
          obtain ⟨gb, go, rfl, hgl, hgc⟩ := HOWN.out.sl.at L (by omega)
          have HSL := Lib.hid HOWN.out.sl
          obtain ⟨u, hu⟩ : ∃ u, u = cs.getD L 0 := ⟨_, rfl⟩
          rw [← hu] at hgc
          have hu19 : u < C19 := by rw [hu, HC.out]; exact dig_getD_lt C19_two n L
          have HU64 : Hid (u < 18446744073709551616) := Lib.hid (Nat.lt_trans hu19 C19_lt)
          have HUV : Hid (decs (val C19 (cs.drop L)) = decs u) := Lib.hid (by
            rw [val_drop C19 cs L (by have := HLE.out; omega), ← hu, val_drop_all C19 cs (L + 1) (by have := HLE.out; omega), Nat.mul_zero, Nat.add_zero])
          have HU19 := Lib.hid (decs_len19 hu19)
          obtain ⟨W0, hW0⟩ : ∃ W0, W0 = wo.alloc (.cells #[.pointer none, .slice none 0 0] 88) := ⟨_, rfl⟩
          have HW0 := Lib.hid hW0
          have HWB : Hid (Below wo.heap.size wo W0) := Lib.hid (by rw [hW0]; exact (Below.refl _ _).alloc (Nat.le_refl _) _)
          have HIB : Hid (IsB W0 wo.heap.size []) := Lib.hid (by rw [hW0]; exact IsB.fresh wo)
          have HTAB0 : Hid (Lib.TabIs Tryz.prog W0 "internal/strconv.uint64pow10" .u64 Lib.pow10Tab) := Lib.hid (tab_later HTAB.out (HB.out.trans (HWB.out.mono HB.out.size)) (Nat.le_refl _))
          have hgc2 := hgc
          obtain ⟨gb', go', hg', _, hgc0⟩ := (HSL.out.later HWB.out (Nat.le_refl _)).at L (by omega)
          simp only [Option.some.injEq, Addr.mk.injEq, and_true] at hg'
          obtain ⟨rfl, rfl⟩ := hg'
          rw [← hu, hW0] at hgc0
          clear hu hu19 hW0 hgl hgc hgc2
          go_wp2_with fail
          rw [← HW0.out]
          refine fmtu_any u HU64.out _ HTAB0.out _ ?_
          intro w1 hb1
          obtain ⟨t, ht⟩ : ∃ t : ByteArray, t = ⟨(decs u).toArray⟩ := ⟨_, rfl⟩
          rw [← ht]
          have HT : Hid (t.data.toList = decs u) := Lib.hid (by rw [ht])
          have HTS : Hid (t.size ≤ 19) := Lib.hid (by rw [← size_list, HT.out]; exact HU19.out)
          have HIB1 := Lib.hid (HIB.out.later hb1)
          have HWB1 := Lib.hid (HWB.out.trans (hb1.mono HWB.out.size))
          clear ht hb1 hgc0
          dsimp only
          go_wp2_with fail
          refine bws_any wo.heap.size [] t w1 HIB1.out (by have := HTS.out; simp; omega) _ ?_
          intro w2 hib2 hb2
          have HREL : Hid (OutRel wo L cs (.int .i64 ((L : Int) - 1)) w2) := Lib.hid ⟨L, rfl, Nat.le_refl _, by rw [HUV.out, ← HT.out]; exact hib2, HWB1.out.trans hb2⟩
          clear hib2 hb2
          dsimp only
          go_wp2_with fail
          go_loopw [8] (fun iv wx => OutRel wo L cs iv wx) (fun iv _ => (intOf iv + 1).toNat)
          case atStart => exact HREL.out
          case round =>
            clear HREL
            obtain ⟨j, rfl, hjL, hib, hbx⟩ := hrel
            have HIBX := Lib.hid hib
            have HBX := Lib.hid hbx
            have HBWX := Lib.hid (HB.out.trans (hbx.mono HB.out.size))
            clear hib hbx
            by_cases hj0 : j = 0
            · subst hj0
              have HFIN : Hid (IsB _ wo.heap.size (decs n)) := Lib.hid (by have := HIBX.out; rw [List.drop_zero, HC.out, val_dig C19_two] at this; exact this)
              go_wp2_with fail
              refine bstrF_any _ _ _ HFIN.out _ ?_
              intro w3 hib3 hb3
              have HIB3 := Lib.hid hib3
              have HB3 := Lib.hid (HBWX.out.trans (hb3.mono HB.out.size))
              clear hib3 hb3
              obtain ⟨T, hT⟩ : ∃ T, T = decs n := ⟨_, rfl⟩
              rw [← hT] at HR HR2 HIB3 ⊢
              dsimp only
              go_wp2_with fail
              refine blenF_any _ _ _ HIB3.out _ ?_
              by_cases h60 : T.length ≤ 60
              · have h60' : ((T.length : Nat) : Int) ≤ 60 := by omega
                have HL := Lib.hid h60
                clear h60 hT
                dsimp only
                go_wp2
                first | go_ret | skip
                exact HR.out _ HL.out HB3.out
              · have h60' : ¬ ((T.length : Nat) : Int) ≤ 60 := by omega
                have HL := Lib.hid h60
                clear h60 hT
                dsimp only
                go_wp2
                first | go_ret | skip
                exact HR2.out _ _ HL.out HB3.out
            · obtain ⟨i, rfl⟩ : ∃ i, j = i + 1 := ⟨j - 1, by omega⟩
              rw [show ((i + 1 : Nat) : Int) - 1 = (i : Int) by omega]
              have hiL : i < L := by omega
              obtain ⟨gb', go', hg', _, hgc⟩ := (HSL.out.later HBX.out (Nat.le_refl _)).at i (by omega)
              simp only [Option.some.injEq, Addr.mk.injEq, and_true] at hg'
              obtain ⟨rfl, rfl⟩ := hg'
              obtain ⟨u, hu⟩ : ∃ u, u = cs.getD i 0 := ⟨_, rfl⟩
              rw [← hu] at hgc
              have hu19 : u < C19 := by rw [hu, HC.out]; exact dig_getD_lt C19_two n i
              have HU64 : Hid (u < 18446744073709551616) := Lib.hid (Nat.lt_trans hu19 C19_lt)
              have HU19 := Lib.hid (decs_len19 hu19)
              have HSTEP := Lib.hid (chunk_step HC.out HLE.out.symm hiL)
              have HU := Lib.hid hu
              have HTABX : Hid (Lib.TabIs Tryz.prog _ "internal/strconv.uint64pow10" .u64 Lib.pow10Tab) := Lib.hid (tab_later HTAB.out HBWX.out (Nat.le_refl _))
              clear hu hu19
              go_wp2_with fail
              refine fmtu_any u HU64.out _ HTABX.out _ ?_
              intro w3 hb3
              obtain ⟨t, ht⟩ : ∃ t : ByteArray, t = ⟨(decs u).toArray⟩ := ⟨_, rfl⟩
              rw [← ht]
              have HT : Hid (t.data.toList = decs u) := Lib.hid (by rw [ht])
              have hts : t.size ≤ 19 := by rw [← size_list, HT.out]; exact HU19.out
              obtain ⟨p, hp⟩ : ∃ p, p = 19 - t.size := ⟨_, rfl⟩
              have hpe : (19 : Int) - (t.size : Int) = (p : Int) := by omega
              have hpw : IntKind.i64.wrap ((19 : Int) - (t.size : Int)) = (p : Int) := by rw [hpe]; exact IntWalk.i64_in _ (by omega)
              have HP : Hid (p = 19 - (decs u).length ∧ p ≤ 19 ∧ t.size ≤ 19) := Lib.hid (by rw [← HT.out, size_list]; omega)
              have HIB3 := Lib.hid (HIBX.out.later hb3)
              have HB3 := Lib.hid (HBX.out.trans (hb3.mono HBX.out.size))
              clear ht hb3 hgc hp
              dsimp only
              go_wp2_with fail
              refine rep48_any p _ (by have := HP.out; omega) _ ?_
              intro w4 hb4
              obtain ⟨z, hz⟩ : ∃ z : ByteArray, z = ⟨(List.replicate p 48).toArray⟩ := ⟨_, rfl⟩
              rw [← hz]
              have HZ : Hid (z.data.toList = List.replicate p 48) := Lib.hid (by rw [hz])
              have HZS : Hid (z.size = p) := Lib.hid (by rw [← size_list, HZ.out, List.length_replicate])
              have HIB4 := Lib.hid (HIB3.out.later hb4)
              have HB4 := Lib.hid (HB3.out.trans (hb4.mono HB3.out.size))
              obtain ⟨T, hT⟩ : ∃ T, T = decs (val C19 (cs.drop (i + 1))) := ⟨_, rfl⟩
              rw [← hT] at HIB4 HSTEP
              have HTL : Hid (T.length ≤ 200) := Lib.hid (by
                rw [hT]
                refine decs_len_lt (by omega) ?_
                refine Nat.lt_of_lt_of_le (val_lt (B := C19) _ (fun d hd => dig_lt C19_two n d (by rw [HC.out] at hd; exact List.mem_of_mem_drop hd))) ?_
                rw [C19_pow, ← Nat.pow_mul]
                refine Nat.pow_le_pow_right (by omega) ?_
                rw [List.length_drop, ← HLE.out]
                omega)
              clear hz hb4 hpe hpw hT hts
              dsimp only
              go_wp2_with fail
              refine bws_any wo.heap.size T z w4 HIB4.out (by have := HTL.out; have := HZS.out; have := HP.out; omega) _ ?_
              intro w5 hib5 hb5
              have HIB5 := Lib.hid hib5
              have HB5 := Lib.hid (HB4.out.trans hb5)
              clear hib5 hb5
              dsimp only
              go_wp2_with fail
              refine bws_any wo.heap.size _ t w5 HIB5.out (by have := HTL.out; have h1 := HZS.out; have h2 := HP.out; rw [List.length_append, size_list]; omega) _ ?_
              intro w6 hib6 hb6
              have HREL : Hid (OutRel wo L cs (.int .i64 ((i : Int) - 1)) w6) := Lib.hid ⟨i, rfl, by omega, by
                rw [HSTEP.out, ← HU.out, ← HP.out.1, ← HT.out, ← HZ.out, ← List.append_assoc]; exact hib6, HB5.out.trans hb6⟩
              clear hib6 hb6
              dsimp only
              go_wp2
              go_roundw
              case rel => exact HREL.out
              case measure => (first | omega | (simp only [intOf]; omega))
        · have hd : decide (m = 0) = false := decide_eq_false hm
          have HM := Lib.hid hm
          rw [hd]
          clear hd hm
          dsimp only
          go_wp2_with fail
          refine divsC_any _ m _ HV.out HL4.out _ ?_
          intro v1 w1 hv1 hb1 hbl1
          obtain ⟨a1, n1, c1, rfl, hv1'⟩ := IsN.op hv1
          have HV1 := Lib.hid hv1'
          have HB1 := Lib.hid hb1
          have HBL := Lib.hid hbl1
          have HBB := Lib.hid (HB.out.trans (hb1.mono HB.out.size))
          have hown1 := HOWN.out.later hb1 (Nat.le_refl _)
          obtain ⟨r, hr⟩ : ∃ r, r = m % C19 := ⟨_, rfl⟩
          have HRR := Lib.hid hr
          rw [← hr]
          have hsz : w.heap.size ≤ w1.heap.size := HBB.out.size
          have hcl : cs.length ≤ 100000000 := by have := HLC.out; have := HLN.out; omega
          clear hv1 hv1' hb1 hr hbl1
          dsimp only
          go_wp2_with (at_builtin; go_must (refine wpList_pushg rfl (.tmp 23) (.tmp 25) 65 rfl 123 .u64 8 Tryz.underlying65 info_u64 (by omega) w.heap.size _ cs r rfl (hown1.alloc _) w1.heap.size rfl (World.cell?_alloc_at _ _ _ _ rfl) hcl (by simp; omega) ?_))
          intro v' w2 hown2 hbw hgr
          obtain ⟨a2, c2, hv2⟩ := hown2.shapeS
          have hb12 : Below w.heap.size w1 w2 := ((Below.refl w.heap.size w1).alloc hsz _).trans hbw
          have hv12 : IsN w2 (.slice a1 n1 c1) (m / C19) := Sl.grown (Sl.alloc HV1.out _) hgr (fun g hg e => by
            have h1 := (HOWN.out.ownBlock g hg).2
            have h2 := HBL.out g e
            omega)
          have HREL : Hid (DigRel w n (.slice a1 n1 c1) v' w2) := Lib.hid ⟨m / C19, cs ++ [r], hv12, hown2, by rw [HRR.out]; exact digs_step HCS.out HM.out, limbs_div HL4.out, HBB.out.trans hb12⟩
          have HM2 : Hid (lenS v' = lc + 1 ∧ lc < 5) := Lib.hid (by
            rw [HLE.out]
            refine ⟨by rw [hv2]; simp [lenS], ?_⟩
            have h1 := HLC.out
            rw [dig_pos C19_two HM.out] at h1
            have := HLN.out
            simp only [List.length_cons] at h1
            omega)
          clear hv12 hgr
          clear hown1 hown2 hbw hb12 hv2 hsz hcl
          go_wp2
          go_roundw
          case rel => exact HREL.out
          case measure => rw [HM2.out.1]; simp only [lenS]; have := HM2.out.2; omega
    · have h4' : ((4 : Int) < (k : Int)) := by omega
      have H4 := Lib.hid (show ¬ (decs n).length ≤ 60 from fun h => h4 (by rw [HK.out, W64_eq]; exact limbs_few h))
      clear h4
      go_wp2_with fail
      first | go_ret | skip
      exact HR2.out _ w H4.out (Below.refl _ _)
end Go.Proofs.YtegdcmcfeaohhaaGreatDoor

namespace Go.Proofs.YtegdcmcfeaohhaaGreatDoor
open Go Go.RowKit

def TimesRel (w : World) (g na nb : Nat) (xs : List Nat) (b : Nat) (iv : Value) (wr : World) : Prop :=
  ∃ (k : Nat) (zs : List Nat), iv = .int .i64 (k : Int) ∧ k ≤ na ∧ Arr .u64 123 wr g zs ∧ zs.length = na + nb ∧ (∀ d ∈ zs, d < W64) ∧ zs.drop (k + nb) = List.replicate (na - k) 0 ∧
    val W64 zs = val W64 (xs.take k) * b ∧ Below w.heap.size w wr ∧ wr.heap.size = w.heap.size + 1

theorem drop_zero_getD {zs : List Nat} {i m : Nat} (h : zs.drop i = List.replicate m 0) : zs.getD i 0 = 0 := by
  have h1 : (zs.drop i).getD 0 0 = zs.getD i 0 := by simp [List.getD_eq_getElem?_getD, List.getElem?_drop]
  rw [← h1, h]
  exact getD_zeros _ _

theorem times_rel (w wr w1 : World) (g na nb k x b c : Nat) (xs rs zs : List Nat) (zc : Int) (hk : k < na) (hxl : xs.length = na) (hx : x = xs.getD k 0)
    (hrl : rs.length = na + nb) (hrd : rs.drop (k + nb) = List.replicate (na - k) 0) (hrv : val W64 rs = val W64 (xs.take k) * b)
    (hA : Arr .u64 123 w1 g zs) (hzl : zs.length = rs.length) (hz : ∀ d ∈ zs, d < W64) (hzd : zs.drop (k + nb) = rs.drop (k + nb))
    (hzv : val W64 zs + W64 ^ (k + nb) * c = val W64 rs + W64 ^ k * (x * b)) (hc : c < W64) (hb : Below w.heap.size w wr) (hs : wr.heap.size = w.heap.size + 1) (hbut : But g wr w1) (hs1 : w1.heap.size = wr.heap.size) (hg : g = w.heap.size) (hzc : zc = (c : Int)) :
    TimesRel w g na nb xs b (.int .i64 ((k + 1 : Nat) : Int)) (w1.setCell ⟨g, k + nb, none⟩ (.int .u64 zc)) := by
  subst hzc hg
  refine ⟨k + 1, zs.set (k + nb) c, rfl, by omega, hA.set _ _, by simp [hzl, hrl], set_ltN _ _ _ hz hc, ?_, ?_, (hb.trans (hbut.below (Nat.le_refl _) (by omega))).setCell (by simp) _, by simp [hs, hs1]⟩
  · rw [drop_set_out _ _ _ _ (by omega)]
    have h2 := congrArg (List.drop 1) (hzd.trans hrd)
    rw [List.drop_drop, List.drop_replicate] at h2
    rw [show k + 1 + nb = k + nb + 1 by omega, h2]
    congr 1
  · have h1 := val_setN W64 zs (k + nb) c (by omega)
    rw [drop_zero_getD (hzd.trans hrd), Nat.mul_zero, Nat.add_zero] at h1
    rw [h1, hzv, hrv, val_take_succ W64 xs k (by omega), ← hx]
    rw [Nat.add_mul, Nat.mul_assoc]

set_option maxRecDepth 100000 in
set_option maxHeartbeats 1000000 in
theorem ntimes_any (va vb : Value) (a b : Nat) (w : World) (ha : IsN w va a) (hb : IsN w vb b) (hla : (dig W64 a).length ≤ 100000000) (hlb : (dig W64 b).length ≤ 100000000) (R : Ending → World → Prop)
    (hR : ∀ v' w', IsN w' v' (a * b) → Below w.heap.size w w' → R (.returned v') w') :
    Calls Tryz.prog 142 #[va, vb] w R := by
  have HR := Lib.hid hR; clear hR
  obtain ⟨aa, na, ca, rfl, hna, hsa⟩ := ha.open
  obtain ⟨ab, nb, cb, rfl, hnb, hsb⟩ := hb.open
  obtain ⟨xs, hxs⟩ : ∃ xs, xs = dig W64 a := ⟨_, rfl⟩
  have hvx : val W64 xs = a := by rw [hxs]; exact val_dig W64_two _
  have hxd : ∀ d ∈ xs, d < W64 := by rw [hxs]; exact limb_lt _
  unfold IsN at hsa hsb
  rw [← hna] at hla
  rw [← hnb] at hlb
  rw [← hxs] at hsa hna
  have HNA := Lib.hid hna
  have HNB := Lib.hid hnb
  have HVX := Lib.hid hvx
  have HXD := Lib.hid hxd
  have HSA := Lib.hid hsa
  have HSB := Lib.hid hsb
  have HBLK := Lib.hid (Sl.off hsb (Nat.le_refl w.heap.size))
  have hw0 : IntKind.i64.wrap ((na : Int) + (nb : Int)) = ((na + nb : Nat) : Int) := by rw [IntWalk.i64_in _ (by omega)]; omega
  obtain ⟨n, hn⟩ : ∃ n, n = na + nb := ⟨_, rfl⟩
  rw [← hn] at hw0
  have HNN := Lib.hid hn
  have hnle : n ≤ 1000000000 := by omega
  clear ha hb hna hnb hxs hvx hxd hsa hsb hn
  go_enter Tryz.func142, Tryz.ntmps142
  go_wp2_with (at_make; go_must (refine wpList_makez _ rfl (.tmp 12) 65 rfl 123 .u64 8 Tryz.underlying65 info_u64 (by omega) .i64 _ n rfl rfl (by omega) ?_))
  intro W hA hbW hsW
  have HST : Hid (TimesRel w w.heap.size na nb xs b (.int .i64 0) W) := Lib.hid ⟨0, _, rfl, Nat.zero_le _, hA, by simp [HNN.out], zeros_lt W64_two _, by simp [List.drop_replicate, HNN.out], by rw [val_zeros]; simp [val], hbW, hsW⟩
  clear hA hbW hsW hw0
  go_wp2
  go_loopw [16] (fun i wr => TimesRel w w.heap.size na nb xs b i wr) (fun i _ => na - (intOf i).toNat)
  case atStart => exact HST.out
  case round =>
    clear HST
    obtain ⟨k, rs, rfl, hk, hA, hrl, hrs, hrd, hrv, hbel, hsz⟩ := hrel
    have HRL := Lib.hid hrl
    have HRS := Lib.hid hrs
    have HRD := Lib.hid hrd
    have HRV := Lib.hid hrv
    have HB := Lib.hid hbel
    have HSZ := Lib.hid hsz
    clear hrl hrs hrd hrv hsz
    by_cases hkn : k = na
    · subst hkn
      have HF : Hid (val W64 rs = a * b) := Lib.hid (by rw [HRV.out, HNA.out, List.take_length, HVX.out])
      clear hbel
      go_wp2_with fail
      refine trimmed_any _ rs _ (hA.sl _ _ (by rw [HRL.out]; exact HNN.out) (Nat.le_refl _)) HRS.out (by rw [HRL.out, ← HNN.out]; omega) _ ?_
      intro v' hv' _
      rw [HF.out] at hv'
      dsimp only
      go_wp2
      first | go_ret | skip
      exact HR.out _ _ hv' HB.out
    · have hkl : k < na := by omega
      obtain ⟨b1, o1, rfl, hb1, hc1⟩ := Sl.at HSA.out k hkl
      rw [← hbel.cell (p := ⟨b1, o1 + k, none⟩) hb1] at hc1
      obtain ⟨x, hx⟩ : ∃ x, x = xs.getD k 0 := ⟨_, rfl⟩
      rw [← hx] at hc1
      have HX := Lib.hid hx
      have HXL := Lib.hid (show x < W64 by rw [hx]; exact getD_lt (by rw [W64_eq]; omega) _ HXD.out _)
      have hw1 : IntKind.i64.wrap ((k : Int) + (nb : Int)) = ((k + nb : Nat) : Int) := by rw [IntWalk.i64_in _ (by have := HNN.out; omega)]; omega
      have hw2 : IntKind.i64.wrap ((k : Int) + 1) = ((k + 1 : Nat) : Int) := by rw [IntWalk.i64_in _ (by omega)]; omega
      obtain ⟨j, hj⟩ : ∃ j, j = k + nb := ⟨_, rfl⟩
      rw [← hj] at hw1
      have HJ := Lib.hid hj
      have hjn : (j : Int) < (n : Int) := by have := HNN.out; omega
      have hj0 : (0 : Int) ≤ (j : Int) := by omega
      have hkn2 : (k : Int) ≤ (n : Int) := by have := HNN.out; omega
      have hk0 : (0 : Int) ≤ (k : Int) := by omega
      have hkc : ¬ n = k := by have := HNN.out; omega
      have HSBr := Lib.hid (HSB.out.later hbel (Nat.le_refl _))
      have HK := Lib.hid hkl
      clear hx hj hbel
      go_wp2_with fail
      refine addp_any w.heap.size k (n - k) (n - k) rs (dig W64 b) _ x _ hA HSBr.out HBLK.out (by rw [HRL.out, ← HNB.out]; omega) (by rw [← HNB.out]; have := HNN.out; omega) HRS.out (limb_lt _) HXL.out (by rw [HRL.out]; have := HNN.out; omega) _ ?_
      intro zs c w1 hz1 hz2 hz3 hz4 hz5 hz6 hz7 hz8 hz9
      rw [val_dig W64_two, ← HNB.out] at hz6
      rw [← HNB.out] at hz5
      have hREL := times_rel w wr w1 w.heap.size na nb k x b c xs rs zs (c : Int) HK.out HNA.out.symm HX.out HRL.out HRD.out HRV.out hz1 hz2 hz3 hz5 hz6 hz7 HB.out HSZ.out hz8 hz9 rfl rfl
      rw [← HJ.out] at hREL
      have HREL := Lib.hid hREL
      have hcj := hz1.cell j (by rw [hz2, HRL.out, HJ.out]; have := HK.out; omega)
      have hfj := hz1.frozen j
      clear hz1 hz2 hz3 hz4 hz5 hz6 hz7 hz8 hz9 hREL
      dsimp only
      go_wp2
      go_roundw
      case rel => exact HREL.out
      case measure => simp [intOf]; have := HK.out; omega
end Go.Proofs.YtegdcmcfeaohhaaGreatDoor

namespace Go.Proofs.YtegdcmcfeaohhaaGreatDoor
open Go Go.RowKit

theorem sgn_of (z : Int) : z = sgn (decide (z < 0)) z.natAbs := by
  unfold sgn
  by_cases h : z < 0
  · simp [h]; omega
  · simp [h]; omega

theorem sgn_mul (z : Int) (b : Nat) : sgn (decide (z < 0)) (z.natAbs * b) = z * (b : Int) := by
  have h := sgn_of z
  unfold sgn at *
  by_cases hz : z < 0
  · simp [hz] at h ⊢
    rw [← Int.neg_mul, ← h]
  · simp [hz] at h ⊢
    rw [← h]

theorem IsI.parts {w : World} {v : Value} {z : Int} (h : IsI w v z) : ∃ ng a n c, ng = decide (z < 0) ∧ v = .agg #[.bool ng, .slice a n c] ∧ IsN w (.slice a n c) z.natAbs := by
  obtain ⟨s, rfl, hs⟩ := h
  obtain ⟨a, n, c, rfl, hs'⟩ := hs.op
  exact ⟨_, a, n, c, rfl, rfl, hs'⟩

theorem IsI.mk {w : World} {s : Value} {z : Int} {ng : Bool} (hng : ng = decide (z < 0)) (hs : IsN w s z.natAbs) : IsI w (.agg #[.bool ng, s]) z := ⟨s, by rw [hng], hs⟩

theorem IsR.parts {w : World} {v : Value} {q : Rat} (h : IsR w v q) : ∃ ng a1 n1 c1 a2 n2 c2, ng = decide (q.num < 0) ∧ v = .agg #[.bool ng, .slice a1 n1 c1, .slice a2 n2 c2] ∧ IsN w (.slice a1 n1 c1) q.num.natAbs ∧ IsN w (.slice a2 n2 c2) q.den := by
  obtain ⟨s1, s2, rfl, h1, h2⟩ := h
  obtain ⟨a1, n1, c1, rfl, h1'⟩ := h1.op
  obtain ⟨a2, n2, c2, rfl, h2'⟩ := h2.op
  exact ⟨_, a1, n1, c1, a2, n2, c2, rfl, rfl, h1', h2'⟩

set_option maxRecDepth 100000 in
set_option maxHeartbeats 4000000 in
theorem scaled_any (va vb : Value) (z : Int) (b : Nat) (w : World) (ha : IsI w va z) (hb : IsN w vb b) (hla : (dig W64 z.natAbs).length ≤ 10000000) (hlb : (dig W64 b).length ≤ 10000000) (R : Ending → World → Prop)
    (hR : ∀ v' w', IsI w' v' (z * (b : Int)) → Below w.heap.size w w' → R (.returned v') w') :
    Calls Tryz.prog 131 #[va, vb] w R := by
  have HR := Lib.hid hR; clear hR
  obtain ⟨ng, a1, n1, c1, hng, rfl, hn1⟩ := ha.parts
  obtain ⟨a2, n2, c2, rfl, hn2⟩ := hb.op
  have HNG := Lib.hid hng
  obtain ⟨L, hL⟩ : ∃ L, L = (w.alloc (.cells #[.bool ng, .slice a1 n1 c1] 68)).alloc (.cells #[.bool false, .slice none 0 0] 68) := ⟨_, rfl⟩
  have hb1 : Below (w.heap.size + 1) (w.alloc (.cells #[.bool ng, .slice a1 n1 c1] 68)) L := by rw [hL]; exact (Below.refl _ _).alloc (by simp) _
  have B0 : Box2 L w.heap.size (.bool ng) (.slice a1 n1 c1) 68 := (Box2.made w _ _ _).later hb1 (by omega)
  have B1 : Box2 L (w.heap.size + 1) (.bool false) (.slice none 0 0) 68 := by
    have := Box2.made (w.alloc (.cells #[.bool ng, .slice a1 n1 c1] 68)) (.bool false) (.slice none 0 0) 68
    rw [World.size_alloc, ← hL] at this; exact this
  have HEXT : Hid (Below w.heap.size w L) := Lib.hid (by rw [hL]; exact ((Below.refl w.heap.size w).alloc (Nat.le_refl _) _).alloc (by simp) _)
  have hLs : L.heap.size = w.heap.size + 2 := by rw [hL]; simp
  have hk : w.heap.size + 1 < L.heap.size := by omega
  have HL := Lib.hid hL
  have Y1 := Lib.hid (hn1.later HEXT.out (Nat.le_refl _))
  have Y2 := Lib.hid (hn2.later HEXT.out (Nat.le_refl _))
  have HLN := Lib.hid (And.intro hla hlb)
  have HSOF : Hid (∀ w', Below (w.heap.size + 1) L w' → (Below (w.heap.size + 1) L w' ∧ w'.cell? ⟨w.heap.size, 0, none⟩ = some (.bool ng) ∧ w'.cell? ⟨w.heap.size, 1, none⟩ = some (.slice a1 n1 c1))) :=
    Lib.hid fun w' hb => ⟨hb, (B0.later hb (by omega)).cells.1, (B0.later hb (by omega)).cells.2.1⟩
  have HB1 := Lib.hid B1
  have HK := Lib.hid hk
  clear hng ha hb hn1 hn2 hla hlb hb1 B0 B1 hL hLs hk
  go_enter Tryz.func131, Tryz.ntmps131
  go_wp2_with fail
  rw [← HL.out]
  go_region_held3 (fun w' => Below (w.heap.size + 1) L w' ∧ w'.cell? ⟨w.heap.size, 0, none⟩ = some (.bool ng) ∧ w'.cell? ⟨w.heap.size, 1, none⟩ = some (.slice a1 n1 c1))
    (first
      | exact HSOF.out _ HQ2.out
      | exact HSOF.out _ HQ1.out
      | exact HSOF.out _ (Below.refl _ _).drew
      | exact HSOF.out _ ((HQ2.out.setCell (by simp) _).setCell (by simp) _))
    (first
      | (go_at_call 143; refine integerOf_z ng v1 (z.natAbs * b) _ HV1.out _ ?_; intro v2 w2 hv2 hb2; rw [HNG.out, sgn_mul] at hv2; obtain ⟨m2, a5, m5, c5, hm2, rfl, hn5⟩ := hv2.parts; have HV5 := Lib.hid hn5; have HM2 := Lib.hid hm2; have HT2 := Lib.hid (HT1.out.trans (hb2.mono HT1.out.size)); have HQ2 := Lib.hid (HT2.out.mono (Nat.le_of_lt HK.out)); have d2 := HB1.out.later HT2.out HK.out; obtain ⟨hR0, hR1, hR2, hR3⟩ := d2.cells; have HD2 := Lib.hid d2; clear hv2 hb2 d2 hn5 hm2; dsimp only)
      | (go_at_call 142; refine ntimes_any _ _ z.natAbs b _ (Y1.out.later (Below.refl _ _).drew (Nat.le_refl _)) (Y2.out.later (Below.refl _ _).drew (Nat.le_refl _)) (Nat.le_trans HLN.out.1 (by omega)) (Nat.le_trans HLN.out.2 (by omega)) _ ?_; intro v1 w1 hv1 hb1; have HV1 := Lib.hid hv1; have HT1 : Hid (Below L.heap.size L w1) := Lib.hid (below_unDrew hb1); have HQ1 := Lib.hid (HT1.out.mono (Nat.le_of_lt HK.out)); clear hv1 hb1; dsimp only))
  all_goals
    go_wp2
    refine bodyPost_ret_at (by simp [results, Tryz.results131, go_sem, hR0, hR1, hR2, hR3] <;> rfl) rfl ?_
    refine HR.out _ _ (IsI.mk HM2.out (HV5.out.set2 (HD2.out.noInt rfl rfl) _ _ rfl)) ((((HEXT.out.trans (HT2.out.mono HEXT.out.size)).setCell (by simp) _).setCell (by simp) _))
end Go.Proofs.YtegdcmcfeaohhaaGreatDoor

namespace Go.Proofs.YtegdcmcfeaohhaaGreatDoor
open Go Go.RowKit

set_option maxRecDepth 100000 in
set_option maxHeartbeats 4000000 in
theorem rtext_any (v : Value) (q : Rat) (w : World) (h : IsR w v q) (htab : Lib.TabIs Tryz.prog w "internal/strconv.uint64pow10" .u64 Lib.pow10Tab) (R : Ending → World → Prop)
    (hR : ∀ w', few q → Below w.heap.size w w' → R (.returned (.tuple #[.string ⟨(textQ q).toArray⟩, .bool true])) w')
    (hR2 : ∀ w', ¬ few q → Below w.heap.size w w' → R (.returned (.tuple #[.string ⟨#[]⟩, .bool false])) w') :
    Calls Tryz.prog 84 #[v] w R := by
  have HR := Lib.hid hR; clear hR
  have HR2 := Lib.hid hR2; clear hR2
  obtain ⟨na, a1, n1, c1, a2, n2, c2, hna, rfl, hn1, hn2⟩ := h.parts
  obtain ⟨L, hL⟩ : ∃ L, L = w.alloc (.cells #[.bool na, .slice a1 n1 c1, .slice a2 n2 c2] 70) := ⟨_, rfl⟩
  have B0 : Hid (Box3 L w.heap.size (.bool na) (.slice a1 n1 c1) (.slice a2 n2 c2) 70) := Lib.hid (by rw [hL]; exact Box3.made w _ _ _ _)
  have HEXT : Hid (Below w.heap.size w L) := Lib.hid (by rw [hL]; exact (Below.refl w.heap.size w).alloc (Nat.le_refl _) _)
  have hLs : L.heap.size = w.heap.size + 1 := by rw [hL]; simp
  have HLS := Lib.hid hLs
  have HL := Lib.hid hL
  have HN := Lib.hid (hn1.later HEXT.out (Nat.le_refl _))
  have HDD := Lib.hid (hn2.later HEXT.out (Nat.le_refl _))
  have HTAB := Lib.hid (tab_later htab HEXT.out (Nat.le_refl _))
  have HNA := Lib.hid hna
  obtain ⟨⟨hA, hB, hC⟩, _, _, _⟩ := B0.out.cells
  rw [hL] at hA hB hC
  clear h hn1 hn2 htab hna hL hLs
  go_enter Tryz.func84, Tryz.ntmps84
  go_wp2_with fail
  rw [← HL.out]
  refine digits_any _ q.num.natAbs L HN.out HTAB.out _ ?_ ?_
  · intro w1 hl1 hb1
    have HL1 := Lib.hid hl1
    have HB1 := Lib.hid hb1
    obtain ⟨s1, hs1⟩ : ∃ s : ByteArray, s = ⟨(decs q.num.natAbs).toArray⟩ := ⟨_, rfl⟩
    rw [← hs1]
    have HS1D : Hid (s1.data.toList = decs q.num.natAbs) := Lib.hid (by rw [hs1])
    have HS1 : Hid (s1.size ≤ 60) := Lib.hid (by rw [← size_list, HS1D.out]; exact hl1)
    have k1 := B0.out.later hb1 (by have := HLS.out; omega)
    clear hA hB hC hl1 hb1 hs1
    obtain ⟨⟨hA, hB, hC⟩, _, _, _⟩ := k1.cells
    clear k1
    dsimp only
    go_wp2_with fail
    refine digits_any _ q.den _ (HDD.out.later HB1.out (Nat.le_refl _)) (tab_later HTAB.out HB1.out (Nat.le_refl _)) _ ?_ ?_
    · intro w2 hl2 hb2
      have HFEW : Hid (few q) := Lib.hid ⟨HL1.out, hl2⟩
      have HB2 := Lib.hid (HB1.out.trans (hb2.mono HB1.out.size))
      obtain ⟨s2, hs2⟩ : ∃ s : ByteArray, s = ⟨(decs q.den).toArray⟩ := ⟨_, rfl⟩
      rw [← hs2]
      have HS2D : Hid (s2.data.toList = decs q.den) := Lib.hid (by rw [hs2])
      have HS2 : Hid (s2.size ≤ 60) := Lib.hid (by rw [← size_list, HS2D.out]; exact hl2)
      clear hA hB hC hl2 hb2 hs2
      obtain ⟨b, hb⟩ : ∃ b, b = w2.heap.size := ⟨_, rfl⟩
      obtain ⟨W3, hW3⟩ : ∃ W3, W3 = w2.alloc (.cells #[.pointer none, .slice none 0 0] 88) := ⟨_, rfl⟩
      have HW3 := Lib.hid hW3
      have HBD := Lib.hid hb
      have HIB3 : Hid (IsB W3 b []) := Lib.hid (by rw [hW3, hb]; exact IsB.fresh w2)
      have HB23 : Hid (Below b w2 W3) := Lib.hid (by rw [hW3, hb]; exact (Below.refl _ _).alloc (Nat.le_refl _) _)
      have HBW : Hid (Below w.heap.size w w2) := Lib.hid (HEXT.out.trans (HB2.out.mono HEXT.out.size))
      have HLT : Hid (w.heap.size < b ∧ L.heap.size ≤ b ∧ w2.heap.size = b) := Lib.hid (by have := HLS.out; have := HB2.out.size; omega)
      have HBOX : Hid (Box3 w2 w.heap.size (.bool na) (.slice a1 n1 c1) (.slice a2 n2 c2) 70) := Lib.hid (B0.out.later HB2.out (by have := HLS.out; omega))
      have HD : Hid (IsN w2 (.slice a2 n2 c2) q.den) := Lib.hid (HDD.out.later HB2.out (Nat.le_refl _))
      have k3 := HBOX.out.later HB23.out (by have := HLT.out; omega)
      obtain ⟨⟨hA, hB, hC⟩, _, _, _⟩ := k3.cells
      rw [hW3] at hA hB hC
      clear k3 hW3
      cases na with
      | true =>
        have HNEG : Hid (q.num < 0) := Lib.hid (of_decide_eq_true HNA.out.symm)
        dsimp only
        go_wp2_with fail
        rw [← HW3.out, ← hb]
        refine bwb_any b [] 45 45 rfl _ HIB3.out (by simp) _ ?_
        intro w4 hib4 hb4
        have HBS := Lib.hid (HB23.out.trans hb4)
        have HIBS : Hid (IsB w4 b [45]) := Lib.hid hib4
        clear hA hB hC hb hib4 hb4
        dsimp only
        go_wp2_with fail
        refine bws_any b [45] s1 _ HIBS.out (by simp; have := HS1.out; omega) _ ?_
        intro w5 hib5 hb5
        have HB5 := Lib.hid (HBS.out.trans hb5)
        have HIB5 := Lib.hid hib5
        have k5 := HBOX.out.later HB5.out (by have := HLT.out; omega)
        obtain ⟨⟨hA, hB, hC⟩, _, _, _⟩ := k5.cells
        clear hib5 hb5
        dsimp only
        go_wp2_with fail
        refine none_any _ q.den _ (HD.out.later HB5.out (by have := HLT.out; omega)) _ ?_
        by_cases hd1 : q.den = 1
        · have hdd : decide (q.den = 1) = true := decide_eq_true hd1
          have HTX : Hid (textQ q = [45] ++ s1.data.toList) := Lib.hid (by unfold textQ; rw [if_pos HNEG.out, HS1D.out, if_pos hd1]; simp)
          rw [hdd]
          clear hdd hd1 hA hB hC
          dsimp only
          go_wp2_with fail
          refine bstr_any b _ _ HIB5.out _ ?_
          intro w6 hb6
          have HB6 := Lib.hid (HB5.out.trans hb6)
          rw [← HTX.out]
          obtain ⟨T, hT⟩ : ∃ T, T = textQ q := ⟨_, rfl⟩
          rw [← hT] at HR ⊢
          clear hT hb6
          dsimp only
          go_wp2
          first | go_ret | skip
          exact HR.out _ HFEW.out (HBW.out.trans (HB6.out.mono (by have := HLT.out; omega)))
        · have hdd : decide (q.den = 1) = false := decide_eq_false hd1
          have HTX : Hid (textQ q = (([45] ++ s1.data.toList) ++ [47]) ++ s2.data.toList) := Lib.hid (by unfold textQ; rw [if_pos HNEG.out, HS1D.out, HS2D.out, if_neg hd1]; simp)
          rw [hdd]
          clear hdd hd1 hA hB hC
          dsimp only
          go_wp2_with fail
          refine bwb_any b _ 47 47 rfl _ HIB5.out (by have := HS1.out; simp; have := size_list s1; simp only [Array.length_toList] at this; omega) _ ?_
          intro w6 hib6 hb6
          have HB6 := Lib.hid (HB5.out.trans hb6)
          have HIB6 := Lib.hid hib6
          clear hib6 hb6
          dsimp only
          go_wp2_with fail
          refine bws_any b _ s2 _ HIB6.out (by have := HS1.out; have := HS2.out; simp; have := size_list s1; simp only [Array.length_toList] at this; omega) _ ?_
          intro w7 hib7 hb7
          have HB7 := Lib.hid (HB6.out.trans hb7)
          have HIB7 := Lib.hid hib7
          clear hib7 hb7
          dsimp only
          go_wp2_with fail
          refine bstr_any b _ _ HIB7.out _ ?_
          intro w8 hb8
          have HB8 := Lib.hid (HB7.out.trans hb8)
          rw [← HTX.out]
          obtain ⟨T, hT⟩ : ∃ T, T = textQ q := ⟨_, rfl⟩
          rw [← hT] at HR ⊢
          clear hT hb8
          dsimp only
          go_wp2
          first | go_ret | skip
          exact HR.out _ HFEW.out (HBW.out.trans (HB8.out.mono (by have := HLT.out; omega)))
      | false =>
        have HNEG : Hid (¬ q.num < 0) := Lib.hid (of_decide_eq_false HNA.out.symm)
        have HBS : Hid (Below b w2 W3) := Lib.hid HB23.out
        have HIBS : Hid (IsB W3 b []) := Lib.hid HIB3.out
        dsimp only
        go_wp2_with fail
        rw [← HW3.out, ← hb]
        clear hA hB hC hb
        refine bws_any b [] s1 _ HIBS.out (by simp; have := HS1.out; omega) _ ?_
        intro w5 hib5 hb5
        have HB5 := Lib.hid (HBS.out.trans hb5)
        have HIB5 := Lib.hid hib5
        have k5 := HBOX.out.later HB5.out (by have := HLT.out; omega)
        obtain ⟨⟨hA, hB, hC⟩, _, _, _⟩ := k5.cells
        clear hib5 hb5
        dsimp only
        go_wp2_with fail
        refine none_any _ q.den _ (HD.out.later HB5.out (by have := HLT.out; omega)) _ ?_
        by_cases hd1 : q.den = 1
        · have hdd : decide (q.den = 1) = true := decide_eq_true hd1
          have HTX : Hid (textQ q = [] ++ s1.data.toList) := Lib.hid (by unfold textQ; rw [if_neg (show ¬ q.num < 0 by have := HNEG.out; omega), HS1D.out, if_pos hd1]; simp)
          rw [hdd]
          clear hdd hd1 hA hB hC
          dsimp only
          go_wp2_with fail
          refine bstr_any b _ _ HIB5.out _ ?_
          intro w6 hb6
          have HB6 := Lib.hid (HB5.out.trans hb6)
          rw [← HTX.out]
          obtain ⟨T, hT⟩ : ∃ T, T = textQ q := ⟨_, rfl⟩
          rw [← hT] at HR ⊢
          clear hT hb6
          dsimp only
          go_wp2
          first | go_ret | skip
          exact HR.out _ HFEW.out (HBW.out.trans (HB6.out.mono (by have := HLT.out; omega)))
        · have hdd : decide (q.den = 1) = false := decide_eq_false hd1
          have HTX : Hid (textQ q = (([] ++ s1.data.toList) ++ [47]) ++ s2.data.toList) := Lib.hid (by unfold textQ; rw [if_neg (show ¬ q.num < 0 by have := HNEG.out; omega), HS1D.out, HS2D.out, if_neg hd1]; simp)
          rw [hdd]
          clear hdd hd1 hA hB hC
          dsimp only
          go_wp2_with fail
          refine bwb_any b _ 47 47 rfl _ HIB5.out (by have := HS1.out; simp; have := size_list s1; simp only [Array.length_toList] at this; omega) _ ?_
          intro w6 hib6 hb6
          have HB6 := Lib.hid (HB5.out.trans hb6)
          have HIB6 := Lib.hid hib6
          clear hib6 hb6
          dsimp only
          go_wp2_with fail
          refine bws_any b _ s2 _ HIB6.out (by have := HS1.out; have := HS2.out; simp; have := size_list s1; simp only [Array.length_toList] at this; omega) _ ?_
          intro w7 hib7 hb7
          have HB7 := Lib.hid (HB6.out.trans hb7)
          have HIB7 := Lib.hid hib7
          clear hib7 hb7
          dsimp only
          go_wp2_with fail
          refine bstr_any b _ _ HIB7.out _ ?_
          intro w8 hb8
          have HB8 := Lib.hid (HB7.out.trans hb8)
          rw [← HTX.out]
          obtain ⟨T, hT⟩ : ∃ T, T = textQ q := ⟨_, rfl⟩
          rw [← hT] at HR ⊢
          clear hT hb8
          dsimp only
          go_wp2
          first | go_ret | skip
          exact HR.out _ HFEW.out (HBW.out.trans (HB8.out.mono (by have := HLT.out; omega)))
    · intro s w2 hl2 hb2
      have HF : Hid (¬ few q) := Lib.hid fun h => hl2 h.2
      have HB2 := Lib.hid (HB1.out.trans (hb2.mono HB1.out.size))
      clear hA hB hC hl2 hb2
      dsimp only
      go_wp2
      first | go_ret | skip
      exact HR2.out _ HF.out (HEXT.out.trans (HB2.out.mono HEXT.out.size))
  · intro s w1 hl1 hb1
    have HF : Hid (¬ few q) := Lib.hid fun h => hl1 h.1
    have HB1 := Lib.hid hb1
    clear hA hB hC hl1 hb1
    dsimp only
    go_wp2
    first | go_ret | skip
    exact HR2.out _ HF.out (HEXT.out.trans (HB1.out.mono HEXT.out.size))
end Go.Proofs.YtegdcmcfeaohhaaGreatDoor

namespace Go.Proofs.YtegdcmcfeaohhaaGreatDoor
open Go Go.RowKit

instance (q : Rat) : Decidable (few q) := by unfold few; infer_instance
/-- the text that is returned -/
def outS (o : Option Rat) : ByteArray := match o with
  | some q => if few q then ⟨(textQ q).toArray⟩ else ⟨#[]⟩
  | none => ⟨#[]⟩
/-- whether there is one -/
def outB (o : Option Rat) : Bool := match o with
  | some q => decide (few q)
  | none => false

theorem rtext_o (v : Value) (q : Rat) (w : World) (h : IsR w v q) (htab : Lib.TabIs Tryz.prog w "internal/strconv.uint64pow10" .u64 Lib.pow10Tab) (R : Ending → World → Prop)
    (hR : ∀ w', Below w.heap.size w w' → R (.returned (.tuple #[.string (outS (some q)), .bool (outB (some q))])) w') :
    Calls Tryz.prog 84 #[v] w R :=
  rtext_any v q w h htab R (fun w' hf hb => by have := hR w' hb; simp only [outS, outB, if_pos hf, decide_eq_true hf] at this; exact this)
    (fun w' hf hb => by have := hR w' hb; simp only [outS, outB, if_neg hf, decide_eq_false hf] at this; exact this)
end Go.Proofs.YtegdcmcfeaohhaaGreatDoor

namespace Go.Proofs.YtegdcmcfeaohhaaGreatDoor

theorem rmul_num (a b : Rat) : (a * b).num = a.num.tdiv (Nat.gcd a.num.natAbs b.den) * b.num.tdiv (Nat.gcd b.num.natAbs a.den) := by
  show (Rat.mul a b).num = _
  unfold Rat.mul
  simp only [Int.divExact_eq_tdiv]

theorem rmul_den (a b : Rat) : (a * b).den = a.den / Nat.gcd b.num.natAbs a.den * (b.den / Nat.gcd a.num.natAbs b.den) := by
  show (Rat.mul a b).den = _
  unfold Rat.mul
  simp only [Nat.divExact_eq_div]

/-- what the program's sum has above, before it is reduced -/
def addTop (a b : Rat) : Int := a.num * ((b.den / Nat.gcd a.den b.den : Nat) : Int) + b.num * ((a.den / Nat.gcd a.den b.den : Nat) : Int)

theorem radd_parts (a b : Rat) : (a + b).num = (addTop a b).tdiv (Nat.gcd (addTop a b).natAbs (Nat.gcd a.den b.den)) ∧
    (a + b).den = a.den / Nat.gcd a.den b.den * (b.den / Nat.gcd (addTop a b).natAbs (Nat.gcd a.den b.den)) := by
  have hgb : Nat.gcd a.den b.den ∣ b.den := Nat.gcd_dvd_right _ _
  have h1 : Nat.gcd (addTop a b).natAbs (Nat.gcd a.den b.den) ∣ b.den := Nat.dvd_trans (Nat.gcd_dvd_right _ _) hgb
  constructor
  · show (Rat.add a b).num = _
    unfold Rat.add
    simp only []
    split
    · rename_i hg
      simp only [addTop, hg, Nat.div_one, Nat.gcd_one_right, Int.natCast_one, Int.tdiv_one]
    · unfold Rat.maybeNormalize
      split
      · rename_i hg h
        have h' : Nat.gcd (addTop a b).natAbs (Nat.gcd a.den b.den) = 1 := h
        rw [h']
        simp only [addTop, Int.natCast_one, Int.tdiv_one]
      · simp only [Int.divExact_eq_tdiv]
        rfl
  · show (Rat.add a b).den = _
    unfold Rat.add
    simp only []
    split
    · rename_i hg
      simp only [addTop, hg, Nat.div_one, Nat.gcd_one_right]
    · unfold Rat.maybeNormalize
      split
      · rename_i hg h
        have h' : Nat.gcd (addTop a b).natAbs (Nat.gcd a.den b.den) = 1 := h
        rw [h', Nat.div_one]
      · simp only [Nat.divExact_eq_div]
        exact Nat.mul_div_assoc _ h1

theorem sgn_tdiv (z : Int) (d : Nat) : (if z < 0 then -((z.natAbs / d : Nat) : Int) else ((z.natAbs / d : Nat) : Int)) = z.tdiv (d : Int) := by
  by_cases h : z < 0
  · obtain ⟨n, rfl⟩ : ∃ n : Nat, z = -(n : Int) := ⟨z.natAbs, by omega⟩
    rw [if_pos h, Int.neg_tdiv, Int.natAbs_neg, Int.natAbs_natCast]
    rfl
  · obtain ⟨n, rfl⟩ : ∃ n : Nat, z = (n : Int) := ⟨z.natAbs, by omega⟩
    rw [if_neg h, Int.natAbs_natCast]
    rfl

theorem floor_neg (n d : Nat) (hd : 0 < d) : (-(n : Int)) / (d : Int) = -((n / d + (if n % d = 0 then 0 else 1) : Nat) : Int) := by
  have hdm := Nat.div_add_mod n d
  have hlt := Nat.mod_lt n hd
  by_cases h : n % d = 0
  · rw [if_pos h, Nat.add_zero]
    refine ((Int.ediv_emod_unique (by omega)).2 ⟨?_, Int.le_refl 0, by omega⟩).1
    rw [h, Nat.add_zero] at hdm
    have e : (n : Int) = (d : Int) * ((n / d : Nat) : Int) := by rw [← Int.natCast_mul, hdm]
    rw [Int.mul_neg]
    omega
  · rw [if_neg h]
    refine ((Int.ediv_emod_unique (r := ((d - n % d : Nat) : Int)) (by omega)).2 ⟨?_, by omega, by omega⟩).1
    have e : (n : Int) = (d : Int) * ((n / d : Nat) : Int) + ((n % d : Nat) : Int) := by
      rw [← Int.natCast_mul, ← Int.natCast_add, hdm]
    rw [Int.natCast_add, Int.mul_neg, Int.mul_add]
    omega
end Go.Proofs.YtegdcmcfeaohhaaGreatDoor

namespace Go.Proofs.YtegdcmcfeaohhaaGreatDoor

/-- a fraction with fewer than N digits above and below -/
def Bd (N : Nat) (q : Rat) : Prop := q.num.natAbs < 10 ^ N ∧ q.den < 10 ^ N
theorem Bd.of {q : Rat} (h : few q) : Bd 60 q := few_lt h
theorem Bd.mono {N M : Nat} {q : Rat} (h : Bd N q) (hm : N ≤ M) : Bd M q :=
  ⟨Nat.lt_of_lt_of_le h.1 (Nat.pow_le_pow_right (by omega) hm), Nat.lt_of_lt_of_le h.2 (Nat.pow_le_pow_right (by omega) hm)⟩
theorem Bd.len {N : Nat} {q : Rat} (h : Bd N q) {B : Nat} (hB : 10 ≤ B) : (dig B q.num.natAbs).length ≤ N ∧ (dig B q.den).length ≤ N :=
  ⟨dig_length_le (by omega) _ _ (Nat.lt_of_lt_of_le h.1 (Nat.pow_le_pow_left hB N)), dig_length_le (by omega) _ _ (Nat.lt_of_lt_of_le h.2 (Nat.pow_le_pow_left hB N))⟩
theorem Bd.zero : Bd 1 0 := ⟨by decide, by decide⟩
theorem Bd.one : Bd 1 1 := ⟨by decide, by decide⟩

theorem tdiv_le (z : Int) (d : Nat) : (z.tdiv (d : Int)).natAbs ≤ z.natAbs := by
  rw [Int.natAbs_tdiv, Int.natAbs_natCast]; exact Nat.div_le_self _ _

theorem Bd.mul {N M : Nat} {a b : Rat} (ha : Bd N a) (hb : Bd M b) : Bd (N + M) (a * b) := by
  unfold Bd
  rw [rmul_num, rmul_den, Nat.pow_add, Int.natAbs_mul]
  exact ⟨Nat.mul_lt_mul'' (Nat.lt_of_le_of_lt (tdiv_le _ _) ha.1) (Nat.lt_of_le_of_lt (tdiv_le _ _) hb.1),
    Nat.mul_lt_mul'' (Nat.lt_of_le_of_lt (Nat.div_le_self _ _) ha.2) (Nat.lt_of_le_of_lt (Nat.div_le_self _ _) hb.2)⟩

theorem Bd.add {N M : Nat} {a b : Rat} (ha : Bd N a) (hb : Bd M b) : Bd (N + M + 1) (a + b) := by
  have hp := radd_parts a b
  unfold Bd
  rw [hp.1, hp.2, Nat.pow_succ, Nat.pow_add]
  have h1 : (a.num * ((b.den / Nat.gcd a.den b.den : Nat) : Int)).natAbs < 10 ^ N * 10 ^ M := by
    rw [Int.natAbs_mul, Int.natAbs_natCast]
    exact Nat.mul_lt_mul'' ha.1 (Nat.lt_of_le_of_lt (Nat.div_le_self _ _) hb.2)
  have h2 : (b.num * ((a.den / Nat.gcd a.den b.den : Nat) : Int)).natAbs < 10 ^ N * 10 ^ M := by
    rw [Int.natAbs_mul, Int.natAbs_natCast, Nat.mul_comm]
    exact Nat.mul_lt_mul'' (Nat.lt_of_le_of_lt (Nat.div_le_self _ _) ha.2) hb.1
  have h3 : a.den / Nat.gcd a.den b.den * (b.den / Nat.gcd (addTop a b).natAbs (Nat.gcd a.den b.den)) < 10 ^ N * 10 ^ M :=
    Nat.mul_lt_mul'' (Nat.lt_of_le_of_lt (Nat.div_le_self _ _) ha.2) (Nat.lt_of_le_of_lt (Nat.div_le_self _ _) hb.2)
  have h4 : (addTop a b).natAbs < 10 ^ N * 10 ^ M + 10 ^ N * 10 ^ M := by
    unfold addTop
    have := Int.natAbs_add_le (a.num * ((b.den / Nat.gcd a.den b.den : Nat) : Int)) (b.num * ((a.den / Nat.gcd a.den b.den : Nat) : Int))
    omega
  have h5 := tdiv_le (addTop a b) (Nat.gcd (addTop a b).natAbs (Nat.gcd a.den b.den))
  generalize 10 ^ N * 10 ^ M = z at *
  exact ⟨by omega, by omega⟩

theorem Bd.neg {N : Nat} {a : Rat} (h : Bd N a) : Bd N (-a) := by
  unfold Bd
  rw [Rat.neg_num, Rat.neg_den, Int.natAbs_neg]
  exact h
theorem Bd.int (n : Nat) (N : Nat) (h : n < 10 ^ N) (hN : 1 ≤ N) : Bd N ((n : Nat) : Rat) := by
  have h2 : 10 ^ 1 ≤ 10 ^ N := Nat.pow_le_pow_right (by omega) hN
  refine ⟨?_, ?_⟩
  · show ((n : Int)).natAbs < _
    rw [Int.natAbs_natCast]; exact h
  · show 1 < _
    omega
theorem sub_bd {N M : Nat} {a b : Rat} (ha : Bd N a) (hb : Bd M b) : Bd (N + M + 1) (a - b) := by
  rw [Rat.sub_eq_add_neg]; exact ha.add hb.neg
end Go.Proofs.YtegdcmcfeaohhaaGreatDoor

namespace Go.Proofs.YtegdcmcfeaohhaaGreatDoor
open Go Go.RowKit

/-- what two texts that are numbers make together -/
noncomputable def combO (f : Rat → Rat → Rat) (s t : List UInt8) : Option Rat := match numO s, numO t with
  | some a, some b => some (f a b)
  | _, _ => none
theorem combO_some {f : Rat → Rat → Rat} {s t : List UInt8} {a b : Rat} (ha : numO s = some a) (hb : numO t = some b) : combO f s t = some (f a b) := by unfold combO; rw [ha, hb]
theorem combO_none {f : Rat → Rat → Rat} {s t : List UInt8} (h : numO s = none ∨ numO t = none) : combO f s t = none := by
  unfold combO
  rcases h with h | h
  · rw [h]
  · rw [h]; cases numO s <;> rfl

theorem dig_mul_len {B x y N M : Nat} (hB : 2 ≤ B) (hx : (dig B x).length ≤ N) (hy : (dig B y).length ≤ M) : (dig B (x * y)).length ≤ N + M := by
  refine dig_length_le hB _ _ ?_
  have h1 := Nat.lt_of_lt_of_le (lt_pow_dig hB x) (Nat.pow_le_pow_right (by omega) hx)
  have h2 := Nat.lt_of_lt_of_le (lt_pow_dig hB y) (Nat.pow_le_pow_right (by omega) hy)
  rw [Nat.pow_add]
  exact Nat.mul_lt_mul'' h1 h2

end Go.Proofs.YtegdcmcfeaohhaaGreatDoor

namespace Go.Proofs.YtegdcmcfeaohhaaGreatDoor
open Go Go.RowKit

theorem app_lt {xs : List Nat} (h : ∀ d ∈ xs, d < W64) : ∀ d ∈ xs ++ [0], d < W64 := by
  intro d hd
  rcases List.mem_append.1 hd with h1 | h1
  · exact h d h1
  · simp at h1; subst h1; rw [W64_eq]; omega

theorem addc_parts (x y c s m : Nat) (hx : x < W64) (hy : y < W64) (hc : c ≤ 1) (hs : s = (x + y + c) % W64) (hm : m = (x + y + c) / W64) : x + y + c = s + W64 * m ∧ m ≤ 1 ∧ s < W64 := by
  rw [W64_eq] at *
  omega

def PlusRel (w : World) (g n : Nat) (xs ys : List Nat) (cv iv : Value) (wr : World) : Prop :=
  ∃ (k c : Nat) (cur : List Nat), iv = .int .i64 ((k : Nat) : Int) ∧ cv = .int .u64 ((c : Nat) : Int) ∧ k ≤ n ∧ c ≤ 1 ∧ Arr .u64 123 wr g cur ∧ cur.length = n + 1 ∧ (∀ d ∈ cur, d < W64) ∧
    cur.drop k = xs.drop k ++ [0] ∧ val W64 (cur.take k) + W64 ^ k * c = val W64 (xs.take k) + val W64 (ys.take k) ∧ Below w.heap.size w wr ∧ wr.heap.size = w.heap.size + 1

theorem take_set_same (xs : List Nat) (k s : Nat) : (xs.set k s).take k = xs.take k := by
  rw [List.take_set_of_le (Nat.le_refl _)]

theorem val_take_y (ys : List Nat) (k y : Nat) (hy : y = ys.getD k 0) : val W64 (ys.take (k + 1)) = val W64 (ys.take k) + W64 ^ k * y := by
  by_cases h : k < ys.length
  · rw [val_take_succ W64 ys k h, hy]
  · rw [List.take_of_length_le (by omega), List.take_of_length_le (by omega), hy]
    simp [List.getD, List.getElem?_eq_none (by omega : ys.length ≤ k)]

theorem plus_fin (cur : List Nat) (k c : Nat) (hl : cur.length = k + 1) : val W64 (cur.set k c) = val W64 (cur.take k) + W64 ^ k * c := by
  have h := val_take_succ W64 (cur.set k c) k (by simp [hl])
  rw [List.take_of_length_le (by simp [hl]), take_set_same] at h
  rw [h]
  simp [List.getD, hl]

theorem plus_rel (w wr : World) (g n k c x y s m : Nat) (xs ys cur : List Nat) (hk : k < n) (hxl : xs.length = n) (hA : Arr .u64 123 wr g cur) (hl : cur.length = n + 1) (hlt : ∀ d ∈ cur, d < W64)
    (hd : cur.drop k = xs.drop k ++ [0]) (hv : val W64 (cur.take k) + W64 ^ k * c = val W64 (xs.take k) + val W64 (ys.take k)) (hb : Below w.heap.size w wr) (hs : wr.heap.size = w.heap.size + 1) (hg : w.heap.size ≤ g)
    (hx : cur.getD k 0 = x) (hy : y = ys.getD k 0) (hsm : x + y + c = s + W64 * m) (hm : m ≤ 1) (hsl : s < W64) :
    PlusRel w g n xs ys (.int .u64 ((m : Nat) : Int)) (.int .i64 ((k + 1 : Nat) : Int)) (wr.setCell ⟨g, k, none⟩ (.int .u64 ((s : Nat) : Int))) := by
  refine ⟨k + 1, m, cur.set k s, rfl, rfl, by omega, hm, hA.set _ _, by simp [hl], set_ltN _ _ _ hlt hsl, ?_, ?_, hb.setCell hg _, by simp [hs]⟩
  · rw [drop_set_out _ _ _ _ (by omega)]
    have h2 := congrArg (List.drop 1) hd
    rw [List.drop_drop, List.drop_append_of_le_length (by rw [List.length_drop, hxl]; omega), List.drop_drop] at h2
    exact h2
  · have hxx : xs.getD k 0 = x := by
      have h2 := congrArg (fun l => l.getD 0 0) hd
      simp only [List.getD, List.getElem?_drop, Nat.add_zero, List.getElem?_append, List.length_drop] at h2
      rw [if_pos (by omega)] at h2
      rw [← hx]
      simp only [List.getD]
      exact h2.symm
    rw [val_take_succ W64 (cur.set k s) k (by simp [hl]; omega), take_set_same, val_take_succ W64 xs k (by omega), hxx, val_take_y ys k y hy, Nat.pow_succ]
    have e : (cur.set k s).getD k 0 = s := by simp [List.getD, hl, show k < n + 1 by omega]
    rw [e]
    generalize W64 ^ k = P at *
    generalize val W64 (cur.take k) = A at *
    generalize val W64 (xs.take k) = X at *
    generalize val W64 (ys.take k) = Y at *
    generalize W64 = W at *
    grind

set_option maxRecDepth 100000 in
set_option maxHeartbeats 2000000 in
theorem nplus_any (va vb : Value) (a b : Nat) (w : World) (ha : IsN w va a) (hb : IsN w vb b) (hlen : (dig W64 a).length ≤ 10000000) (hlenb : (dig W64 b).length ≤ 10000000) (R : Ending → World → Prop)
    (hR : ∀ v' w', IsN w' v' (a + b) → Below w.heap.size w w' → R (.returned v') w') :
    Calls Tryz.prog 172 #[va, vb] w R := by
  have HR := Lib.hid hR; clear hR
  obtain ⟨ao, n, cap, rfl, hn, hsa⟩ := ha.open
  obtain ⟨bo, nb, capb, rfl, hnb, hsb⟩ := hb.open
  obtain ⟨xs, hxs⟩ : ∃ xs, xs = dig W64 a := ⟨_, rfl⟩
  obtain ⟨ys, hys⟩ : ∃ ys, ys = dig W64 b := ⟨_, rfl⟩
  have hvx : val W64 xs = a := by rw [hxs]; exact val_dig W64_two _
  have hvy : val W64 ys = b := by rw [hys]; exact val_dig W64_two _
  have hx : ∀ d ∈ xs, d < W64 := by rw [hxs]; exact limb_lt _
  have hy : ∀ d ∈ ys, d < W64 := by rw [hys]; exact limb_lt _
  unfold IsN at hsa hsb
  rw [← hn] at hlen
  rw [← hnb] at hlenb
  rw [← hxs] at hsa hn
  rw [← hys] at hsb hnb
  have HN := Lib.hid hn
  have HNB := Lib.hid hnb
  have HVX := Lib.hid hvx
  have HVY := Lib.hid hvy
  have HX := Lib.hid hx
  have HY := Lib.hid hy
  have HSA := Lib.hid hsa
  have HSB := Lib.hid hsb
  clear ha hb hn hnb hxs hys hvx hvy hx hy hsa hsb
  by_cases hab : n < nb
  · have hlt : (n : Int) < (nb : Int) := by omega
    go_enter Tryz.func172, Tryz.ntmps172
    go_wp2_with (at_make; go_must (refine wpList_makez _ rfl (.tmp 18) 65 rfl 123 .u64 8 Tryz.underlying65 info_u64 (by omega) .i64 _ (nb + 1) (by rfl) (by omega) (by omega) ?_))
    intro W hA hbW hsW
    go_wp2_with (with_reducible refine wpList_copy_nums rfl (.tmp 20) (.tmp 21) 65 66 rfl 123 Tryz.underlying65 (by kernel_rfl) .u64 123 w.heap.size (nb + 1) (nb + 1) (List.replicate (nb + 1) 0) ys hA rfl (.slice bo nb capb) rfl (HSB.out.later hbW (Nat.le_refl _)) (by rw [← HNB.out]; omega) (by simp) ?_)
    intro W2 hA2 hbut2 hsz2
    have hst : PlusRel w w.heap.size nb ys xs (.int .u64 0) (.int .i64 0) W2 := by
      refine ⟨0, 0, ys ++ [0], rfl, rfl, Nat.zero_le _, Nat.zero_le _, ?_, by simp [← HNB.out], app_lt HY.out, by simp, by simp [val], hbW.trans (hbut2.below (Nat.le_refl _) (by omega)), by omega⟩
      have := hA2
      rwa [← HNB.out, Nat.add_sub_cancel_left, List.replicate_one] at this
    have HST := Lib.hid hst
    clear hst hA hbW hsW hA2 hbut2 hsz2
    go_wp2
    go_loopw [6, 25] (fun c i wr => PlusRel w w.heap.size nb ys xs c i wr) (fun _ i _ => nb - (intOf i).toNat)
    case atStart => exact HST.out
    case round =>
      clear HST
      obtain ⟨k, c, cur, rfl, rfl, hk, hc, hA, hl, hlt, hd, hv, hbel, hsz⟩ := hrel
      have HL := Lib.hid hl
      have HLT := Lib.hid hlt
      have HD := Lib.hid hd
      have HV := Lib.hid hv
      have HB := Lib.hid hbel
      have HSZ := Lib.hid hsz
      clear hl hlt hd hv hsz
      by_cases hkn : k < nb
      · obtain ⟨x, hx⟩ : ∃ x, x = cur.getD k 0 := ⟨_, rfl⟩
        obtain ⟨y, hy⟩ : ∃ y, y = xs.getD k 0 := ⟨_, rfl⟩
        have hck := hA.cell k (by rw [HL.out]; omega)
        have hfk := hA.frozen k
        rw [← hx] at hck
        have hxl : x < W64 := by rw [hx]; exact getD_lt (by rw [W64_eq]; omega) _ HLT.out _
        have hyl : y < W64 := by rw [hy]; exact getD_lt (by rw [W64_eq]; omega) _ HX.out _
        obtain ⟨s, hs⟩ : ∃ s, s = (x + y + c) % W64 := ⟨_, rfl⟩
        obtain ⟨m, hm⟩ : ∃ m, m = (x + y + c) / W64 := ⟨_, rfl⟩
        obtain ⟨h1, h2, h3⟩ := addc_parts x y c s m hxl hyl hc hs hm
        have HREL := Lib.hid (plus_rel w wr w.heap.size nb k c x y s m ys xs cur hkn HNB.out.symm hA HL.out HLT.out HD.out HV.out HB.out HSZ.out (Nat.le_refl _) hx.symm hy h1 h2 h3)
        have ea := add64_at x y c hc s m hs hm
        have Hy := Lib.hid hy
        have hkn2 : (k : Int) < (nb : Int) := by omega
        have hkn3 : (k : Int) < (nb : Int) + 1 := by omega
        clear hx hy hxl hyl hs hm h1 h2 h3 hA
        by_cases hkb : k < n
        · obtain ⟨b, o, rfl, hb1, hc1⟩ := Sl.at HSA.out k hkb
          rw [← hbel.cell (p := ⟨b, o + k, none⟩) hb1, ← Hy.out] at hc1
          have hkb2 : (k : Int) < (n : Int) := by omega
          clear hbel
          go_wp2_with (simp only [ea])
          go_roundw
          case rel => exact HREL.out
          case measure => simp [intOf]; omega
        · have hkb2 : ¬ (k : Int) < (n : Int) := by omega
          have hy0 : y = 0 := by rw [Hy.out]; simp [List.getD, List.getElem?_eq_none (by rw [← HN.out]; omega : xs.length ≤ k)]
          clear hbel
          subst hy0
          have ea0 := ea
          rw [show ((0 : Nat) : Int) = 0 from rfl] at ea0
          clear ea
          go_wp2_with (simp only [ea0])
          go_roundw
          case rel => exact HREL.out
          case measure => simp [intOf]; omega
      · obtain rfl : k = nb := by omega
        have hfin : val W64 (cur.set k c) = a + b := by
          rw [plus_fin cur k c HL.out, HV.out, List.take_of_length_le (by rw [← HNB.out]; exact Nat.le_refl _), List.take_of_length_le (by rw [← HN.out]; omega), HVX.out, HVY.out, Nat.add_comm]
        have HF := Lib.hid hfin
        have hfk := hA.frozen k
        have hck := hA.cell k (by rw [HL.out]; omega)
        have hA3 := hA.set k c
        have HLT3 : Hid (∀ d ∈ cur.set k c, d < W64) := Lib.hid (set_ltN _ _ _ HLT.out (by rw [W64_eq]; omega))
        have HA3 := Lib.hid hA3
        have HB3 := Lib.hid (hbel.setCell (Nat.le_refl _) (p := ⟨w.heap.size, k, none⟩) (.int .u64 ((c : Nat) : Int)))
        clear hfin hbel hA hA3
        go_wp2_with fail
        refine trimmed_any _ (cur.set k c) _ (HA3.out.sl _ _ (by rw [List.length_set, HL.out]) (Nat.le_refl _)) HLT3.out (by rw [List.length_set, HL.out]; omega) _ ?_
        intro v' hv' _
        rw [HF.out] at hv'
        dsimp only
        go_wp2
        first | go_ret | skip
        exact HR.out _ _ hv' HB3.out
  · have hlt : ¬ (n : Int) < (nb : Int) := by omega
    go_enter Tryz.func172, Tryz.ntmps172
    go_wp2_with (at_make; go_must (refine wpList_makez _ rfl (.tmp 18) 65 rfl 123 .u64 8 Tryz.underlying65 info_u64 (by omega) .i64 _ (n + 1) (by rfl) (by omega) (by omega) ?_))
    intro W hA hbW hsW
    go_wp2_with (with_reducible refine wpList_copy_nums rfl (.tmp 20) (.tmp 21) 65 66 rfl 123 Tryz.underlying65 (by kernel_rfl) .u64 123 w.heap.size (n + 1) (n + 1) (List.replicate (n + 1) 0) xs hA rfl (.slice ao n cap) rfl (HSA.out.later hbW (Nat.le_refl _)) (by rw [← HN.out]; omega) (by simp) ?_)
    intro W2 hA2 hbut2 hsz2
    have hst : PlusRel w w.heap.size n xs ys (.int .u64 0) (.int .i64 0) W2 := by
      refine ⟨0, 0, xs ++ [0], rfl, rfl, Nat.zero_le _, Nat.zero_le _, ?_, by simp [← HN.out], app_lt HX.out, by simp, by simp [val], hbW.trans (hbut2.below (Nat.le_refl _) (by omega)), by omega⟩
      have := hA2
      rwa [← HN.out, Nat.add_sub_cancel_left, List.replicate_one] at this
    have HST := Lib.hid hst
    clear hst hA hbW hsW hA2 hbut2 hsz2
    go_wp2
    go_loopw [6, 25] (fun c i wr => PlusRel w w.heap.size n xs ys c i wr) (fun _ i _ => n - (intOf i).toNat)
    case atStart => exact HST.out
    case round =>
      clear HST
      obtain ⟨k, c, cur, rfl, rfl, hk, hc, hA, hl, hlt, hd, hv, hbel, hsz⟩ := hrel
      have HL := Lib.hid hl
      have HLT := Lib.hid hlt
      have HD := Lib.hid hd
      have HV := Lib.hid hv
      have HB := Lib.hid hbel
      have HSZ := Lib.hid hsz
      clear hl hlt hd hv hsz
      by_cases hkn : k < n
      · obtain ⟨x, hx⟩ : ∃ x, x = cur.getD k 0 := ⟨_, rfl⟩
        obtain ⟨y, hy⟩ : ∃ y, y = ys.getD k 0 := ⟨_, rfl⟩
        have hck := hA.cell k (by rw [HL.out]; omega)
        have hfk := hA.frozen k
        rw [← hx] at hck
        have hxl : x < W64 := by rw [hx]; exact getD_lt (by rw [W64_eq]; omega) _ HLT.out _
        have hyl : y < W64 := by rw [hy]; exact getD_lt (by rw [W64_eq]; omega) _ HY.out _
        obtain ⟨s, hs⟩ : ∃ s, s = (x + y + c) % W64 := ⟨_, rfl⟩
        obtain ⟨m, hm⟩ : ∃ m, m = (x + y + c) / W64 := ⟨_, rfl⟩
        obtain ⟨h1, h2, h3⟩ := addc_parts x y c s m hxl hyl hc hs hm
        have HREL := Lib.hid (plus_rel w wr w.heap.size n k c x y s m xs ys cur hkn HN.out.symm hA HL.out HLT.out HD.out HV.out HB.out HSZ.out (Nat.le_refl _) hx.symm hy h1 h2 h3)
        have ea := add64_at x y c hc s m hs hm
        have Hy := Lib.hid hy
        have hkn2 : (k : Int) < (n : Int) := by omega
        have hkn3 : (k : Int) < (n : Int) + 1 := by omega
        clear hx hy hxl hyl hs hm h1 h2 h3 hA
        by_cases hkb : k < nb
        · obtain ⟨b, o, rfl, hb1, hc1⟩ := Sl.at HSB.out k hkb
          rw [← hbel.cell (p := ⟨b, o + k, none⟩) hb1, ← Hy.out] at hc1
          have hkb2 : (k : Int) < (nb : Int) := by omega
          clear hbel
          go_wp2_with (simp only [ea])
          go_roundw
          case rel => exact HREL.out
          case measure => simp [intOf]; omega
        · have hkb2 : ¬ (k : Int) < (nb : Int) := by omega
          have hy0 : y = 0 := by rw [Hy.out]; simp [List.getD, List.getElem?_eq_none (by rw [← HNB.out]; omega : ys.length ≤ k)]
          clear hbel
          subst hy0
          have ea0 := ea
          rw [show ((0 : Nat) : Int) = 0 from rfl] at ea0
          clear ea
          go_wp2_with (simp only [ea0])
          go_roundw
          case rel => exact HREL.out
          case measure => simp [intOf]; omega
      · obtain rfl : k = n := by omega
        have hfin : val W64 (cur.set k c) = a + b := by
          rw [plus_fin cur k c HL.out, HV.out, List.take_of_length_le (by rw [← HN.out]; exact Nat.le_refl _), List.take_of_length_le (by rw [← HNB.out]; omega), HVX.out, HVY.out]
        have HF := Lib.hid hfin
        have hfk := hA.frozen k
        have hck := hA.cell k (by rw [HL.out]; omega)
        have hA3 := hA.set k c
        have HLT3 : Hid (∀ d ∈ cur.set k c, d < W64) := Lib.hid (set_ltN _ _ _ HLT.out (by rw [W64_eq]; omega))
        have HA3 := Lib.hid hA3
        have HB3 := Lib.hid (hbel.setCell (Nat.le_refl _) (p := ⟨w.heap.size, k, none⟩) (.int .u64 ((c : Nat) : Int)))
        clear hfin hbel hA hA3
        go_wp2_with fail
        refine trimmed_any _ (cur.set k c) _ (HA3.out.sl _ _ (by rw [List.length_set, HL.out]) (Nat.le_refl _)) HLT3.out (by rw [List.length_set, HL.out]; omega) _ ?_
        intro v' hv' _
        rw [HF.out] at hv'
        dsimp only
        go_wp2
        first | go_ret | skip
        exact HR.out _ _ hv' HB3.out
end Go.Proofs.YtegdcmcfeaohhaaGreatDoor

namespace Go.Proofs.YtegdcmcfeaohhaaGreatDoor
open Go Go.RowKit

/-- a product has few limbs where its factors have -/
theorem mul_limbs (x y N M : Nat) (hx : (dig W64 x).length ≤ N) (hy : (dig W64 y).length ≤ M) : (dig W64 (x * y)).length ≤ N + M := by
  apply dig_length_le W64_two
  have h1 := Nat.lt_of_lt_of_le (lt_pow_dig W64_two x) (Nat.pow_le_pow_right (by rw [W64_eq]; omega) hx)
  have h2 := Nat.lt_of_lt_of_le (lt_pow_dig W64_two y) (Nat.pow_le_pow_right (by rw [W64_eq]; omega) hy)
  rw [Nat.pow_add]
  exact Nat.mul_lt_mul'' h1 h2

end Go.Proofs.YtegdcmcfeaohhaaGreatDoor

namespace Go.Proofs.YtegdcmcfeaohhaaGreatDoor
open Go Go.RowKit

set_option maxRecDepth 100000 in
set_option maxHeartbeats 1000000 in
theorem nover_any (va vb : Value) (a b : Nat) (w : World) (ha : IsN w va a) (hb : IsN w vb b) (hla : (dig W64 a).length ≤ 10000000) (hlb : (dig W64 b).length ≤ 10000000) (hb0 : b ≠ 0) (R : Ending → World → Prop)
    (hR : ∀ v' w', IsN w' v' (a / b) → Below w.heap.size w w' → R (.returned v') w') :
    Calls Tryz.prog 141 #[va, vb] w R := by
  have HR := Lib.hid hR; clear hR
  obtain ⟨a1, n1, c1, rfl, ha'⟩ := ha.op
  obtain ⟨a2, n2, c2, rfl, hb'⟩ := hb.op
  have HA := Lib.hid ha'
  have HB := Lib.hid hb'
  have HLL := Lib.hid (And.intro hla (And.intro hlb hb0))
  clear ha hb ha' hb' hla hlb hb0
  go_enter Tryz.func141, Tryz.ntmps141
  go_wp2_with fail
  refine none_any _ b _ HB.out _ ?_
  by_cases h1 : b = 1
  · have hd : decide (b = 1) = true := decide_eq_true h1
    have HD : Hid (a = a / b) := Lib.hid (by rw [h1, Nat.div_one])
    rw [hd]
    clear hd h1
    dsimp only
    go_wp2
    first | go_ret | skip
    exact HR.out _ _ (HA.out.cast HD.out) (Below.refl _ _)
  · have hd : decide (b = 1) = false := decide_eq_false h1
    rw [hd]
    clear hd h1
    dsimp only
    go_wp2_with fail
    refine divide_any _ _ a b _ HA.out HB.out HLL.out.1 HLL.out.2.1 HLL.out.2.2 _ ?_
    intro v1 v2 w1 hv1 hv2 hb1
    obtain ⟨a3, n3, c3, rfl, hv1'⟩ := hv1.op
    obtain ⟨a4, n4, c4, rfl, hv2'⟩ := hv2.op
    have HV1 := Lib.hid hv1'
    have HB1 := Lib.hid hb1
    clear hv1 hv2 hv1' hv2' hb1
    dsimp only
    go_wp2
    first | go_ret | skip
    exact HR.out _ _ HV1.out HB1.out

theorem sgn_div (z : Int) (d : Nat) : sgn (decide (z < 0)) (z.natAbs / d) = z.tdiv (d : Int) := by
  rw [← sgn_tdiv]
  unfold sgn
  by_cases h : z < 0
  · rw [decide_eq_true h, if_pos rfl, if_pos h]
  · rw [decide_eq_false h, if_neg (by decide), if_neg h]

set_option maxRecDepth 100000 in
set_option maxHeartbeats 4000000 in
theorem iover_any (va vb : Value) (z : Int) (b : Nat) (w : World) (ha : IsI w va z) (hb : IsN w vb b) (hla : (dig W64 z.natAbs).length ≤ 10000000) (hlb : (dig W64 b).length ≤ 10000000) (hb0 : b ≠ 0) (R : Ending → World → Prop)
    (hR : ∀ v' w', IsI w' v' (z.tdiv (b : Int)) → Below w.heap.size w w' → R (.returned v') w') :
    Calls Tryz.prog 139 #[va, vb] w R := by
  have HR := Lib.hid hR; clear hR
  obtain ⟨ng, a1, n1, c1, hng, rfl, hn1⟩ := ha.parts
  obtain ⟨a2, n2, c2, rfl, hn2⟩ := hb.op
  have HNG := Lib.hid hng
  obtain ⟨L, hL⟩ : ∃ L, L = (w.alloc (.cells #[.bool ng, .slice a1 n1 c1] 68)).alloc (.cells #[.bool false, .slice none 0 0] 68) := ⟨_, rfl⟩
  have hb1 : Below (w.heap.size + 1) (w.alloc (.cells #[.bool ng, .slice a1 n1 c1] 68)) L := by rw [hL]; exact (Below.refl _ _).alloc (by simp) _
  have B0 : Box2 L w.heap.size (.bool ng) (.slice a1 n1 c1) 68 := (Box2.made w _ _ _).later hb1 (by omega)
  have B1 : Box2 L (w.heap.size + 1) (.bool false) (.slice none 0 0) 68 := by
    have := Box2.made (w.alloc (.cells #[.bool ng, .slice a1 n1 c1] 68)) (.bool false) (.slice none 0 0) 68
    rw [World.size_alloc, ← hL] at this; exact this
  have HEXT : Hid (Below w.heap.size w L) := Lib.hid (by rw [hL]; exact ((Below.refl w.heap.size w).alloc (Nat.le_refl _) _).alloc (by simp) _)
  have hLs : L.heap.size = w.heap.size + 2 := by rw [hL]; simp
  have hk : w.heap.size + 1 < L.heap.size := by omega
  have HL := Lib.hid hL
  have Y1 := Lib.hid (hn1.later HEXT.out (Nat.le_refl _))
  have Y2 := Lib.hid (hn2.later HEXT.out (Nat.le_refl _))
  have HLN := Lib.hid (And.intro hla (And.intro hlb hb0))
  have HSOF : Hid (∀ w', Below (w.heap.size + 1) L w' → (Below (w.heap.size + 1) L w' ∧ w'.cell? ⟨w.heap.size, 0, none⟩ = some (.bool ng) ∧ w'.cell? ⟨w.heap.size, 1, none⟩ = some (.slice a1 n1 c1))) :=
    Lib.hid fun w' hb => ⟨hb, (B0.later hb (by omega)).cells.1, (B0.later hb (by omega)).cells.2.1⟩
  have HB1 := Lib.hid B1
  have HK := Lib.hid hk
  clear hng ha hb hn1 hn2 hla hlb hb0 hb1 B0 B1 hL hLs hk
  go_enter Tryz.func139, Tryz.ntmps139
  go_wp2_with fail
  rw [← HL.out]
  go_region_held3 (fun w' => Below (w.heap.size + 1) L w' ∧ w'.cell? ⟨w.heap.size, 0, none⟩ = some (.bool ng) ∧ w'.cell? ⟨w.heap.size, 1, none⟩ = some (.slice a1 n1 c1))
    (first
      | exact HSOF.out _ HQ2.out
      | exact HSOF.out _ HQ1.out
      | exact HSOF.out _ (Below.refl _ _).drew
      | exact HSOF.out _ ((HQ2.out.setCell (by simp) _).setCell (by simp) _))
    (first
      | (go_at_call 143; refine integerOf_z ng v1 (z.natAbs / b) _ HV1.out _ ?_; intro v2 w2 hv2 hb2; rw [HNG.out, sgn_div] at hv2; obtain ⟨m2, a5, m5, c5, hm2, rfl, hn5⟩ := hv2.parts; have HV5 := Lib.hid hn5; have HM2 := Lib.hid hm2; have HT2 := Lib.hid (HT1.out.trans (hb2.mono HT1.out.size)); have HQ2 := Lib.hid (HT2.out.mono (Nat.le_of_lt HK.out)); have d2 := HB1.out.later HT2.out HK.out; obtain ⟨hR0, hR1, hR2, hR3⟩ := d2.cells; have HD2 := Lib.hid d2; clear hv2 hb2 d2 hn5 hm2; dsimp only)
      | (go_at_call 141; refine nover_any _ _ z.natAbs b _ (Y1.out.later (Below.refl _ _).drew (Nat.le_refl _)) (Y2.out.later (Below.refl _ _).drew (Nat.le_refl _)) HLN.out.1 HLN.out.2.1 HLN.out.2.2 _ ?_; intro v1 w1 hv1 hb1; have HV1 := Lib.hid hv1; have HT1 : Hid (Below L.heap.size L w1) := Lib.hid (below_unDrew hb1); have HQ1 := Lib.hid (HT1.out.mono (Nat.le_of_lt HK.out)); clear hv1 hb1; dsimp only))
  all_goals
    go_wp2
    refine bodyPost_ret_at (by simp [results, Tryz.results139, go_sem, hR0, hR1, hR2, hR3] <;> rfl) rfl ?_
    refine HR.out _ _ (IsI.mk HM2.out (HV5.out.set2 (HD2.out.noInt rfl rfl) _ _ rfl)) ((((HEXT.out.trans (HT2.out.mono HEXT.out.size)).setCell (by simp) _).setCell (by simp) _))
end Go.Proofs.YtegdcmcfeaohhaaGreatDoor

namespace Go.Proofs.YtegdcmcfeaohhaaGreatDoor
open Go Go.RowKit

theorem sgn_times (a b : Int) : sgn (decide (a < 0) != decide (b < 0)) (a.natAbs * b.natAbs) = a * b := by
  by_cases ha : a < 0
  · obtain ⟨n, rfl⟩ : ∃ n : Nat, a = -(n : Int) := ⟨a.natAbs, by omega⟩
    by_cases hb : b < 0
    · obtain ⟨m, rfl⟩ : ∃ m : Nat, b = -(m : Int) := ⟨b.natAbs, by omega⟩
      rw [decide_eq_true ha, decide_eq_true hb, Int.natAbs_neg, Int.natAbs_neg, Int.natAbs_natCast, Int.natAbs_natCast, Int.neg_mul_neg]
      simp [sgn]
    · obtain ⟨m, rfl⟩ : ∃ m : Nat, b = (m : Int) := ⟨b.natAbs, by omega⟩
      rw [decide_eq_true ha, decide_eq_false hb, Int.natAbs_neg, Int.natAbs_natCast, Int.natAbs_natCast, Int.neg_mul]
      simp [sgn]
  · obtain ⟨n, rfl⟩ : ∃ n : Nat, a = (n : Int) := ⟨a.natAbs, by omega⟩
    by_cases hb : b < 0
    · obtain ⟨m, rfl⟩ : ∃ m : Nat, b = -(m : Int) := ⟨b.natAbs, by omega⟩
      rw [decide_eq_false ha, decide_eq_true hb, Int.natAbs_neg, Int.natAbs_natCast, Int.natAbs_natCast, Int.mul_neg]
      simp [sgn]
    · obtain ⟨m, rfl⟩ : ∃ m : Nat, b = (m : Int) := ⟨b.natAbs, by omega⟩
      rw [decide_eq_false ha, decide_eq_false hb, Int.natAbs_natCast, Int.natAbs_natCast]
      simp [sgn]

set_option maxRecDepth 100000 in
set_option maxHeartbeats 4000000 in
theorem itimes_any (va vb : Value) (a b : Int) (w : World) (ha : IsI w va a) (hb : IsI w vb b) (hla : (dig W64 a.natAbs).length ≤ 10000000) (hlb : (dig W64 b.natAbs).length ≤ 10000000) (R : Ending → World → Prop)
    (hR : ∀ v' w', IsI w' v' (a * b) → Below w.heap.size w w' → R (.returned v') w') :
    Calls Tryz.prog 140 #[va, vb] w R := by
  have HR := Lib.hid hR; clear hR
  obtain ⟨ng, a1, n1, c1, hng, rfl, hn1⟩ := ha.parts
  obtain ⟨mg, a2, n2, c2, hmg, rfl, hn2⟩ := hb.parts
  have HNG := Lib.hid hng
  have HMG := Lib.hid hmg
  obtain ⟨L, hL⟩ : ∃ L, L = ((w.alloc (.cells #[.bool ng, .slice a1 n1 c1] 68)).alloc (.cells #[.bool mg, .slice a2 n2 c2] 68)).alloc (.cells #[.bool false, .slice none 0 0] 68) := ⟨_, rfl⟩
  have HEXT : Hid (Below w.heap.size w L) := Lib.hid (by rw [hL]; exact (((Below.refl w.heap.size w).alloc (Nat.le_refl _) _).alloc (by simp) _).alloc (by simp; omega) _)
  have hLs : L.heap.size = w.heap.size + 3 := by rw [hL]; simp
  have B0 : Box2 L w.heap.size (.bool ng) (.slice a1 n1 c1) 68 := by rw [hL]; exact ((Box2.made w _ _ _).alloc _).alloc _
  have B1 : Box2 L (w.heap.size + 1) (.bool mg) (.slice a2 n2 c2) 68 := by
    have := (Box2.made (w.alloc (.cells #[.bool ng, .slice a1 n1 c1] 68)) (.bool mg) (.slice a2 n2 c2) 68).alloc (.cells #[.bool false, .slice none 0 0] 68)
    rw [World.size_alloc, ← hL] at this; exact this
  have B2 : Box2 L (w.heap.size + 1 + 1) (.bool false) (.slice none 0 0) 68 := by
    have := Box2.made ((w.alloc (.cells #[.bool ng, .slice a1 n1 c1] 68)).alloc (.cells #[.bool mg, .slice a2 n2 c2] 68)) (.bool false) (.slice none 0 0) 68
    rw [World.size_alloc, World.size_alloc, ← hL] at this; exact this
  have hk : w.heap.size + 2 < L.heap.size := by omega
  have HL := Lib.hid hL
  have Y1 := Lib.hid (hn1.later HEXT.out (Nat.le_refl _))
  have Y2 := Lib.hid (hn2.later HEXT.out (Nat.le_refl _))
  have HLN := Lib.hid (And.intro hla hlb)
  have HSOF : Hid (∀ w', Below (w.heap.size + 2) L w' → (Below (w.heap.size + 2) L w' ∧ (w'.cell? ⟨w.heap.size, 0, none⟩ = some (.bool ng) ∧ w'.cell? ⟨w.heap.size, 1, none⟩ = some (.slice a1 n1 c1)) ∧ (w'.cell? ⟨w.heap.size + 1, 0, none⟩ = some (.bool mg) ∧ w'.cell? ⟨w.heap.size + 1, 1, none⟩ = some (.slice a2 n2 c2)))) :=
    Lib.hid fun w' hb => ⟨hb, ⟨(B0.later hb (by omega)).cells.1, (B0.later hb (by omega)).cells.2.1⟩, ⟨(B1.later hb (by omega)).cells.1, (B1.later hb (by omega)).cells.2.1⟩⟩
  have HB1 := Lib.hid B2
  have HK := Lib.hid hk
  clear hng hmg ha hb hn1 hn2 hla hlb B0 B1 B2 hL hLs hk
  go_enter Tryz.func140, Tryz.ntmps140
  go_wp2_with fail
  rw [← HL.out]
  go_region_held3 (fun w' => Below (w.heap.size + 2) L w' ∧ (w'.cell? ⟨w.heap.size, 0, none⟩ = some (.bool ng) ∧ w'.cell? ⟨w.heap.size, 1, none⟩ = some (.slice a1 n1 c1)) ∧ (w'.cell? ⟨w.heap.size + 1, 0, none⟩ = some (.bool mg) ∧ w'.cell? ⟨w.heap.size + 1, 1, none⟩ = some (.slice a2 n2 c2)))
    (first
      | exact HSOF.out _ HQ2.out
      | exact HSOF.out _ HQ1.out
      | exact HSOF.out _ (Below.refl _ _).drew
      | exact HSOF.out _ ((HQ2.out.setCell (by simp) _).setCell (by simp) _))
    (first
      | (go_at_call 143; refine integerOf_z (ng != mg) v1 (a.natAbs * b.natAbs) _ HV1.out _ ?_; intro v2 w2 hv2 hb2; rw [HNG.out, HMG.out, sgn_times] at hv2; obtain ⟨m2, a5, m5, c5, hm2, rfl, hn5⟩ := hv2.parts; have HV5 := Lib.hid hn5; have HM2 := Lib.hid hm2; have HT2 := Lib.hid (HT1.out.trans (hb2.mono HT1.out.size)); have HQ2 := Lib.hid (HT2.out.mono (Nat.le_of_lt HK.out)); have d2 := HB1.out.later HT2.out HK.out; obtain ⟨hR0, hR1, hR2, hR3⟩ := d2.cells; have HD2 := Lib.hid d2; clear hv2 hb2 d2 hn5 hm2; dsimp only)
      | (go_at_call 142; refine ntimes_any _ _ a.natAbs b.natAbs _ (Y1.out.later (Below.refl _ _).drew (Nat.le_refl _)) (Y2.out.later (Below.refl _ _).drew (Nat.le_refl _)) (Nat.le_trans HLN.out.1 (by omega)) (Nat.le_trans HLN.out.2 (by omega)) _ ?_; intro v1 w1 hv1 hb1; have HV1 := Lib.hid hv1; have HT1 : Hid (Below L.heap.size L w1) := Lib.hid (below_unDrew hb1); have HQ1 := Lib.hid (HT1.out.mono (Nat.le_of_lt HK.out)); clear hv1 hb1; dsimp only))
  all_goals
    go_wp2
    refine bodyPost_ret_at (by simp [results, Tryz.results140, go_sem, hR0, hR1, hR2, hR3] <;> rfl) rfl ?_
    refine HR.out _ _ (IsI.mk HM2.out (HV5.out.set2 (HD2.out.noInt rfl rfl) _ _ rfl)) ((((HEXT.out.trans (HT2.out.mono HEXT.out.size)).setCell (show w.heap.size ≤ w.heap.size + 1 + 1 by omega) _).setCell (show w.heap.size ≤ w.heap.size + 1 + 1 by omega) _))

end Go.Proofs.YtegdcmcfeaohhaaGreatDoor

namespace Go.Proofs.YtegdcmcfeaohhaaGreatDoor
open Go Go.RowKit

theorem IsR.drew {w : World} {v : Value} {q : Rat} (h : IsR w v q) : IsR w.drew v q := h
theorem NoInt.set3 {w : World} {b c : Nat} (h : NoInt w b) {y0 y1 y2 : Value} (h0 : notInt y0 = true) (h1 : notInt y1 = true) (h2 : notInt y2 = true) : NoInt (((w.setCell ⟨c, 0, none⟩ y0).setCell ⟨c, 1, none⟩ y1).setCell ⟨c, 2, none⟩ y2) b :=
  ((h.set 0 c h0).set 1 c h1).set 2 c h2
theorem IsR.set3 {w : World} {v : Value} {q : Rat} (h : IsR w v q) {b : Nat} (hb : NoInt w b) (y0 y1 y2 : Value) (h0 : notInt y0 = true) (h1 : notInt y1 = true) : IsR (((w.setCell ⟨b, 0, none⟩ y0).setCell ⟨b, 1, none⟩ y1).setCell ⟨b, 2, none⟩ y2) v q := by
  obtain ⟨s1, s2, e, h3, h4⟩ := h
  exact ⟨s1, s2, e, h3.set3 hb _ _ _ h0 h1, h4.set3 hb _ _ _ h0 h1⟩

end Go.Proofs.YtegdcmcfeaohhaaGreatDoor

namespace Go.Proofs.YtegdcmcfeaohhaaGreatDoor
open Go Go.RowKit

theorem dig_mono {B a b : Nat} (hB : 2 ≤ B) (h : a ≤ b) : (dig B a).length ≤ (dig B b).length :=
  dig_length_le hB _ _ (Nat.lt_of_le_of_lt h (lt_pow_dig hB b))

theorem gcd_le_den (x d : Nat) (hd : d ≠ 0) : Nat.gcd x d ≤ d ∧ Nat.gcd x d ≠ 0 :=
  ⟨Nat.gcd_le_right _ (by omega), fun h => hd (Nat.gcd_eq_zero_iff.1 h).2⟩

theorem tdiv_abs (z : Int) (d : Nat) : (z.tdiv (d : Int)).natAbs = z.natAbs / d := by
  rw [Int.natAbs_tdiv, Int.natAbs_natCast]; rfl

set_option maxRecDepth 100000 in
set_option maxHeartbeats 4000000 in
theorem rtimes_any (va vb : Value) (a b : Rat) (w : World) (ha : IsR w va a) (hb : IsR w vb b) (hla : (dig W64 a.num.natAbs).length ≤ 1000000) (hla2 : (dig W64 a.den).length ≤ 1000000)
    (hlb : (dig W64 b.num.natAbs).length ≤ 1000000) (hlb2 : (dig W64 b.den).length ≤ 1000000) (R : Ending → World → Prop)
    (hR : ∀ v' w', IsR w' v' (a * b) → Below w.heap.size w w' → R (.returned v') w') :
    Calls Tryz.prog 105 #[va, vb] w R := by
  have HR := Lib.hid hR; clear hR
  obtain ⟨na, a1, n1, c1, a2, n2, c2, hna, rfl, hn1, hn2⟩ := ha.parts
  obtain ⟨nb, a3, n3, c3, a4, n4, c4, hnb, rfl, hn3, hn4⟩ := hb.parts
  obtain ⟨L, hL⟩ : ∃ L, L = ((w.alloc (.cells #[.bool na, .slice a1 n1 c1, .slice a2 n2 c2] 70)).alloc (.cells #[.bool nb, .slice a3 n3 c3, .slice a4 n4 c4] 70)).alloc (.cells #[.bool false, .slice none 0 0, .slice none 0 0] 70) := ⟨_, rfl⟩
  have HEXT : Hid (Below w.heap.size w L) := Lib.hid (by rw [hL]; exact (((Below.refl w.heap.size w).alloc (Nat.le_refl _) _).alloc (by simp) _).alloc (by simp; omega) _)
  have hLs : L.heap.size = w.heap.size + 3 := by rw [hL]; simp
  have hb1 : Below (w.heap.size + 1) (w.alloc (.cells #[.bool na, .slice a1 n1 c1, .slice a2 n2 c2] 70)) L := by rw [hL]; exact ((Below.refl _ _).alloc (by simp) _).alloc (by simp) _
  have hb2 : Below (w.heap.size + 2) ((w.alloc (.cells #[.bool na, .slice a1 n1 c1, .slice a2 n2 c2] 70)).alloc (.cells #[.bool nb, .slice a3 n3 c3, .slice a4 n4 c4] 70)) L := by rw [hL]; exact (Below.refl _ _).alloc (by simp) _
  have B0 : Box3 L w.heap.size (.bool na) (.slice a1 n1 c1) (.slice a2 n2 c2) 70 := (Box3.made w _ _ _ _).later hb1 (by omega)
  have B1 : Box3 L (w.heap.size + 1) (.bool nb) (.slice a3 n3 c3) (.slice a4 n4 c4) 70 := by
    have := (Box3.made (w.alloc (.cells #[.bool na, .slice a1 n1 c1, .slice a2 n2 c2] 70)) (.bool nb) (.slice a3 n3 c3) (.slice a4 n4 c4) 70).later hb2 (by simp)
    rw [World.size_alloc] at this; exact this
  have B2 : Box3 L (w.heap.size + 1 + 1) (.bool false) (.slice none 0 0) (.slice none 0 0) 70 := by
    have := Box3.made ((w.alloc (.cells #[.bool na, .slice a1 n1 c1, .slice a2 n2 c2] 70)).alloc (.cells #[.bool nb, .slice a3 n3 c3, .slice a4 n4 c4] 70)) (.bool false) (.slice none 0 0) (.slice none 0 0) 70
    rw [World.size_alloc, World.size_alloc, ← hL] at this; exact this
  have HL := Lib.hid hL
  have HLS := Lib.hid hLs
  have HB2 := Lib.hid B2
  have X1 : Hid (IsI L (.agg #[.bool na, .slice a1 n1 c1]) a.num) := Lib.hid (IsI.mk hna (hn1.later HEXT.out (Nat.le_refl _)))
  have Y1 := Lib.hid (hn1.later HEXT.out (Nat.le_refl _))
  have X2 := Lib.hid (hn2.later HEXT.out (Nat.le_refl _))
  have X3 : Hid (IsI L (.agg #[.bool nb, .slice a3 n3 c3]) b.num) := Lib.hid (IsI.mk hnb (hn3.later HEXT.out (Nat.le_refl _)))
  have Y3 := Lib.hid (hn3.later HEXT.out (Nat.le_refl _))
  have X4 := Lib.hid (hn4.later HEXT.out (Nat.le_refl _))
  obtain ⟨g1, hg1⟩ : ∃ g, g = Nat.gcd a.num.natAbs b.den := ⟨_, rfl⟩
  obtain ⟨g2, hg2⟩ : ∃ g, g = Nat.gcd b.num.natAbs a.den := ⟨_, rfl⟩
  have HG1 := Lib.hid hg1
  have HG2 := Lib.hid hg2
  have k1 := gcd_le_den a.num.natAbs b.den b.den_nz
  have k2 := gcd_le_den b.num.natAbs a.den a.den_nz
  rw [← hg1] at k1
  rw [← hg2] at k2
  have HLN := Lib.hid (And.intro hla (And.intro hla2 (And.intro hlb hlb2)))
  have HGN : Hid (((dig W64 g1).length ≤ 1000000 ∧ (dig W64 g2).length ≤ 1000000) ∧ g1 ≠ 0 ∧ g2 ≠ 0) := Lib.hid ⟨⟨Nat.le_trans (dig_mono W64_two k1.1) hlb2, Nat.le_trans (dig_mono W64_two k2.1) hla2⟩, k1.2, k2.2⟩
  have HPN : Hid ((dig W64 (a.num.tdiv (g1 : Int)).natAbs).length ≤ 1000000 ∧ (dig W64 (b.num.tdiv (g2 : Int)).natAbs).length ≤ 1000000 ∧ (dig W64 (a.den / g2)).length ≤ 1000000 ∧ (dig W64 (b.den / g1)).length ≤ 1000000) := Lib.hid (by
    refine ⟨?_, ?_, Nat.le_trans (dig_mono W64_two (Nat.div_le_self _ _)) hla2, Nat.le_trans (dig_mono W64_two (Nat.div_le_self _ _)) hlb2⟩
    · rw [tdiv_abs]; exact Nat.le_trans (dig_mono W64_two (Nat.div_le_self _ _)) hla
    · rw [tdiv_abs]; exact Nat.le_trans (dig_mono W64_two (Nat.div_le_self _ _)) hlb)
  have HNUM : Hid (a.num.tdiv (g1 : Int) * b.num.tdiv (g2 : Int) = (a * b).num) := Lib.hid (by rw [rmul_num, hg1, hg2])
  have HDEN : Hid (a.den / g2 * (b.den / g1) = (a * b).den) := Lib.hid (by rw [rmul_den, hg1, hg2])
  have HSOF : Hid (∀ w', Below (w.heap.size + 2) L w' → (Below (w.heap.size + 2) L w' ∧ (w'.cell? ⟨w.heap.size, 0, none⟩ = some (.bool na) ∧ w'.cell? ⟨w.heap.size, 1, none⟩ = some (.slice a1 n1 c1) ∧ w'.cell? ⟨w.heap.size, 2, none⟩ = some (.slice a2 n2 c2)) ∧
      (w'.cell? ⟨w.heap.size + 1, 0, none⟩ = some (.bool nb) ∧ w'.cell? ⟨w.heap.size + 1, 1, none⟩ = some (.slice a3 n3 c3) ∧ w'.cell? ⟨w.heap.size + 1, 2, none⟩ = some (.slice a4 n4 c4)))) :=
    Lib.hid fun w' hb => ⟨hb, (B0.later hb (by omega)).cells.1, (B1.later hb (by omega)).cells.1⟩
  clear hna hnb ha hb hn1 hn2 hn3 hn4 hla hlb hla2 hlb2 hb1 hb2 B0 B1 B2 hL hLs hg1 hg2 k1 k2
  go_enter Tryz.func105, Tryz.ntmps105
  go_wp2_with fail
  rw [← HL.out]
  go_region_held3 (fun w' => Below (w.heap.size + 2) L w' ∧ (w'.cell? ⟨w.heap.size, 0, none⟩ = some (.bool na) ∧ w'.cell? ⟨w.heap.size, 1, none⟩ = some (.slice a1 n1 c1) ∧ w'.cell? ⟨w.heap.size, 2, none⟩ = some (.slice a2 n2 c2)) ∧
      (w'.cell? ⟨w.heap.size + 1, 0, none⟩ = some (.bool nb) ∧ w'.cell? ⟨w.heap.size + 1, 1, none⟩ = some (.slice a3 n3 c3) ∧ w'.cell? ⟨w.heap.size + 1, 2, none⟩ = some (.slice a4 n4 c4)))
    (first
      | exact HSOF.out _ HQ2.out
      | exact HSOF.out _ HQ1.out
      | exact HSOF.out _ (Below.refl _ _).drew)
    (first
      | (have hguard := HQ1; go_at_call 138; refine gcdn_any _ _ b.num.natAbs a.den _ (Y3.out.later HT1.out (Nat.le_refl _)) (X2.out.later HT1.out (Nat.le_refl _)) (Nat.le_trans HLN.out.2.2.1 (by omega)) (Nat.le_trans HLN.out.2.1 (by omega)) _ ?_; rw [← HG2.out]; intro v2 w2 hv2 hb2; obtain ⟨p2, q2, r2, rfl, hv2'⟩ := hv2.op; have HV2 := Lib.hid hv2'; have HV1' := Lib.hid (HV1.out.later hb2 (Nat.le_refl _)); have HT2 := Lib.hid (HT1.out.trans (hb2.mono HT1.out.size)); have HQ2 : Hid (Below (w.heap.size + 2) L w2) := Lib.hid (HT2.out.mono (by have := HLS.out; omega)); clear hguard hv2 hv2' hb2; dsimp only)
      | (go_at_call 138; refine gcdn_any _ _ a.num.natAbs b.den _ (Y1.out.later (Below.refl _ _).drew (Nat.le_refl _)) (X4.out.later (Below.refl _ _).drew (Nat.le_refl _)) (Nat.le_trans HLN.out.1 (by omega)) (Nat.le_trans HLN.out.2.2.2 (by omega)) _ ?_; rw [← HG1.out]; intro v1 w1 hv1 hb1; obtain ⟨p1, q1, r1, rfl, hv1'⟩ := hv1.op; have HV1 := Lib.hid hv1'; have HT1 : Hid (Below L.heap.size L w1) := Lib.hid (below_unDrew hb1); have HQ1 : Hid (Below (w.heap.size + 2) L w1) := Lib.hid (HT1.out.mono (by have := HLS.out; omega)); clear hv1 hv1' hb1; dsimp only))
  all_goals
    have HS2 : Hid (∀ w', Below w2.heap.size w2 w' → (Below (w.heap.size + 2) L w' ∧ (w'.cell? ⟨w.heap.size, 0, none⟩ = some (.bool na) ∧ w'.cell? ⟨w.heap.size, 1, none⟩ = some (.slice a1 n1 c1) ∧ w'.cell? ⟨w.heap.size, 2, none⟩ = some (.slice a2 n2 c2)) ∧
        (w'.cell? ⟨w.heap.size + 1, 0, none⟩ = some (.bool nb) ∧ w'.cell? ⟨w.heap.size + 1, 1, none⟩ = some (.slice a3 n3 c3) ∧ w'.cell? ⟨w.heap.size + 1, 2, none⟩ = some (.slice a4 n4 c4)))) :=
      Lib.hid fun w' hb => HSOF.out w' ((HT2.out.trans (hb.mono HT2.out.size)).mono (by have := HLS.out; omega))
    have Z1 := Lib.hid (X1.out.later HT2.out (Nat.le_refl _))
    have Z2 := Lib.hid (X2.out.later HT2.out (Nat.le_refl _))
    have Z3 := Lib.hid (X3.out.later HT2.out (Nat.le_refl _))
    have Z4 := Lib.hid (X4.out.later HT2.out (Nat.le_refl _))
    go_wp2_with fail
    go_region_held3 (fun w' => Below (w.heap.size + 2) L w' ∧ (w'.cell? ⟨w.heap.size, 0, none⟩ = some (.bool na) ∧ w'.cell? ⟨w.heap.size, 1, none⟩ = some (.slice a1 n1 c1) ∧ w'.cell? ⟨w.heap.size, 2, none⟩ = some (.slice a2 n2 c2)) ∧
        (w'.cell? ⟨w.heap.size + 1, 0, none⟩ = some (.bool nb) ∧ w'.cell? ⟨w.heap.size + 1, 1, none⟩ = some (.slice a3 n3 c3) ∧ w'.cell? ⟨w.heap.size + 1, 2, none⟩ = some (.slice a4 n4 c4)))
      (first
        | exact HS2.out _ HW8.out
        | exact HS2.out _ HW7.out
        | exact HS2.out _ HW6.out
        | exact HS2.out _ HW5.out
        | exact HS2.out _ HW4.out
        | exact HS2.out _ HW3.out
        | exact HS2.out _ (Below.refl _ _).drew
        | exact HSOF.out _ (((HQ8.out.setCell (by simp) _).setCell (by simp) _).setCell (by simp) _))
      (first
        | (have hguard := HW7; go_at_call 142; refine ntimes_any _ _ (a.den / g2) (b.den / g1) _ (HV6.out.later HB7.out (Nat.le_refl _)) HV7.out (Nat.le_trans HPN.out.2.2.1 (by omega)) (Nat.le_trans HPN.out.2.2.2 (by omega)) _ ?_; rw [HDEN.out]; intro v8 w8 hv8 hb8; obtain ⟨p8, q8, r8, rfl, hv8'⟩ := hv8.op; have HV8 := Lib.hid hv8'; have HV5' := Lib.hid (HV5.out.later (HB67.out.trans (hb8.mono HB67.out.size)) (Nat.le_refl _)); have HW8 := Lib.hid (HW7.out.trans (hb8.mono HW7.out.size)); have HT8 := Lib.hid (HT2.out.trans (HW8.out.mono HT2.out.size)); have HQ8 : Hid (Below (w.heap.size + 2) L w8) := Lib.hid (HT8.out.mono (by have := HLS.out; omega)); have d8 := HB2.out.later HT8.out (by have := HLS.out; omega); obtain ⟨⟨hR0, hR1, hR2⟩, hF0, hF1, hF2⟩ := d8.cells; have HD8 := Lib.hid d8; clear hguard hv8 hv8' hb8 d8; dsimp only)
        | (have hguard := HW6; go_at_call 141; refine nover_any _ _ b.den g1 _ (Z4.out.later HW6.out (Nat.le_refl _)) (HV1'.out.later HW6.out (Nat.le_refl _)) (Nat.le_trans HLN.out.2.2.2 (by omega)) (Nat.le_trans HGN.out.1.1 (by omega)) HGN.out.2.1 _ ?_; intro v7 w7 hv7 hb7; obtain ⟨p7, q7, r7, rfl, hv7'⟩ := hv7.op; have HV7 := Lib.hid hv7'; have HB7 := Lib.hid hb7; have HB67 := Lib.hid (HB6.out.trans (hb7.mono HB6.out.size)); have HW7 := Lib.hid (HW6.out.trans (hb7.mono HW6.out.size)); clear hguard hv7 hv7' hb7; dsimp only)
        | (have hguard := HW5; go_at_call 141; refine nover_any _ _ a.den g2 _ (Z2.out.later HW5.out (Nat.le_refl _)) (HV2.out.later HW5.out (Nat.le_refl _)) (Nat.le_trans HLN.out.2.1 (by omega)) (Nat.le_trans HGN.out.1.2 (by omega)) HGN.out.2.2 _ ?_; intro v6 w6 hv6 hb6; obtain ⟨p6, q6, r6, rfl, hv6'⟩ := hv6.op; have HV6 := Lib.hid hv6'; have HB6 := Lib.hid hb6; have HW6 := Lib.hid (HW5.out.trans (hb6.mono HW5.out.size)); clear hguard hv6 hv6' hb6; dsimp only)
        | (have hguard := HW4; go_at_call 140; refine itimes_any _ _ (a.num.tdiv (g1 : Int)) (b.num.tdiv (g2 : Int)) _ (HV3.out.later HB4.out (Nat.le_refl _)) HV4.out (Nat.le_trans HPN.out.1 (by omega)) (Nat.le_trans HPN.out.2.1 (by omega)) _ ?_; rw [HNUM.out]; intro v5 w5 hv5 hb5; obtain ⟨m5, p5, q5, r5, hm5, rfl, hv5'⟩ := hv5.parts; have HM5 := Lib.hid hm5; have HV5 := Lib.hid hv5'; have HW5 := Lib.hid (HW4.out.trans (hb5.mono HW4.out.size)); clear hguard hv5 hv5' hm5 hb5; dsimp only)
        | (have hguard := HW3; go_at_call 139; refine iover_any _ _ b.num g2 _ (Z3.out.later HW3.out (Nat.le_refl _)) (HV2.out.later HW3.out (Nat.le_refl _)) (Nat.le_trans HLN.out.2.2.1 (by omega)) (Nat.le_trans HGN.out.1.2 (by omega)) HGN.out.2.2 _ ?_; intro v4 w4 hv4 hb4; obtain ⟨m4, p4, q4, r4, hm4, rfl, hv4'⟩ := hv4.parts; have HV4 := Lib.hid (IsI.mk hm4 hv4'); have HB4 := Lib.hid hb4; have HW4 := Lib.hid (HW3.out.trans (hb4.mono HW3.out.size)); clear hguard hv4 hv4' hm4 hb4; dsimp only)
        | (go_at_call 139; refine iover_any _ _ a.num g1 _ (Z1.out.later (Below.refl _ _).drew (Nat.le_refl _)) (HV1'.out.later (Below.refl _ _).drew (Nat.le_refl _)) (Nat.le_trans HLN.out.1 (by omega)) (Nat.le_trans HGN.out.1.1 (by omega)) HGN.out.2.1 _ ?_; intro v3 w3 hv3 hb3; obtain ⟨m3, p3, q3, r3, hm3, rfl, hv3'⟩ := hv3.parts; have HV3 := Lib.hid (IsI.mk hm3 hv3'); have HW3 : Hid (Below w2.heap.size w2 w3) := Lib.hid (below_unDrew hb3); clear hv3 hv3' hm3 hb3; dsimp only))
    all_goals
      go_wp2
      refine bodyPost_ret_at (by simp [results, Tryz.results105, go_sem, hR0, hR1, hR2, hF0, hF1, hF2] <;> rfl) rfl ?_
      have hq : IsR w8 (.agg #[.bool m5, .slice p5 q5 r5, .slice p8 q8 r8]) (a * b) := ⟨_, _, by rw [HM5.out], HV5'.out, HV8.out⟩
      refine HR.out _ _ (IsR.set3 hq (HD8.out.noInt rfl rfl rfl) _ _ _ rfl rfl) ?_
      exact (((HEXT.out.trans (HT8.out.mono HEXT.out.size)).setCell (show w.heap.size ≤ w.heap.size + 1 + 1 by omega) _).setCell (show w.heap.size ≤ w.heap.size + 1 + 1 by omega) _).setCell (show w.heap.size ≤ w.heap.size + 1 + 1 by omega) _
end Go.Proofs.YtegdcmcfeaohhaaGreatDoor

namespace Go.Proofs.YtegdcmcfeaohhaaGreatDoor
open Go Go.RowKit

theorem sgn_same {a b : Int} (h : decide (a < 0) = decide (b < 0)) : sgn (decide (a < 0)) (a.natAbs + b.natAbs) = a + b := by
  have h' : a < 0 ↔ b < 0 := decide_eq_decide.1 h
  unfold sgn
  by_cases ha : a < 0
  · rw [decide_eq_true ha, if_pos rfl]; have := h'.1 ha; omega
  · rw [decide_eq_false ha, if_neg (by decide)]; have : ¬ b < 0 := fun hb => ha (h'.2 hb); omega
theorem sgn_diff {a b : Int} (h : decide (a < 0) ≠ decide (b < 0)) (hl : ¬ a.natAbs < b.natAbs) : sgn (decide (a < 0)) (a.natAbs - b.natAbs) = a + b := by
  have h' : ¬ (a < 0 ↔ b < 0) := fun e => h (decide_eq_decide.2 e)
  unfold sgn
  by_cases ha : a < 0
  · rw [decide_eq_true ha, if_pos rfl]; have : ¬ b < 0 := fun hb => h' ⟨fun _ => hb, fun _ => ha⟩; omega
  · rw [decide_eq_false ha, if_neg (by decide)]; have : b < 0 := by by_cases hb : b < 0; exact hb; exact absurd ⟨fun x => absurd x ha, fun x => absurd x hb⟩ h'
    omega

theorem cmpN_neg {x y : Nat} (h : cmpN x y < 0) : x < y := by
  unfold cmpN at h
  split at h
  · assumption
  · split at h <;> omega

set_option maxRecDepth 100000 in
set_option maxHeartbeats 4000000 in
theorem iplus_any (va vb : Value) (a b : Int) (w : World) (ha : IsI w va a) (hb : IsI w vb b) (hla : (dig W64 a.natAbs).length ≤ 10000000) (hlb : (dig W64 b.natAbs).length ≤ 10000000) (R : Ending → World → Prop)
    (hR : ∀ v' w', IsI w' v' (a + b) → Below w.heap.size w w' → R (.returned v') w') :
    Calls Tryz.prog 152 #[va, vb] w R := by
  have HR := Lib.hid hR; clear hR
  obtain ⟨ng, a1, n1, c1, hng, rfl, hn1⟩ := ha.parts
  obtain ⟨mg, a2, n2, c2, hmg, rfl, hn2⟩ := hb.parts
  have HNG := Lib.hid hng
  have HMG := Lib.hid hmg
  obtain ⟨L, hL⟩ : ∃ L, L = ((w.alloc (.cells #[.bool ng, .slice a1 n1 c1] 68)).alloc (.cells #[.bool mg, .slice a2 n2 c2] 68)).alloc (.cells #[.bool false, .slice none 0 0] 68) := ⟨_, rfl⟩
  have HEXT : Hid (Below w.heap.size w L) := Lib.hid (by rw [hL]; exact (((Below.refl w.heap.size w).alloc (Nat.le_refl _) _).alloc (by simp) _).alloc (by simp; omega) _)
  have hLs : L.heap.size = w.heap.size + 3 := by rw [hL]; simp
  have B0 : Hid (Box2 L w.heap.size (.bool ng) (.slice a1 n1 c1) 68) := Lib.hid (by rw [hL]; exact ((Box2.made w _ _ _).alloc _).alloc _)
  have B1 : Hid (Box2 L (w.heap.size + 1) (.bool mg) (.slice a2 n2 c2) 68) := Lib.hid (by
    have := (Box2.made (w.alloc (.cells #[.bool ng, .slice a1 n1 c1] 68)) (.bool mg) (.slice a2 n2 c2) 68).alloc (.cells #[.bool false, .slice none 0 0] 68)
    rw [World.size_alloc, ← hL] at this; exact this)
  have B2 : Hid (Box2 L (w.heap.size + 1 + 1) (.bool false) (.slice none 0 0) 68) := Lib.hid (by
    have := Box2.made ((w.alloc (.cells #[.bool ng, .slice a1 n1 c1] 68)).alloc (.cells #[.bool mg, .slice a2 n2 c2] 68)) (.bool false) (.slice none 0 0) 68
    rw [World.size_alloc, World.size_alloc, ← hL] at this; exact this)
  have HK : Hid (w.heap.size + 2 < L.heap.size) := Lib.hid (by omega)
  have HL := Lib.hid hL
  have Y1 := Lib.hid (hn1.later HEXT.out (Nat.le_refl _))
  have Y2 := Lib.hid (hn2.later HEXT.out (Nat.le_refl _))
  have HLN := Lib.hid (And.intro hla hlb)
  obtain ⟨hA, hB, _, _⟩ := B0.out.cells
  obtain ⟨hC, hD, _, _⟩ := B1.out.cells
  rw [hL] at hA hB hC hD
  clear hng hmg ha hb hn1 hn2 hla hlb hL hLs
  by_cases hsame : ng = mg
  · have e0 : (ng == mg) = true := by simp [hsame]
    have HSG : Hid (sgn ng (a.natAbs + b.natAbs) = a + b) := Lib.hid (by rw [HNG.out]; exact sgn_same (by rw [← HNG.out, ← HMG.out]; exact hsame))
    clear hsame
    go_enter Tryz.func152, Tryz.ntmps152
    go_wp2_with fail
    rw [← HL.out]
    clear hA hB hC hD e0
    have HSOF : Hid (∀ w', Below (w.heap.size + 2) L w' → (Below (w.heap.size + 2) L w' ∧ (w'.cell? ⟨w.heap.size, 0, none⟩ = some (.bool ng) ∧ w'.cell? ⟨w.heap.size, 1, none⟩ = some (.slice a1 n1 c1)) ∧ (w'.cell? ⟨w.heap.size + 1, 0, none⟩ = some (.bool mg) ∧ w'.cell? ⟨w.heap.size + 1, 1, none⟩ = some (.slice a2 n2 c2)))) :=
      Lib.hid fun w' hb => ⟨hb, ⟨(B0.out.later hb (by omega)).cells.1, (B0.out.later hb (by omega)).cells.2.1⟩, ⟨(B1.out.later hb (by omega)).cells.1, (B1.out.later hb (by omega)).cells.2.1⟩⟩
    go_region_held3 (fun w' => Below (w.heap.size + 2) L w' ∧ (w'.cell? ⟨w.heap.size, 0, none⟩ = some (.bool ng) ∧ w'.cell? ⟨w.heap.size, 1, none⟩ = some (.slice a1 n1 c1)) ∧ (w'.cell? ⟨w.heap.size + 1, 0, none⟩ = some (.bool mg) ∧ w'.cell? ⟨w.heap.size + 1, 1, none⟩ = some (.slice a2 n2 c2)))
      (first
        | exact HSOF.out _ HQ2.out
        | exact HSOF.out _ HQ1.out
        | exact HSOF.out _ (Below.refl _ _).drew
        | exact HSOF.out _ ((HQ2.out.setCell (by simp) _).setCell (by simp) _))
      (first
        | (go_at_call 143; refine integerOf_z ng v1 (a.natAbs + b.natAbs) _ HV1.out _ ?_; intro v2 w2 hv2 hb2; rw [HSG.out] at hv2; obtain ⟨m2, a5, m5, c5, hm2, rfl, hn5⟩ := hv2.parts; have HV5 := Lib.hid hn5; have HM2 := Lib.hid hm2; have HT2 := Lib.hid (HT1.out.trans (hb2.mono HT1.out.size)); have HQ2 := Lib.hid (HT2.out.mono (Nat.le_of_lt HK.out)); have d2 := B2.out.later HT2.out HK.out; obtain ⟨hR0, hR1, hR2, hR3⟩ := d2.cells; have HD2 := Lib.hid d2; clear hv2 hb2 d2 hn5 hm2; dsimp only)
        | (go_at_call 172; refine nplus_any _ _ a.natAbs b.natAbs _ (Y1.out.later (Below.refl _ _).drew (Nat.le_refl _)) (Y2.out.later (Below.refl _ _).drew (Nat.le_refl _)) (Nat.le_trans HLN.out.1 (by omega)) (Nat.le_trans HLN.out.2 (by omega)) _ ?_; intro v1 w8 hv1 hb1; have HV1 := Lib.hid hv1; have HT1 : Hid (Below L.heap.size L w8) := Lib.hid (below_unDrew hb1); have HQ1 := Lib.hid (HT1.out.mono (Nat.le_of_lt HK.out)); clear hv1 hb1; dsimp only))
    all_goals
      go_wp2
      refine bodyPost_ret_at (by simp [results, Tryz.results152, go_sem, hR0, hR1, hR2, hR3] <;> rfl) rfl ?_
      refine HR.out _ _ (IsI.mk HM2.out (HV5.out.set2 (HD2.out.noInt rfl rfl) _ _ rfl)) ((((HEXT.out.trans (HT2.out.mono HEXT.out.size)).setCell (show w.heap.size ≤ w.heap.size + 1 + 1 by omega) _).setCell (show w.heap.size ≤ w.heap.size + 1 + 1 by omega) _))
  · have e0 : (ng == mg) = false := by simp [hsame]
    have HDF : Hid (decide (a < 0) ≠ decide (b < 0)) := Lib.hid (by rw [← HNG.out, ← HMG.out]; exact hsame)
    clear hsame
    go_enter Tryz.func152, Tryz.ntmps152
    go_wp2_with fail
    rw [← HL.out]
    refine ncmp_any _ _ a.natAbs b.natAbs _ Y1.out Y2.out (Nat.le_trans HLN.out.1 (by omega)) (Nat.le_trans HLN.out.2 (by omega)) _ ?_
    intro w1 hb1 hs1
    have hB0 := B0.out.later hb1 (by have := HK.out; omega)
    have hB1 := B1.out.later hb1 (by have := HK.out; omega)
    have hB2 := B2.out.later hb1 HK.out
    have hY1 := Y1.out.later hb1 (Nat.le_refl _)
    have hY2 := Y2.out.later hb1 (Nat.le_refl _)
    have hEX := HEXT.out.trans (hb1.mono HEXT.out.size)
    have hK1 : w.heap.size + 2 < w1.heap.size := by have := HK.out; omega
    obtain ⟨r, hr⟩ : ∃ r, r = cmpN a.natAbs b.natAbs := ⟨_, rfl⟩
    rw [← hr]
    clear hA hB hC hD B0 B1 B2 Y1 Y2 HEXT HK e0 hb1 hs1 HL
    obtain ⟨hA, hB, hF0, hF1⟩ := hB0.cells
    obtain ⟨hC, hD, hF2, hF3⟩ := hB1.cells
    by_cases hlt : a.natAbs < b.natAbs
    · have hr0 : r < 0 := by rw [hr, cmpN_lt hlt]; omega
      have HSG : Hid (sgn mg (b.natAbs - a.natAbs) = a + b) := Lib.hid (by rw [HMG.out, Int.add_comm]; exact sgn_diff (fun e => HDF.out e.symm) (by omega))
      have HLE : Hid (a.natAbs ≤ b.natAbs) := Lib.hid (by omega)
      obtain ⟨X, hX⟩ : ∃ X, X = (((w1.setCell ⟨w.heap.size, 0, none⟩ (.bool mg)).setCell ⟨w.heap.size, 1, none⟩ (.slice a2 n2 c2)).setCell ⟨w.heap.size + 1, 0, none⟩ (.bool ng)).setCell ⟨w.heap.size + 1, 1, none⟩ (.slice a1 n1 c1) := ⟨_, rfl⟩
      have N0 := hB0.noInt rfl rfl
      have N1 := hB1.noInt rfl rfl
      have B0 : Hid (Box2 X w.heap.size (.bool mg) (.slice a2 n2 c2) 68) := Lib.hid (by rw [hX]; exact ((hB0.set01 _ _).setOther (by omega) _ _).setOther (by omega) _ _)
      have B1 : Hid (Box2 X (w.heap.size + 1) (.bool ng) (.slice a1 n1 c1) 68) := Lib.hid (by rw [hX]; exact Box2.set01 ((hB1.setOther (by omega) _ _).setOther (by omega) _ _) _ _)
      have B2 : Hid (Box2 X (w.heap.size + 1 + 1) (.bool false) (.slice none 0 0) 68) := Lib.hid (by rw [hX]; exact (((hB2.setOther (by omega) _ _).setOther (by omega) _ _).setOther (by omega) _ _).setOther (by omega) _ _)
      have Y1 : Hid (IsN X (.slice a2 n2 c2) b.natAbs) := Lib.hid (by rw [hX]; exact (hY2.set2 N0 _ _ rfl).set2 ((N1.set _ _ rfl).set _ _ rfl) _ _ rfl)
      have Y2 : Hid (IsN X (.slice a1 n1 c1) a.natAbs) := Lib.hid (by rw [hX]; exact (hY1.set2 N0 _ _ rfl).set2 ((N1.set _ _ rfl).set _ _ rfl) _ _ rfl)
      have HEXT : Hid (Below w.heap.size w X) := Lib.hid (by rw [hX]; exact (((hEX.setCell (Nat.le_refl _) _).setCell (Nat.le_refl _) _).setCell (show w.heap.size ≤ w.heap.size + 1 by omega) _).setCell (show w.heap.size ≤ w.heap.size + 1 by omega) _)
      have HK : Hid (w.heap.size + 2 < X.heap.size) := Lib.hid (by rw [hX]; simp only [heap_size_set]; exact hK1)
      have HX := Lib.hid hX
      clear hlt hr hX N0 N1 hB0 hB1 hB2 hY1 hY2 hEX hK1
      dsimp only
      go_wp2_with fail
      rw [← HX.out]
      clear hA hB hC hD hF0 hF1 hF2 hF3 hr0
      have HSOF : Hid (∀ w', Below (w.heap.size + 2) X w' → (Below (w.heap.size + 2) X w' ∧ (w'.cell? ⟨w.heap.size, 0, none⟩ = some (.bool mg) ∧ w'.cell? ⟨w.heap.size, 1, none⟩ = some (.slice a2 n2 c2)) ∧ (w'.cell? ⟨w.heap.size + 1, 0, none⟩ = some (.bool ng) ∧ w'.cell? ⟨w.heap.size + 1, 1, none⟩ = some (.slice a1 n1 c1)))) :=
        Lib.hid fun w' hb => ⟨hb, ⟨(B0.out.later hb (by omega)).cells.1, (B0.out.later hb (by omega)).cells.2.1⟩, ⟨(B1.out.later hb (by omega)).cells.1, (B1.out.later hb (by omega)).cells.2.1⟩⟩
      go_region_held3 (fun w' => Below (w.heap.size + 2) X w' ∧ (w'.cell? ⟨w.heap.size, 0, none⟩ = some (.bool mg) ∧ w'.cell? ⟨w.heap.size, 1, none⟩ = some (.slice a2 n2 c2)) ∧ (w'.cell? ⟨w.heap.size + 1, 0, none⟩ = some (.bool ng) ∧ w'.cell? ⟨w.heap.size + 1, 1, none⟩ = some (.slice a1 n1 c1)))
        (first
          | exact HSOF.out _ HQ2.out
          | exact HSOF.out _ HQ1.out
          | exact HSOF.out _ (Below.refl _ _).drew
          | exact HSOF.out _ ((HQ2.out.setCell (by simp) _).setCell (by simp) _))
        (first
          | (go_at_call 143; refine integerOf_z mg v1 (b.natAbs - a.natAbs) _ HV1.out _ ?_; intro v2 w2 hv2 hb2; rw [HSG.out] at hv2; obtain ⟨m2, a5, m5, c5, hm2, rfl, hn5⟩ := hv2.parts; have HV5 := Lib.hid hn5; have HM2 := Lib.hid hm2; have HT2 := Lib.hid (HT1.out.trans (hb2.mono HT1.out.size)); have HQ2 := Lib.hid (HT2.out.mono (Nat.le_of_lt HK.out)); have d2 := B2.out.later HT2.out HK.out; obtain ⟨hR0, hR1, hR2, hR3⟩ := d2.cells; have HD2 := Lib.hid d2; clear hv2 hb2 d2 hn5 hm2; dsimp only)
          | (go_at_call 173; refine minus_any _ _ b.natAbs a.natAbs _ (Y1.out.later (Below.refl _ _).drew (Nat.le_refl _)) (Y2.out.later (Below.refl _ _).drew (Nat.le_refl _)) HLE.out (Nat.le_trans HLN.out.2 (by omega)) _ ?_; intro v1 w8 hv1 hb1; have HV1 := Lib.hid hv1; have HT1 : Hid (Below X.heap.size X w8) := Lib.hid (below_unDrew hb1); have HQ1 := Lib.hid (HT1.out.mono (Nat.le_of_lt HK.out)); clear hv1 hb1; dsimp only))
      all_goals
        go_wp2
        refine bodyPost_ret_at (by simp [results, Tryz.results152, go_sem, hR0, hR1, hR2, hR3] <;> rfl) rfl ?_
        refine HR.out _ _ (IsI.mk HM2.out (HV5.out.set2 (HD2.out.noInt rfl rfl) _ _ rfl)) ((((HEXT.out.trans (HT2.out.mono HEXT.out.size)).setCell (show w.heap.size ≤ w.heap.size + 1 + 1 by omega) _).setCell (show w.heap.size ≤ w.heap.size + 1 + 1 by omega) _))
    · have hr0 : ¬ r < 0 := by rw [hr]; intro h9; exact hlt (cmpN_neg h9)
      have HSG : Hid (sgn ng (a.natAbs - b.natAbs) = a + b) := Lib.hid (by rw [HNG.out]; exact sgn_diff HDF.out hlt)
      have HLE : Hid (b.natAbs ≤ a.natAbs) := Lib.hid (by omega)
      have B0 := Lib.hid hB0
      have B1 := Lib.hid hB1
      have B2 := Lib.hid hB2
      have Y1 := Lib.hid hY1
      have Y2 := Lib.hid hY2
      have HEXT := Lib.hid hEX
      have HK := Lib.hid hK1
      clear hlt hr hB0 hB1 hB2 hY1 hY2 hEX hK1
      dsimp only
      go_wp2_with fail
      clear hA hB hC hD hF0 hF1 hF2 hF3 hr0
      have HSOF : Hid (∀ w', Below (w.heap.size + 2) w1 w' → (Below (w.heap.size + 2) w1 w' ∧ (w'.cell? ⟨w.heap.size, 0, none⟩ = some (.bool ng) ∧ w'.cell? ⟨w.heap.size, 1, none⟩ = some (.slice a1 n1 c1)) ∧ (w'.cell? ⟨w.heap.size + 1, 0, none⟩ = some (.bool mg) ∧ w'.cell? ⟨w.heap.size + 1, 1, none⟩ = some (.slice a2 n2 c2)))) :=
        Lib.hid fun w' hb => ⟨hb, ⟨(B0.out.later hb (by omega)).cells.1, (B0.out.later hb (by omega)).cells.2.1⟩, ⟨(B1.out.later hb (by omega)).cells.1, (B1.out.later hb (by omega)).cells.2.1⟩⟩
      go_region_held3 (fun w' => Below (w.heap.size + 2) w1 w' ∧ (w'.cell? ⟨w.heap.size, 0, none⟩ = some (.bool ng) ∧ w'.cell? ⟨w.heap.size, 1, none⟩ = some (.slice a1 n1 c1)) ∧ (w'.cell? ⟨w.heap.size + 1, 0, none⟩ = some (.bool mg) ∧ w'.cell? ⟨w.heap.size + 1, 1, none⟩ = some (.slice a2 n2 c2)))
        (first
          | exact HSOF.out _ HQ2.out
          | exact HSOF.out _ HQ1.out
          | exact HSOF.out _ (Below.refl _ _).drew
          | exact HSOF.out _ ((HQ2.out.setCell (by simp) _).setCell (by simp) _))
        (first
          | (go_at_call 143; refine integerOf_z ng v1 (a.natAbs - b.natAbs) _ HV1.out _ ?_; intro v2 w2 hv2 hb2; rw [HSG.out] at hv2; obtain ⟨m2, a5, m5, c5, hm2, rfl, hn5⟩ := hv2.parts; have HV5 := Lib.hid hn5; have HM2 := Lib.hid hm2; have HT2 := Lib.hid (HT1.out.trans (hb2.mono HT1.out.size)); have HQ2 := Lib.hid (HT2.out.mono (Nat.le_of_lt HK.out)); have d2 := B2.out.later HT2.out HK.out; obtain ⟨hR0, hR1, hR2, hR3⟩ := d2.cells; have HD2 := Lib.hid d2; clear hv2 hb2 d2 hn5 hm2; dsimp only)
          | (go_at_call 173; refine minus_any _ _ a.natAbs b.natAbs _ (Y1.out.later (Below.refl _ _).drew (Nat.le_refl _)) (Y2.out.later (Below.refl _ _).drew (Nat.le_refl _)) HLE.out (Nat.le_trans HLN.out.1 (by omega)) _ ?_; intro v1 w8 hv1 hb1; have HV1 := Lib.hid hv1; have HT1 : Hid (Below w1.heap.size w1 w8) := Lib.hid (below_unDrew hb1); have HQ1 := Lib.hid (HT1.out.mono (Nat.le_of_lt HK.out)); clear hv1 hb1; dsimp only))
      all_goals
        go_wp2
        refine bodyPost_ret_at (by simp [results, Tryz.results152, go_sem, hR0, hR1, hR2, hR3] <;> rfl) rfl ?_
        refine HR.out _ _ (IsI.mk HM2.out (HV5.out.set2 (HD2.out.noInt rfl rfl) _ _ rfl)) ((((HEXT.out.trans (HT2.out.mono HEXT.out.size)).setCell (show w.heap.size ≤ w.heap.size + 1 + 1 by omega) _).setCell (show w.heap.size ≤ w.heap.size + 1 + 1 by omega) _))
end Go.Proofs.YtegdcmcfeaohhaaGreatDoor

namespace Go.Proofs.YtegdcmcfeaohhaaGreatDoor
open Go Go.RowKit

theorem bDrew {B : Nat} {a w : World} (h : Below B a w) : Below B a w.drew := h.drew
theorem bAlloc {B : Nat} {a w : World} (hB : B ≤ a.heap.size) (h : Below B a w) (o : Obj) : Below B a (w.alloc o) := h.alloc (Nat.le_trans hB h.size) o
theorem bThen {B : Nat} {a W w1 : World} (hB : B ≤ a.heap.size) (h : Below B a W) (hb : Below W.heap.size W w1) : Below B a w1 := h.trans (hb.mono (Nat.le_trans hB h.size))
theorem Box2.drw {w : World} {b : Nat} {u v : Value} {t : TypeId} (h : Box2 w b u v t) : Box2 w.drew b u v t := h

theorem dig_mul_len0 {x y N M : Nat} (hx : (dig W64 x).length ≤ N) (hy : (dig W64 y).length ≤ M) : (dig W64 (x * y)).length ≤ N + M := by
  refine dig_length_le W64_two _ _ ?_
  have h1 := Nat.lt_of_lt_of_le (lt_pow_dig W64_two x) (Nat.pow_le_pow_right (by rw [W64_eq]; omega) hx)
  have h2 := Nat.lt_of_lt_of_le (lt_pow_dig W64_two y) (Nat.pow_le_pow_right (by rw [W64_eq]; omega) hy)
  rw [Nat.pow_add]
  exact Nat.mul_lt_mul'' h1 h2
theorem addTop_len {a b : Rat} {N : Nat} (h1 : (dig W64 a.num.natAbs).length ≤ N) (h2 : (dig W64 b.num.natAbs).length ≤ N) (h3 : (dig W64 a.den).length ≤ N) (h4 : (dig W64 b.den).length ≤ N) : (dig W64 (addTop a b).natAbs).length ≤ 2 * N + 1 := by
  have p1 := Nat.lt_of_lt_of_le (lt_pow_dig W64_two a.num.natAbs) (Nat.pow_le_pow_right (by rw [W64_eq]; omega) h1)
  have p2 := Nat.lt_of_lt_of_le (lt_pow_dig W64_two b.num.natAbs) (Nat.pow_le_pow_right (by rw [W64_eq]; omega) h2)
  have p3 := Nat.lt_of_lt_of_le (lt_pow_dig W64_two a.den) (Nat.pow_le_pow_right (by rw [W64_eq]; omega) h3)
  have p4 := Nat.lt_of_lt_of_le (lt_pow_dig W64_two b.den) (Nat.pow_le_pow_right (by rw [W64_eq]; omega) h4)
  refine dig_length_le W64_two _ _ ?_
  rw [Nat.pow_succ, Nat.two_mul, Nat.pow_add]
  have q1 : (a.num * ((b.den / Nat.gcd a.den b.den : Nat) : Int)).natAbs < W64 ^ N * W64 ^ N := by
    rw [Int.natAbs_mul, Int.natAbs_natCast]
    exact Nat.mul_lt_mul'' p1 (Nat.lt_of_le_of_lt (Nat.div_le_self _ _) p4)
  have q2 : (b.num * ((a.den / Nat.gcd a.den b.den : Nat) : Int)).natAbs < W64 ^ N * W64 ^ N := by
    rw [Int.natAbs_mul, Int.natAbs_natCast]
    exact Nat.mul_lt_mul'' p2 (Nat.lt_of_le_of_lt (Nat.div_le_self _ _) p3)
  have q3 := Int.natAbs_add_le (a.num * ((b.den / Nat.gcd a.den b.den : Nat) : Int)) (b.num * ((a.den / Nat.gcd a.den b.den : Nat) : Int))
  have q4 : W64 ^ N * W64 ^ N * 2 ≤ W64 ^ N * W64 ^ N * W64 := Nat.mul_le_mul_left _ W64_two
  unfold addTop
  generalize W64 ^ N * W64 ^ N * W64 = z at *
  generalize W64 ^ N * W64 ^ N = y at *
  omega

set_option maxRecDepth 100000 in
set_option maxHeartbeats 8000000 in
theorem rplus_any (va vb : Value) (a b : Rat) (w : World) (ha : IsR w va a) (hb : IsR w vb b) (hla : (dig W64 a.num.natAbs).length ≤ 1000000) (hla2 : (dig W64 a.den).length ≤ 1000000)
    (hlb : (dig W64 b.num.natAbs).length ≤ 1000000) (hlb2 : (dig W64 b.den).length ≤ 1000000) (R : Ending → World → Prop)
    (hR : ∀ v' w', IsR w' v' (a + b) → Below w.heap.size w w' → R (.returned v') w') :
    Calls Tryz.prog 125 #[va, vb] w R := by
  have HR := Lib.hid hR; clear hR
  obtain ⟨na, a1, n1, c1, a2, n2, c2, hna, rfl, hn1, hn2⟩ := ha.parts
  obtain ⟨nb, a3, n3, c3, a4, n4, c4, hnb, rfl, hn3, hn4⟩ := hb.parts
  obtain ⟨L, hL⟩ : ∃ L, L = ((w.alloc (.cells #[.bool na, .slice a1 n1 c1, .slice a2 n2 c2] 70)).alloc (.cells #[.bool nb, .slice a3 n3 c3, .slice a4 n4 c4] 70)).alloc (.cells #[.bool false, .slice none 0 0, .slice none 0 0] 70) := ⟨_, rfl⟩
  have HEXT : Hid (Below w.heap.size w L) := Lib.hid (by rw [hL]; exact (((Below.refl w.heap.size w).alloc (Nat.le_refl _) _).alloc (by simp) _).alloc (by simp; omega) _)
  have hLs : L.heap.size = w.heap.size + 3 := by rw [hL]; simp
  have hb1 : Below (w.heap.size + 1) (w.alloc (.cells #[.bool na, .slice a1 n1 c1, .slice a2 n2 c2] 70)) L := by rw [hL]; exact ((Below.refl _ _).alloc (by simp) _).alloc (by simp) _
  have hb2 : Below (w.heap.size + 2) ((w.alloc (.cells #[.bool na, .slice a1 n1 c1, .slice a2 n2 c2] 70)).alloc (.cells #[.bool nb, .slice a3 n3 c3, .slice a4 n4 c4] 70)) L := by rw [hL]; exact (Below.refl _ _).alloc (by simp) _
  have B0 : Box3 L w.heap.size (.bool na) (.slice a1 n1 c1) (.slice a2 n2 c2) 70 := (Box3.made w _ _ _ _).later hb1 (by omega)
  have B1 : Box3 L (w.heap.size + 1) (.bool nb) (.slice a3 n3 c3) (.slice a4 n4 c4) 70 := by
    have := (Box3.made (w.alloc (.cells #[.bool na, .slice a1 n1 c1, .slice a2 n2 c2] 70)) (.bool nb) (.slice a3 n3 c3) (.slice a4 n4 c4) 70).later hb2 (by simp)
    rw [World.size_alloc] at this; exact this
  have B2 : Box3 L (w.heap.size + 1 + 1) (.bool false) (.slice none 0 0) (.slice none 0 0) 70 := by
    have := Box3.made ((w.alloc (.cells #[.bool na, .slice a1 n1 c1, .slice a2 n2 c2] 70)).alloc (.cells #[.bool nb, .slice a3 n3 c3, .slice a4 n4 c4] 70)) (.bool false) (.slice none 0 0) (.slice none 0 0) 70
    rw [World.size_alloc, World.size_alloc, ← hL] at this; exact this
  have HL := Lib.hid hL
  have HLS := Lib.hid hLs
  have HB2 := Lib.hid B2
  have X1 : Hid (IsI L (.agg #[.bool na, .slice a1 n1 c1]) a.num) := Lib.hid (IsI.mk hna (hn1.later HEXT.out (Nat.le_refl _)))
  have X2 := Lib.hid (hn2.later HEXT.out (Nat.le_refl _))
  have X3 : Hid (IsI L (.agg #[.bool nb, .slice a3 n3 c3]) b.num) := Lib.hid (IsI.mk hnb (hn3.later HEXT.out (Nat.le_refl _)))
  have X4 := Lib.hid (hn4.later HEXT.out (Nat.le_refl _))
  obtain ⟨sg, hsg⟩ : ∃ g, g = Nat.gcd a.den b.den := ⟨_, rfl⟩
  have HSG := Lib.hid hsg
  have k1 := gcd_le_den a.den b.den b.den_nz
  rw [← hsg] at k1
  obtain ⟨T, hT⟩ : ∃ T, T = addTop a b := ⟨_, rfl⟩
  obtain ⟨rg, hrg⟩ : ∃ rg, rg = Nat.gcd T.natAbs sg := ⟨_, rfl⟩
  have HRG := Lib.hid hrg
  have k2 : rg ≤ sg ∧ rg ≠ 0 := by rw [hrg]; exact gcd_le_den T.natAbs sg k1.2
  have hadd := addTop_len hla hlb hla2 hlb2
  have HLN := Lib.hid (And.intro hla (And.intro hla2 (And.intro hlb hlb2)))
  have HGN : Hid (((dig W64 sg).length ≤ 1000000 ∧ (dig W64 rg).length ≤ 1000000) ∧ sg ≠ 0 ∧ rg ≠ 0) := Lib.hid ⟨⟨Nat.le_trans (dig_mono W64_two k1.1) hlb2, Nat.le_trans (dig_mono W64_two (Nat.le_trans k2.1 k1.1)) hlb2⟩, k1.2, k2.2⟩
  have HPN : Hid ((dig W64 (a.den / sg)).length ≤ 1000000 ∧ (dig W64 (b.den / sg)).length ≤ 1000000 ∧ (dig W64 T.natAbs).length ≤ 3000000 ∧ (dig W64 (b.den / rg)).length ≤ 1000000) := Lib.hid
    ⟨Nat.le_trans (dig_mono W64_two (Nat.div_le_self _ _)) hla2, Nat.le_trans (dig_mono W64_two (Nat.div_le_self _ _)) hlb2, by rw [hT]; omega, Nat.le_trans (dig_mono W64_two (Nat.div_le_self _ _)) hlb2⟩
  have HPA : Hid ((dig W64 (a.num * ((b.den / sg : Nat) : Int)).natAbs).length ≤ 3000000 ∧ (dig W64 (b.num * ((a.den / sg : Nat) : Int)).natAbs).length ≤ 3000000) := Lib.hid (by
    rw [Int.natAbs_mul, Int.natAbs_mul, Int.natAbs_natCast, Int.natAbs_natCast]
    exact ⟨Nat.le_trans (dig_mul_len0 hla (Nat.le_trans (dig_mono W64_two (Nat.div_le_self _ _)) hlb2)) (by omega), Nat.le_trans (dig_mul_len0 hlb (Nat.le_trans (dig_mono W64_two (Nat.div_le_self _ _)) hla2)) (by omega)⟩)
  have HTOP : Hid (a.num * ((b.den / sg : Nat) : Int) + b.num * ((a.den / sg : Nat) : Int) = T) := Lib.hid (by rw [hT, hsg]; rfl)
  have HNUM : Hid (T.tdiv (rg : Int) = (a + b).num) := Lib.hid (by rw [(radd_parts a b).1, hrg, hT, hsg])
  have HDEN : Hid (a.den / sg * (b.den / rg) = (a + b).den) := Lib.hid (by rw [(radd_parts a b).2, hrg, hT, hsg])
  have HSOF : Hid (∀ w', Below (w.heap.size + 2) L w' → (Below (w.heap.size + 2) L w' ∧ (w'.cell? ⟨w.heap.size, 0, none⟩ = some (.bool na) ∧ w'.cell? ⟨w.heap.size, 1, none⟩ = some (.slice a1 n1 c1) ∧ w'.cell? ⟨w.heap.size, 2, none⟩ = some (.slice a2 n2 c2)) ∧
      (w'.cell? ⟨w.heap.size + 1, 0, none⟩ = some (.bool nb) ∧ w'.cell? ⟨w.heap.size + 1, 1, none⟩ = some (.slice a3 n3 c3) ∧ w'.cell? ⟨w.heap.size + 1, 2, none⟩ = some (.slice a4 n4 c4)))) :=
    Lib.hid fun w' hb => ⟨hb, (B0.later hb (by omega)).cells.1, (B1.later hb (by omega)).cells.1⟩
  have HB0 := Lib.hid B0
  have HB1 := Lib.hid B1
  obtain ⟨⟨hA0, hA1, hA2⟩, _, _, _⟩ := B0.cells
  obtain ⟨⟨hC0, hC1, hC2⟩, _, _, _⟩ := B1.cells
  rw [hL] at hA0 hA1 hA2 hC0 hC1 hC2
  clear hna hnb ha hb hn1 hn2 hn3 hn4 hla hlb hla2 hlb2 hb1 hb2 B0 B1 B2 hL hLs hsg k1 k2 hT hrg hadd
  go_enter Tryz.func125, Tryz.ntmps125
  go_wp2_with fail
  rw [← HL.out]
  clear hA0 hA1 hA2 hC0 hC1 hC2
  refine gcdn_any _ _ a.den b.den _ X2.out X4.out (Nat.le_trans HLN.out.2.1 (by omega)) (Nat.le_trans HLN.out.2.2.2 (by omega)) _ ?_
  rw [← HSG.out]
  intro v1 w1 hv1 hb1
  obtain ⟨p1, q1, r1, rfl, hv1'⟩ := hv1.op
  have HV1 := Lib.hid hv1'
  have HT1 : Hid (Below L.heap.size L w1) := Lib.hid hb1
  have Z2 := Lib.hid (X2.out.later hb1 (Nat.le_refl _))
  have Z4 := Lib.hid (X4.out.later hb1 (Nat.le_refl _))
  have HS1 : Hid (∀ w', Below w1.heap.size w1 w' → (Below (w.heap.size + 2) L w' ∧ (w'.cell? ⟨w.heap.size, 0, none⟩ = some (.bool na) ∧ w'.cell? ⟨w.heap.size, 1, none⟩ = some (.slice a1 n1 c1) ∧ w'.cell? ⟨w.heap.size, 2, none⟩ = some (.slice a2 n2 c2)) ∧
      (w'.cell? ⟨w.heap.size + 1, 0, none⟩ = some (.bool nb) ∧ w'.cell? ⟨w.heap.size + 1, 1, none⟩ = some (.slice a3 n3 c3) ∧ w'.cell? ⟨w.heap.size + 1, 2, none⟩ = some (.slice a4 n4 c4)))) :=
    Lib.hid fun w' hb => HSOF.out w' ((HT1.out.trans (hb.mono HT1.out.size)).mono (by have := HLS.out; omega))
  clear hv1 hv1' hb1
  dsimp only
  go_wp2_with fail
  go_region_held3 (fun w' => Below (w.heap.size + 2) L w' ∧ (w'.cell? ⟨w.heap.size, 0, none⟩ = some (.bool na) ∧ w'.cell? ⟨w.heap.size, 1, none⟩ = some (.slice a1 n1 c1) ∧ w'.cell? ⟨w.heap.size, 2, none⟩ = some (.slice a2 n2 c2)) ∧
      (w'.cell? ⟨w.heap.size + 1, 0, none⟩ = some (.bool nb) ∧ w'.cell? ⟨w.heap.size + 1, 1, none⟩ = some (.slice a3 n3 c3) ∧ w'.cell? ⟨w.heap.size + 1, 2, none⟩ = some (.slice a4 n4 c4)))
    (first
      | exact HS1.out _ HW3.out
      | exact HS1.out _ HW2.out
      | exact HS1.out _ (Below.refl _ _).drew)
    (first
      | (have hguard := HW2; go_at_call 141; refine nover_any _ _ b.den sg _ (Z4.out.later HW2.out (Nat.le_refl _)) (HV1.out.later HW2.out (Nat.le_refl _)) (Nat.le_trans HLN.out.2.2.2 (by omega)) (Nat.le_trans HGN.out.1.1 (by omega)) HGN.out.2.1 _ ?_; intro v3 w3 hv3 hb3; obtain ⟨p3, q3, r3, rfl, hv3'⟩ := hv3.op; have HV3 := Lib.hid hv3'; have HV2' := Lib.hid (HV2.out.later hb3 (Nat.le_refl _)); have HW3 : Hid (Below w1.heap.size w1 w3) := Lib.hid (HW2.out.trans (hb3.mono HW2.out.size)); clear hguard hv3 hv3' hb3; dsimp only)
      | (go_at_call 141; refine nover_any _ _ a.den sg _ (Z2.out.later (Below.refl _ _).drew (Nat.le_refl _)) (HV1.out.later (Below.refl _ _).drew (Nat.le_refl _)) (Nat.le_trans HLN.out.2.1 (by omega)) (Nat.le_trans HGN.out.1.1 (by omega)) HGN.out.2.1 _ ?_; intro v2 w2 hv2 hb2; obtain ⟨p2, q2, r2, rfl, hv2'⟩ := hv2.op; have HV2 := Lib.hid hv2'; have HW2 : Hid (Below w1.heap.size w1 w2) := Lib.hid (below_unDrew hb2); clear hv2 hv2' hb2; dsimp only))
  have HT3 : Hid (Below L.heap.size L w3) := Lib.hid (HT1.out.trans (HW3.out.mono HT1.out.size))
  have HK3 : Hid (w.heap.size + 2 ≤ w3.heap.size) := Lib.hid (by have := HT3.out.size; have := HLS.out; omega)
  have HS3 : Hid (∀ w', Below w3.heap.size w3 w' → (Below (w.heap.size + 2) L w' ∧ (w'.cell? ⟨w.heap.size, 0, none⟩ = some (.bool na) ∧ w'.cell? ⟨w.heap.size, 1, none⟩ = some (.slice a1 n1 c1) ∧ w'.cell? ⟨w.heap.size, 2, none⟩ = some (.slice a2 n2 c2)) ∧
      (w'.cell? ⟨w.heap.size + 1, 0, none⟩ = some (.bool nb) ∧ w'.cell? ⟨w.heap.size + 1, 1, none⟩ = some (.slice a3 n3 c3) ∧ w'.cell? ⟨w.heap.size + 1, 2, none⟩ = some (.slice a4 n4 c4)))) :=
    Lib.hid fun w' hb => HSOF.out w' ((HT3.out.trans (hb.mono HT3.out.size)).mono (by have := HLS.out; omega))
  have Y1 := Lib.hid (X1.out.later HT3.out (Nat.le_refl _))
  have Y3 := Lib.hid (X3.out.later HT3.out (Nat.le_refl _))
  go_wp2_with fail
  go_region_held3 (fun w' => Below (w.heap.size + 2) L w' ∧ (w'.cell? ⟨w.heap.size, 0, none⟩ = some (.bool na) ∧ w'.cell? ⟨w.heap.size, 1, none⟩ = some (.slice a1 n1 c1) ∧ w'.cell? ⟨w.heap.size, 2, none⟩ = some (.slice a2 n2 c2)) ∧
      (w'.cell? ⟨w.heap.size + 1, 0, none⟩ = some (.bool nb) ∧ w'.cell? ⟨w.heap.size + 1, 1, none⟩ = some (.slice a3 n3 c3) ∧ w'.cell? ⟨w.heap.size + 1, 2, none⟩ = some (.slice a4 n4 c4)))
    (first
      | exact HS3.out _ (by repeat (first | exact HW6.out | exact HW5.out | exact HW4.out | exact Below.refl _ _ | refine bDrew ?_ | refine bAlloc (Nat.le_refl _) ?_ _ | refine Below.setCell ?_ (by first | exact (Nat.le_refl _) | exact HW4.out.size | exact HW5.out.size | exact HW6.out.size) _)))
    (first
      | (have hguard := HW5; go_at_call 152; refine iplus_any _ _ (a.num * ((b.den / sg : Nat) : Int)) (b.num * ((a.den / sg : Nat) : Int)) _ (HV4.out.later (by repeat (first | exact HW45.out | exact Below.refl _ _ | refine bDrew ?_ | refine bAlloc (Nat.le_refl _) ?_ _)) (Nat.le_refl _)) (HV5.out.later (by repeat (first | exact Below.refl _ _ | refine bDrew ?_ | refine bAlloc (Nat.le_refl _) ?_ _)) (Nat.le_refl _)) (Nat.le_trans HPA.out.1 (by omega)) (Nat.le_trans HPA.out.2 (by omega)) _ ?_; rw [HTOP.out]; intro v6 w6 hv6 hb6; obtain ⟨m6, p6, q6, r6, hm6, rfl, hv6'⟩ := hv6.parts; have HV6 := Lib.hid (IsI.mk hm6 hv6'); have HN6 := Lib.hid hv6'; have HM6 := Lib.hid hm6; have HW6 : Hid (Below w3.heap.size w3 w6) := Lib.hid (bThen (Nat.le_refl _) (by repeat (first | exact HW5.out | refine bDrew ?_ | refine bAlloc (Nat.le_refl _) ?_ _)) hb6); (try (have KA := Lib.hid ((Box2.made w5 (.bool false) (.slice none 0 0) 68).later hb6 (by simp)))); (try (have KA := Lib.hid (KA.out.later hb6 (lt_of_block KA.out)))); (try (obtain ⟨hK0, hK1, hK2, hK3⟩ := KA.out.cells)); clear hguard hv6 hv6' hm6 hb6; dsimp only)
      | (have hguard := HW4; go_at_call 131; refine scaled_any _ _ b.num (a.den / sg) _ (Y3.out.later (by repeat (first | exact HW4.out | refine bDrew ?_ | refine bAlloc (Nat.le_refl _) ?_ _)) (Nat.le_refl _)) (HV2'.out.later (by repeat (first | exact HW4.out | refine bDrew ?_ | refine bAlloc (Nat.le_refl _) ?_ _)) (Nat.le_refl _)) (Nat.le_trans HLN.out.2.2.1 (by omega)) (Nat.le_trans HPN.out.1 (by omega)) _ ?_; intro v5 w5 hv5 hb5; obtain ⟨m5, p5, q5, r5, hm5, rfl, hv5'⟩ := hv5.parts; have HV5 := Lib.hid (IsI.mk hm5 hv5'); have HW45 : Hid (Below w4.heap.size w4 w5) := Lib.hid (bThen (Nat.le_refl _) (by repeat (first | exact Below.refl _ _ | refine bDrew ?_ | refine bAlloc (Nat.le_refl _) ?_ _)) hb5); have HW5 : Hid (Below w3.heap.size w3 w5) := Lib.hid (bThen (Nat.le_refl _) (by repeat (first | exact HW4.out | refine bDrew ?_ | refine bAlloc (Nat.le_refl _) ?_ _)) hb5); (try (have KA := Lib.hid ((Box2.made w4 (.bool false) (.slice none 0 0) 68).later hb5 (by simp)))); (try (have KA := Lib.hid (KA.out.later hb5 (lt_of_block KA.out)))); clear hguard hv5 hv5' hm5 hb5; dsimp only)
      | (go_at_call 131; refine scaled_any _ _ a.num (b.den / sg) _ (Y1.out.later (by repeat (first | exact Below.refl _ _ | refine bDrew ?_ | refine bAlloc (Nat.le_refl _) ?_ _)) (Nat.le_refl _)) (HV3.out.later (by repeat (first | exact Below.refl _ _ | refine bDrew ?_ | refine bAlloc (Nat.le_refl _) ?_ _)) (Nat.le_refl _)) (Nat.le_trans HLN.out.1 (by omega)) (Nat.le_trans HPN.out.2.1 (by omega)) _ ?_; intro v4 w4 hv4 hb4; obtain ⟨m4, p4, q4, r4, hm4, rfl, hv4'⟩ := hv4.parts; have HV4 := Lib.hid (IsI.mk hm4 hv4'); have HW4 : Hid (Below w3.heap.size w3 w4) := Lib.hid (bThen (Nat.le_refl _) (by repeat (first | exact Below.refl _ _ | refine bDrew ?_ | refine bAlloc (Nat.le_refl _) ?_ _)) hb4); (try (have KA := Lib.hid (Box2.later (w := (w3.alloc _).drew) ((Box2.made w3 (.bool false) (.slice none 0 0) 68).drw) hb4 (by simp)))); clear hv4 hv4' hm4 hb4; dsimp only))
  all_goals go_wp2_with fail
  all_goals
    first
      | (obtain ⟨g, hg⟩ : ∃ g, g = w6.heap.size := ⟨_, rfl⟩
         obtain ⟨X, hX⟩ : ∃ X, X = w6.alloc (.cells #[.bool m6, .slice p6 q6 r6] 68) := ⟨_, rfl⟩
         rw [← hX]
         have hK : Below w6.heap.size w6 X := by rw [hX]; exact (Below.refl _ _).alloc (Nat.le_refl _) _
         have KX : Hid (Box2 X g (.bool m6) (.slice p6 q6 r6) 68) := Lib.hid (by rw [hX, hg]; exact Box2.made _ _ _ _)
         have HX : Hid (Below w3.heap.size w3 X) := Lib.hid (HW6.out.trans (hK.mono HW6.out.size))
         have HG : Hid (w3.heap.size ≤ g) := Lib.hid (by rw [hg]; exact HW6.out.size)
         have VX : Hid (IsI X (.agg #[.bool m6, .slice p6 q6 r6]) T) := Lib.hid (HV6.out.later hK (Nat.le_refl _))
         have NX : Hid (IsN X (.slice p6 q6 r6) T.natAbs) := Lib.hid (HN6.out.later hK (Nat.le_refl _))
         have tok : Hid True := Lib.hid trivial
         (try rw [← hg])
         clear hK hX hg)
      | (obtain ⟨g, hg⟩ : ∃ g, g = w5.heap.size := ⟨_, rfl⟩
         obtain ⟨X, hX⟩ : ∃ X, X = (w6.setCell ⟨w5.heap.size, 0, none⟩ (.bool m6)).setCell ⟨w5.heap.size, 1, none⟩ (.slice p6 q6 r6) := ⟨_, rfl⟩
         rw [← hX]
         have hnK := KA.out.noInt rfl rfl
         have KX : Hid (Box2 X g (.bool m6) (.slice p6 q6 r6) 68) := Lib.hid (by rw [hX, hg]; exact KA.out.set01 _ _)
         have HG : Hid (w3.heap.size ≤ g) := Lib.hid (by rw [hg]; first | exact HW5.out.size | exact HW4.out.size | exact Nat.le_refl _)
         have HX : Hid (Below w3.heap.size w3 X) := Lib.hid (by rw [hX]; exact below_set2 HW6.out (by first | exact HW5.out.size | exact HW4.out.size | exact Nat.le_refl _) _ _)
         have NX : Hid (IsN X (.slice p6 q6 r6) T.natAbs) := Lib.hid (by rw [hX]; exact HN6.out.set2 hnK _ _ rfl)
         have VX : Hid (IsI X (.agg #[.bool m6, .slice p6 q6 r6]) T) := Lib.hid (IsI.mk HM6.out NX.out)
         have tok : Hid True := Lib.hid trivial
         (try rw [← hg])
         clear hnK hX hg KA)
      | (obtain ⟨g, hg⟩ : ∃ g, g = w4.heap.size := ⟨_, rfl⟩
         obtain ⟨X, hX⟩ : ∃ X, X = (w6.setCell ⟨w4.heap.size, 0, none⟩ (.bool m6)).setCell ⟨w4.heap.size, 1, none⟩ (.slice p6 q6 r6) := ⟨_, rfl⟩
         rw [← hX]
         have hnK := KA.out.noInt rfl rfl
         have KX : Hid (Box2 X g (.bool m6) (.slice p6 q6 r6) 68) := Lib.hid (by rw [hX, hg]; exact KA.out.set01 _ _)
         have HG : Hid (w3.heap.size ≤ g) := Lib.hid (by rw [hg]; first | exact HW5.out.size | exact HW4.out.size | exact Nat.le_refl _)
         have HX : Hid (Below w3.heap.size w3 X) := Lib.hid (by rw [hX]; exact below_set2 HW6.out (by first | exact HW5.out.size | exact HW4.out.size | exact Nat.le_refl _) _ _)
         have NX : Hid (IsN X (.slice p6 q6 r6) T.natAbs) := Lib.hid (by rw [hX]; exact HN6.out.set2 hnK _ _ rfl)
         have VX : Hid (IsI X (.agg #[.bool m6, .slice p6 q6 r6]) T) := Lib.hid (IsI.mk HM6.out NX.out)
         have tok : Hid True := Lib.hid trivial
         (try rw [← hg])
         clear hnK hX hg KA)
      | (obtain ⟨g, hg⟩ : ∃ g, g = w3.heap.size := ⟨_, rfl⟩
         obtain ⟨X, hX⟩ : ∃ X, X = (w6.setCell ⟨w3.heap.size, 0, none⟩ (.bool m6)).setCell ⟨w3.heap.size, 1, none⟩ (.slice p6 q6 r6) := ⟨_, rfl⟩
         rw [← hX]
         have hnK := KA.out.noInt rfl rfl
         have KX : Hid (Box2 X g (.bool m6) (.slice p6 q6 r6) 68) := Lib.hid (by rw [hX, hg]; exact KA.out.set01 _ _)
         have HG : Hid (w3.heap.size ≤ g) := Lib.hid (by rw [hg]; first | exact HW5.out.size | exact HW4.out.size | exact Nat.le_refl _)
         have HX : Hid (Below w3.heap.size w3 X) := Lib.hid (by rw [hX]; exact below_set2 HW6.out (by first | exact HW5.out.size | exact HW4.out.size | exact Nat.le_refl _) _ _)
         have NX : Hid (IsN X (.slice p6 q6 r6) T.natAbs) := Lib.hid (by rw [hX]; exact HN6.out.set2 hnK _ _ rfl)
         have VX : Hid (IsI X (.agg #[.bool m6, .slice p6 q6 r6]) T) := Lib.hid (IsI.mk HM6.out NX.out)
         have tok : Hid True := Lib.hid trivial
         (try rw [← hg])
         clear hnK hX hg KA)
  all_goals
    try clear hK0 hK1 hK2 hK3
    have HX1 : Hid (Below w1.heap.size w1 X) := Lib.hid (HW3.out.trans (HX.out.mono HW3.out.size))
    have HXL : Hid (Below L.heap.size L X) := Lib.hid (HT3.out.trans (HX.out.mono HT3.out.size))
    have HGX : Hid (g < X.heap.size) := Lib.hid (lt_of_block KX.out)
    have HSX : Hid (∀ w', Below X.heap.size X w' → (Below (w.heap.size + 2) L w' ∧ (w'.cell? ⟨w.heap.size + 1, 0, none⟩ = some (.bool nb) ∧ w'.cell? ⟨w.heap.size + 1, 1, none⟩ = some (.slice a3 n3 c3) ∧ w'.cell? ⟨w.heap.size + 1, 2, none⟩ = some (.slice a4 n4 c4)) ∧
        (w'.cell? ⟨g, 0, none⟩ = some (.bool m6) ∧ w'.cell? ⟨g, 1, none⟩ = some (.slice p6 q6 r6)))) :=
      Lib.hid fun w' hb => by
        have h1 := HSOF.out w' ((HXL.out.trans (hb.mono HXL.out.size)).mono (by have := HLS.out; omega))
        have h2 := (KX.out.later hb HGX.out).cells
        exact ⟨h1.1, h1.2.2, h2.1, h2.2.1⟩
    have HSF : Hid (∀ (w' : World) (y0 y1 y2 : Value), Below X.heap.size X w' → (fun w' => Below (w.heap.size + 2) L w' ∧ (w'.cell? ⟨w.heap.size + 1, 0, none⟩ = some (.bool nb) ∧ w'.cell? ⟨w.heap.size + 1, 1, none⟩ = some (.slice a3 n3 c3) ∧ w'.cell? ⟨w.heap.size + 1, 2, none⟩ = some (.slice a4 n4 c4)) ∧
        (w'.cell? ⟨g, 0, none⟩ = some (.bool m6) ∧ w'.cell? ⟨g, 1, none⟩ = some (.slice p6 q6 r6))) (((w'.setCell ⟨w.heap.size + 1 + 1, 0, none⟩ y0).setCell ⟨w.heap.size + 1 + 1, 1, none⟩ y1).setCell ⟨w.heap.size + 1 + 1, 2, none⟩ y2)) :=
      Lib.hid fun w' y0 y1 y2 hb => by
        have hL2 := ((HXL.out.trans (hb.mono HXL.out.size)).mono (show w.heap.size + 2 ≤ L.heap.size by have := HLS.out; omega))
        have h1 := HSOF.out _ (below_set3 hL2 (show w.heap.size + 2 ≤ w.heap.size + 1 + 1 by omega) y0 y1 y2)
        have hgn : g ≠ w.heap.size + 1 + 1 := by have := HG.out; have := HT3.out.size; have := HLS.out; omega
        have h2 := ((((KX.out.later hb HGX.out).setOther hgn 0 y0).setOther hgn 1 y1).setOther hgn 2 y2).cells
        exact ⟨h1.1, h1.2.2, h2.1, h2.2.1⟩
    refine gcdn_any _ _ T.natAbs sg _ NX.out (HV1.out.later HX1.out (Nat.le_refl _)) (Nat.le_trans HPN.out.2.2.1 (by omega)) (Nat.le_trans HGN.out.1.1 (by omega)) _ ?_
    rw [← HRG.out]
    intro v7 w7 hv7 hb7
    obtain ⟨p7, q7, r7, rfl, hv7'⟩ := hv7.op
    have HV7 := Lib.hid hv7'
    have HY7 : Hid (Below X.heap.size X w7) := Lib.hid hb7
    have U1 := Lib.hid (VX.out.later hb7 (Nat.le_refl _))
    have U2 := Lib.hid ((HV2'.out.later HX.out (Nat.le_refl _)).later hb7 (Nat.le_refl _))
    have U4 := Lib.hid ((X4.out.later HXL.out (Nat.le_refl _)).later hb7 (Nat.le_refl _))
    have HSW : Hid (∀ w', Below w7.heap.size w7 w' → (Below (w.heap.size + 2) L w' ∧ (w'.cell? ⟨w.heap.size + 1, 0, none⟩ = some (.bool nb) ∧ w'.cell? ⟨w.heap.size + 1, 1, none⟩ = some (.slice a3 n3 c3) ∧ w'.cell? ⟨w.heap.size + 1, 2, none⟩ = some (.slice a4 n4 c4)) ∧
        (w'.cell? ⟨g, 0, none⟩ = some (.bool m6) ∧ w'.cell? ⟨g, 1, none⟩ = some (.slice p6 q6 r6)))) :=
      Lib.hid fun w' hb => HSX.out w' (HY7.out.trans (hb.mono HY7.out.size))
    clear hv7 hv7' hb7
    dsimp only
    go_wp2_with fail
    go_region_held3 (fun w' => Below (w.heap.size + 2) L w' ∧ (w'.cell? ⟨w.heap.size + 1, 0, none⟩ = some (.bool nb) ∧ w'.cell? ⟨w.heap.size + 1, 1, none⟩ = some (.slice a3 n3 c3) ∧ w'.cell? ⟨w.heap.size + 1, 2, none⟩ = some (.slice a4 n4 c4)) ∧
        (w'.cell? ⟨g, 0, none⟩ = some (.bool m6) ∧ w'.cell? ⟨g, 1, none⟩ = some (.slice p6 q6 r6)))
      (first
        | exact HSW.out _ HW10.out
        | exact HSW.out _ HW9.out
        | exact HSW.out _ HW8.out
        | exact HSW.out _ (Below.refl _ _).drew
        | exact HSF.out _ _ _ _ HY10.out)
      (first
        | (have hguard := HW9; go_at_call 142; refine ntimes_any _ _ (a.den / sg) (b.den / rg) _ (U2.out.later HW9.out (Nat.le_refl _)) HV9.out (Nat.le_trans HPN.out.1 (by omega)) (Nat.le_trans HPN.out.2.2.2 (by omega)) _ ?_; rw [HDEN.out]; intro v10 w10 hv10 hb10; obtain ⟨p10, q10, r10, rfl, hv10'⟩ := hv10.op; have HV10 := Lib.hid hv10'; have HV8' := Lib.hid (HV8.out.later (HB89.out.trans (hb10.mono HB89.out.size)) (Nat.le_refl _)); have HW10 := Lib.hid (HW9.out.trans (hb10.mono HW9.out.size)); have HY10 := Lib.hid (HY7.out.trans (HW10.out.mono HY7.out.size)); have HZ10 := Lib.hid (HXL.out.trans (HY10.out.mono HXL.out.size)); have d8 := HB2.out.later HZ10.out (by have := HLS.out; omega); obtain ⟨⟨hR0, hR1, hR2⟩, hF0, hF1, hF2⟩ := d8.cells; have HD8 := Lib.hid d8; clear hguard hv10 hv10' hb10 d8; dsimp only)
        | (have hguard := HW8; go_at_call 141; refine nover_any _ _ b.den rg _ (U4.out.later HW8.out (Nat.le_refl _)) (HV7.out.later HW8.out (Nat.le_refl _)) (Nat.le_trans HLN.out.2.2.2 (by omega)) (Nat.le_trans HGN.out.1.2 (by omega)) HGN.out.2.2 _ ?_; intro v9 w9 hv9 hb9; obtain ⟨p9, q9, r9, rfl, hv9'⟩ := hv9.op; have HV9 := Lib.hid hv9'; have HB89 := Lib.hid hb9; have HW9 := Lib.hid (HW8.out.trans (hb9.mono HW8.out.size)); clear hguard hv9 hv9' hb9; dsimp only)
        | (go_at_call 139; refine iover_any _ _ T rg _ (U1.out.later (Below.refl _ _).drew (Nat.le_refl _)) (HV7.out.later (Below.refl _ _).drew (Nat.le_refl _)) (Nat.le_trans HPN.out.2.2.1 (by omega)) (Nat.le_trans HGN.out.1.2 (by omega)) HGN.out.2.2 _ ?_; rw [HNUM.out]; intro v8 w8 hv8 hb8; obtain ⟨m8, p8, q8, r8, hm8, rfl, hv8'⟩ := hv8.parts; have HM8 := Lib.hid hm8; have HV8 := Lib.hid hv8'; have HW8 : Hid (Below w7.heap.size w7 w8) := Lib.hid (below_unDrew hb8); clear hv8 hv8' hm8 hb8; dsimp only))
    all_goals
      go_wp2
      refine bodyPost_ret_at (by simp [results, Tryz.results125, go_sem, hR0, hR1, hR2, hF0, hF1, hF2] <;> rfl) rfl ?_
      have hq : IsR w10 (.agg #[.bool m8, .slice p8 q8 r8, .slice p10 q10 r10]) (a + b) := ⟨_, _, by rw [HM8.out], HV8'.out, HV10.out⟩
      refine HR.out _ _ (IsR.set3 hq (HD8.out.noInt rfl rfl rfl) _ _ _ rfl rfl) ?_
      exact (((HEXT.out.trans (HZ10.out.mono HEXT.out.size)).setCell (show w.heap.size ≤ w.heap.size + 1 + 1 by omega) _).setCell (show w.heap.size ≤ w.heap.size + 1 + 1 by omega) _).setCell (show w.heap.size ≤ w.heap.size + 1 + 1 by omega) _
end Go.Proofs.YtegdcmcfeaohhaaGreatDoor

namespace Go.Proofs.YtegdcmcfeaohhaaGreatDoor
open Go Go.RowKit

theorem Box3.set012 {w : World} {b : Nat} {x0 x1 x2 : Value} {t : TypeId} (h : Box3 w b x0 x1 x2 t) (y0 y1 y2 : Value) : Box3 (((w.setCell ⟨b, 0, none⟩ y0).setCell ⟨b, 1, none⟩ y1).setCell ⟨b, 2, none⟩ y2) b y0 y1 y2 t := by
  unfold Box3 at *
  simp [World.setCell, Array.getElem?_modify, h]

/-- the sum of a list of fractions -/
def sumQ (l : List Rat) : Rat := l.foldl (· + ·) 0
theorem sumQ_nil : sumQ [] = 0 := rfl
theorem sumQ_take {l : List Rat} {k : Nat} {q : Rat} (h : l[k]? = some q) : sumQ (l.take (k + 1)) = sumQ (l.take k) + q := by
  rw [List.take_add_one, h]
  unfold sumQ
  rw [List.foldl_append]; rfl

theorem IsI.nil (w : World) : IsI w (.agg #[.bool false, .slice none 0 0]) 0 := ⟨_, rfl, by
  show Sl .u64 w _ (dig W64 0)
  have : dig W64 0 = [] := by simp [dig]
  rw [this]; exact Sl.nil _ _ _ _⟩

/-- what all numbers of a list keep to -/
def AllBd (N : Nat) (l : List Rat) : Prop := ∀ (k : Nat) (q : Rat), l[k]? = some q → Bd N q
theorem allBd_of {L : List ByteArray} (h : L.all isNum = true) : AllBd 60 (L.map qOf) := by
  intro k q hq
  rw [List.getElem?_map] at hq
  cases hs : L[k]? with
  | none => rw [hs] at hq; cases hq
  | some s =>
    rw [hs] at hq
    simp only [Option.map_some, Option.some.injEq] at hq
    subst hq
    exact Bd.of (numO_few (isNum_some (List.all_eq_true.1 h s (List.mem_of_getElem? hs))))

/-- what is told of a list -/
noncomputable def sumO (L : List ByteArray) : Option Rat := if (decide (L.length ≤ 60) && L.all isNum) = true then some (sumQ (L.map qOf)) else none

/-- the loop of the program's sum -/
def SumRel (w1 : World) (n : Nat) (qs : List Rat) (i : Value) (wr : World) : Prop :=
  ∃ k m a5 n5 c5 a6 n6 c6, i = .int .i64 ((k : Nat) : Int) ∧ k ≤ n ∧ Box3 wr w1.heap.size (.bool m) (.slice a5 n5 c5) (.slice a6 n6 c6) 70 ∧ IsR wr (.agg #[.bool m, .slice a5 n5 c5, .slice a6 n6 c6]) (sumQ (qs.take k)) ∧
    Bd (61 * k + 1) (sumQ (qs.take k)) ∧ Below w1.heap.size w1 wr

end Go.Proofs.YtegdcmcfeaohhaaGreatDoor
