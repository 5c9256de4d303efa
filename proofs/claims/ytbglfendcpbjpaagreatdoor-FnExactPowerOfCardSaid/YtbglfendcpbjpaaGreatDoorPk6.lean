/- Contracts of functions of the program and of the model: DigN, Lst, Tx, Rats, TimesN, Scaled, Read2, Give, TextI. -/
import Derived.Test.YtbglfendcpbjpaaGreatDoorPk5
import Derived.Deep.RegionHeld3
set_option linter.all false
set_option linter.unusedVariables false
set_option linter.unusedSimpArgs false
set_option linter.unnecessarySimpa false
set_option linter.deprecated false
namespace Go.Proofs.YtbglfendcpbjpaaGreatDoor
open Go Go.RowKit Go.Shelf

theorem C19_lt : C19 < W64 := by rw [C19_eq, W64_eq]; omega
theorem C19_pos : 0 < C19 := by rw [C19_eq]; omega

theorem tab_later {P : Program} {w w' : World} {name : String} {k : IntKind} {zs : List Int} {B : Nat} (h : Lib.TabIs P w name k zs) (hb : Below B w w') (hB : w.heap.size ≤ B) : Lib.TabIs P w' name k zs := by
  have hv' : w.var? P name = some (zs.map fun z => Value.int k z).toArray := h
  have hv := hv'
  unfold World.var? at hv'
  show w'.var? P name = some _
  cases hg : P.globalNamed name with
  | none => rw [hg] at hv'; simp at hv'
  | some g =>
    refine var?_below (hb.mono hB |> fun h => h) hg ?_ hv
    rw [hg] at hv'
    simp only [Option.bind_some] at hv'
    rcases Nat.lt_or_ge g w.heap.size with h | h
    · exact h
    · rw [Array.getElem?_eq_none (by omega)] at hv'; simp at hv'

theorem drop_val_ne (n j : Nat) (h : j < (dig C19 n).length) : val C19 ((dig C19 n).drop j) ≠ 0 := by
  intro h0
  have h1 := val_take_drop C19 (dig C19 n) j (by omega)
  rw [h0, val_dig C19_two, Nat.mul_zero, Nat.add_zero] at h1
  have h2 := val_lt (B := C19) ((dig C19 n).take j) (fun d hd => dig_lt C19_two n d (List.mem_of_mem_take hd))
  rw [← h1, List.length_take, Nat.min_eq_left (by omega)] at h2
  have := dig_length_le C19_two j n h2
  omega

def lenS : Value → Nat
  | .slice _ n _ => n
  | _ => 0

set_option maxRecDepth 100000 in
theorem divsC_any (v : Value) (a : Nat) (w : World) (h : IsN w v a) (hlen : (dig W64 a).length ≤ 4) (R : Ending → World → Prop)
    (hR : ∀ v' w', IsN w' v' (a / C19) → Below w.heap.size w w' → (∀ b, blk v' = some b → w.heap.size ≤ b) → R (.returned (.tuple #[v', .int .u64 ((a % C19 : Nat) : Int)])) w') :
    Calls Tryz.prog 121 #[v, .int .u64 10000000000000000000] w R := by
  have := divs_own v a C19 w h C19_pos C19_lt (by omega) R hR
  exact this

/-- a slice elsewhere, behind an append -/
theorem Sl.grown {k : IntKind} {w w' : World} {v : Value} {xs : List Nat} {row : Option Nat} (h : Sl k w v xs) (hg : w.grownBy w' row) (hr : ∀ g, row = some g → blk v ≠ some g) : Sl k w' v xs := by
  obtain ⟨ao, cap, hv, hc, hx⟩ := h
  refine ⟨ao, cap, hv, hc, fun i hi => ?_⟩
  obtain ⟨b, off, h1, h2, h3⟩ := hx i hi
  refine ⟨b, off, h1, Nat.lt_of_lt_of_le h2 hg.size, ?_⟩
  have hb : some b ≠ row := by
    intro e
    refine hr b e.symm ?_
    rw [hv, h1]; rfl
  have := World.cell?_of_block (w := w) (w' := w') (a := ⟨b, off + i, none⟩) (hg.block b h2 hb)
  rw [this]; exact h3

/-- one limb is appended to a slice that the call has made; nothing else changes -/
theorem wpList_pushg {P : Program} {w : World} {ops : Array Oper} {rest : List Oper} {o : Oper} {a : Act} {Q : Exit → Act → World → Prop} (hgd : o.guard = none) (s x : Operand) (t : TypeId)
    (ho : o.op = .call { callee := .builtin .append, args := #[s, x], argTypes := #[t, t] })
    (e : TypeId) (k : IntKind) (bytes : Nat) (ht : P.underlying t = some (.slice e)) (hi : (P.info? e).map (fun i => (i.zero, i.size, i.bytes)) = some (some (.int k 0), 1, bytes)) (hby : bytes ≤ 16)
    (B : Nat) (v : Value) (xs : List Nat) (n : Nat) (hs : a.eval s = v) (hown : Own k e w B v xs)
    (g : Nat) (hx : a.eval x = .slice (some ⟨g, 0, none⟩) 1 1) (hg : w.cell? ⟨g, 0, none⟩ = some (.int k ((n : Nat) : Int)))
    (hlen : xs.length ≤ 100000000) (hB : B ≤ w.heap.size)
    (h : ∀ v' w', Own k e w' B v' (xs ++ [n]) → Below B w w' → w.grownBy w' v.ownBlock → wpList P ops Q rest (a.put o.dst v') w') : wpList P ops Q (o :: rest) a w := by
  obtain ⟨i0, hi0, hz0, hz1, hz2⟩ := info_parts hi
  refine wpList_append_own w hgd s x t ho B e i0 (.int k 0) 1 bytes ht hi0 hz0 hz1 hz2 rfl (by decide) v xs.length (nums k xs) hs hown ⟨g, 0, none⟩ 1 1 [.int k ((n : Nat) : Int)] hx rfl ?_ ?_ ?_ ?_ hB ?_
  · intro j u hj
    match j, hj with
    | 0, hj => simp at hj; subst hj; simpa [Addr.add] using hg
  · intro u hu; simp at hu; subst hu; rfl
  · simp only [maxLen]; omega
  · have : (xs.length + 1) * bytes ≤ (xs.length + 1) * 16 := Nat.mul_le_mul_left _ hby
    omega
  · intro v' w' hown' hgrow _
    refine h v' w' ?_ ?_ hgrow
    · simpa [Own, nums] using hown'
    · refine (Below.refl B w).grown hgrow hB (fun g' hg' => ?_)
      exact (Own.ownBlock hown g' hg').1

theorem Own.shapeS {k : IntKind} {e : TypeId} {w : World} {B : Nat} {v : Value} {xs : List Nat} (h : Own k e w B v xs) : ∃ ao c, v = .slice ao xs.length c := by
  rcases h.2 with ⟨rfl, h2⟩ | ⟨g, cap, cur, rfl, _⟩
  · exact ⟨none, 0, by rw [h2]⟩
  · exact ⟨_, _, rfl⟩

/-- what the first loop keeps: the chunks so far, and what is left -/
def DigRel (w : World) (n : Nat) (av cv : Value) (wr : World) : Prop :=
  ∃ m cs, IsN wr av m ∧ Own .u64 110 wr w.heap.size cv cs ∧ cs ++ dig C19 m = dig C19 n ∧ (dig W64 m).length ≤ 4 ∧ Below w.heap.size w wr

theorem digs_step {n m : Nat} {cs : List Nat} (h : cs ++ dig C19 m = dig C19 n) (hm : m ≠ 0) : (cs ++ [m % C19]) ++ dig C19 (m / C19) = dig C19 n := by
  rw [← h, dig_pos C19_two hm]; simp

theorem limbs_div {m k : Nat} (h : (dig W64 m).length ≤ k) : (dig W64 (m / C19)).length ≤ k := by
  refine dig_length_le W64_two k _ ?_
  have h1 := Nat.lt_of_lt_of_le (lt_pow_dig W64_two m) (Nat.pow_le_pow_right (by rw [W64_eq]; omega) h)
  exact Nat.lt_of_le_of_lt (Nat.div_le_self _ _) h1

/-- what the second loop keeps -/
def OutRel (wr : World) (L : Nat) (cs : List Nat) (iv : Value) (wx : World) : Prop :=
  ∃ k : Nat, iv = .int .i64 ((k : Int) - 1) ∧ k ≤ L ∧ IsB wx wr.heap.size (decs (val C19 (cs.drop k))) ∧ Below wr.heap.size wr wx

theorem rep_zero (c : Nat) : Lib.repeatL [48] c = List.replicate c 48 := by
  induction c with
  | zero => rfl
  | succ c ih => rw [Lib.repeatL, ih, List.replicate_succ]; rfl

set_option maxRecDepth 100000 in
theorem rep48_any (c : Nat) (w : World) (hc : c ≤ 100) (R : Ending → World → Prop)
    (hR : ∀ w', Below w.heap.size w w' → R (.returned (.string ⟨(List.replicate c 48).toArray⟩)) w') :
    Calls Tryz.prog 123 #[.string ⟨#[48]⟩, .int .i64 (c : Int)] w R := by
  refine (Tryz.strings_Repeat ⟨#[48]⟩ c w (by omega) (by show 1 * c ≤ _; omega)).mono ?_
  rintro e w' ⟨rfl, hb⟩
  have := hR w' hb
  rw [← rep_zero] at this
  exact this

theorem bstrF_any (b : Nat) (T : List UInt8) (w : World) (h : IsB w b T) (R : Ending → World → Prop)
    (hR : ∀ w', Lib.IsBuilderF 94 5 b b (Lib.byteCells T) w' → Below b w w' → R (.returned (.string ⟨T.toArray⟩)) w') :
    Calls Tryz.prog 95 #[.pointer (some ⟨b, 0, none⟩)] w R := by
  refine (Tryz.Builder_String_any_f b b T w (Lib.IsBuilderF.of h) (Nat.le_of_lt h.lt)).mono ?_
  rintro e w' ⟨rfl, h1, h2⟩
  exact hR w' h1 h2

theorem blenF_any (b : Nat) (T : List UInt8) (w : World) (h : Lib.IsBuilderF 94 5 b b (Lib.byteCells T) w) (R : Ending → World → Prop)
    (hR : R (.returned (.int .i64 (T.length : Int))) w) :
    Calls Tryz.prog 124 #[.pointer (some ⟨b, 0, none⟩)] w R := by
  refine (Tryz.Builder_Len_f b b (Lib.byteCells T) w h).mono ?_
  rintro e w' ⟨rfl, rfl⟩
  rw [byteCells_length]
  exact hR

theorem chunk_step {n j L : Nat} {cs : List Nat} (hcs : cs = dig C19 n) (hL : cs.length = L + 1) (hj : j < L) :
    decs (val C19 (cs.drop j)) = decs (val C19 (cs.drop (j + 1))) ++ (List.replicate (19 - (decs (cs.getD j 0)).length) 48 ++ decs (cs.getD j 0)) := by
  rw [val_drop C19 cs j (by omega), Nat.add_comm, Nat.mul_comm]
  refine decs_chunk _ _ ?_ ?_
  · rw [hcs]; exact drop_val_ne n (j + 1) (by rw [← hcs]; omega)
  · rw [hcs]; exact dig_getD_lt C19_two n j

set_option maxRecDepth 100000 in
set_option maxHeartbeats 4000000 in
theorem digits_any (v : Value) (n : Nat) (w : World) (h : IsN w v n) (htab : Lib.TabIs Tryz.prog w "internal/strconv.uint64pow10" .u64 Lib.pow10Tab) (R : Ending → World → Prop)
    (hR : ∀ w', (decs n).length ≤ 60 → Below w.heap.size w w' → R (.returned (.tuple #[.string ⟨(decs n).toArray⟩, .bool true])) w')
    (hR2 : ∀ s w', ¬ (decs n).length ≤ 60 → Below w.heap.size w w' → R (.returned (.tuple #[.string s, .bool false])) w') :
    Calls Tryz.prog 91 #[v] w R := by
  have HR := Lib.hid hR; clear hR
  have HR2 := Lib.hid hR2; clear hR2
  have HTAB := Lib.hid htab; clear htab
  obtain ⟨ao, k, cap, rfl, hk, hs⟩ := h.open
  have HK := Lib.hid hk
  have HS := Lib.hid hs
  clear h hk hs
  by_cases h0 : n = 0
  · have HN0 := Lib.hid h0
    have hd : decide (n = 0) = true := decide_eq_true h0
    clear h0
    go_enter Tryz.func91, Tryz.ntmps91
    go_wp2_with fail
    refine nzero_any _ n _ HS.out _ ?_
    rw [hd]
    clear hd
    dsimp only
    go_wp2
    first | go_ret | skip
    have := HR.out w (by rw [HN0.out]; decide) (Below.refl _ _)
    rw [HN0.out] at this
    exact this
  · have hd : decide (n = 0) = false := decide_eq_false h0
    have HNZ := Lib.hid h0
    clear h0
    go_enter Tryz.func91, Tryz.ntmps91
    go_wp2_with fail
    refine nzero_any _ n _ HS.out _ ?_
    rw [hd]
    clear hd
    dsimp only
    by_cases h4 : k ≤ 4
    · have h4' : ¬ ((4 : Int) < (k : Int)) := by omega
      have H4 := Lib.hid h4
      clear h4
      go_wp2_with fail
      go_loopw [0, 4] (fun av cv wr => DigRel w n av cv wr) (fun _ cv _ => 5 - lenS cv)
      case atStart => exact ⟨n, [], HS.out, Own.nil _ _ _ _, rfl, by rw [← HK.out]; exact H4.out, Below.refl _ _⟩
      case round =>
        obtain ⟨m, cs, hv, hown, hcs, hl4, hbel⟩ := hrel
        obtain ⟨am, km, capm, rfl, hv'⟩ := IsN.op hv
        obtain ⟨ac, cc, hcv⟩ := hown.shapeS
        obtain ⟨lc, hlcE⟩ : ∃ lc, lc = cs.length := ⟨_, rfl⟩
        rw [← hlcE] at hcv
        subst hcv
        have HLE := Lib.hid hlcE
        clear hlcE
        have hln : (dig C19 n).length ≤ 5 := chunks_few (by have := H4.out; rw [HK.out, W64_eq] at this; exact this)
        have hlc : cs.length + (dig C19 m).length = (dig C19 n).length := by rw [← hcs, List.length_append]
        have HV := Lib.hid hv'
        have HOWN := Lib.hid hown
        have HCS := Lib.hid hcs
        have HL4 := Lib.hid hl4
        have HB := Lib.hid hbel
        have HLC := Lib.hid hlc
        have HLN := Lib.hid hln
        clear hv hv' hown hcs hl4 hbel hlc hln
        go_wp2_with fail
        refine nzero_any _ m _ HV.out _ ?_
        by_cases hm : m = 0
        · have hd : decide (m = 0) = true := decide_eq_true hm
          have HC : Hid (cs = dig C19 n) := Lib.hid (by have := HCS.out; rw [hm, dig_zero, List.append_nil] at this; exact this)
          rw [hd]
          clear hd hm
          dsimp only
          obtain ⟨wo, hwo⟩ : ∃ wo, wo = wr := ⟨_, rfl⟩
          subst hwo
          obtain ⟨L, rfl⟩ : ∃ L, lc = L + 1 := ⟨lc - 1, by
            have h1 : lc ≠ 0 := by
              rw [HLE.out, HC.out]; intro e; exact HNZ.out ((dig_eq_nil C19_two).1 (List.eq_nil_of_length_eq_zero e))
            omega⟩
          have hL5 : L ≤ 5 := by have := HLN.out; have := HLE.out; rw [HC.out] at this; omega
          obtain ⟨gb, go, rfl, hgl, hgc⟩ := HOWN.out.sl.at L (by omega)
          have HSL := Lib.hid HOWN.out.sl
          obtain ⟨u, hu⟩ : ∃ u, u = cs.getD L 0 := ⟨_, rfl⟩
          rw [← hu] at hgc
          have hu19 : u < C19 := by rw [hu, HC.out]; exact dig_getD_lt C19_two n L
          have HU64 : Hid (u < 18446744073709551616) := Lib.hid (Nat.lt_trans hu19 C19_lt)
          have HUV : Hid (decs (val C19 (cs.drop L)) = decs u) := Lib.hid (by
            rw [val_drop C19 cs L (by have := HLE.out; omega), ← hu, val_drop_all C19 cs (L + 1) (by have := HLE.out; omega), Nat.mul_zero, Nat.add_zero])
          have HU19 := Lib.hid (decs_len19 hu19)
          obtain ⟨W0, hW0⟩ : ∃ W0, W0 = wo.alloc (.cells #[.pointer none, .slice none 0 0] 94) := ⟨_, rfl⟩
          have HW0 := Lib.hid hW0
          have HWB : Hid (Below wo.heap.size wo W0) := Lib.hid (by rw [hW0]; exact (Below.refl _ _).alloc (Nat.le_refl _) _)
          have HIB : Hid (IsB W0 wo.heap.size []) := Lib.hid (by rw [hW0]; exact IsB.fresh wo)
          have HTAB0 : Hid (Lib.TabIs Tryz.prog W0 "internal/strconv.uint64pow10" .u64 Lib.pow10Tab) := Lib.hid (tab_later HTAB.out (HB.out.trans (HWB.out.mono HB.out.size)) (Nat.le_refl _))
          have hgc2 := hgc
          obtain ⟨gb', go', hg', _, hgc0⟩ := (HSL.out.later HWB.out (Nat.le_refl _)).at L (by omega)
          simp only [Option.some.injEq, Addr.mk.injEq, and_true] at hg'
          obtain ⟨rfl, rfl⟩ := hg'
          rw [← hu, hW0] at hgc0
          clear hu hu19 hW0 hgl hgc hgc2
          go_wp2_with fail
          rw [← HW0.out]
          refine fmtu_any u HU64.out _ HTAB0.out _ ?_
          intro w1 hb1
          obtain ⟨t, ht⟩ : ∃ t : ByteArray, t = ⟨(decs u).toArray⟩ := ⟨_, rfl⟩
          rw [← ht]
          have HT : Hid (t.data.toList = decs u) := Lib.hid (by rw [ht])
          have HTS : Hid (t.size ≤ 19) := Lib.hid (by rw [← size_list, HT.out]; exact HU19.out)
          have HIB1 := Lib.hid (HIB.out.later hb1)
          have HWB1 := Lib.hid (HWB.out.trans (hb1.mono HWB.out.size))
          clear ht hb1 hgc0
          dsimp only
          go_wp2_with fail
          refine bws_any wo.heap.size [] t w1 HIB1.out (by have := HTS.out; simp; omega) _ ?_
          intro w2 hib2 hb2
          have HREL : Hid (OutRel wo L cs (.int .i64 ((L : Int) - 1)) w2) := Lib.hid ⟨L, rfl, Nat.le_refl _, by rw [HUV.out, ← HT.out]; exact hib2, HWB1.out.trans hb2⟩
          clear hib2 hb2
          dsimp only
          go_wp2_with fail
          go_loopw [8] (fun iv wx => OutRel wo L cs iv wx) (fun iv _ => (intOf iv + 1).toNat)
          case atStart => exact HREL.out
          case round =>
            clear HREL
            obtain ⟨j, rfl, hjL, hib, hbx⟩ := hrel
            have HIBX := Lib.hid hib
            have HBX := Lib.hid hbx
            have HBWX := Lib.hid (HB.out.trans (hbx.mono HB.out.size))
            clear hib hbx
            by_cases hj0 : j = 0
            · subst hj0
              have HFIN : Hid (IsB _ wo.heap.size (decs n)) := Lib.hid (by have := HIBX.out; rw [List.drop_zero, HC.out, val_dig C19_two] at this; exact this)
              go_wp2_with fail
              refine bstrF_any _ _ _ HFIN.out _ ?_
              intro w3 hib3 hb3
              have HIB3 := Lib.hid hib3
              have HB3 := Lib.hid (HBWX.out.trans (hb3.mono HB.out.size))
              clear hib3 hb3
              obtain ⟨T, hT⟩ : ∃ T, T = decs n := ⟨_, rfl⟩
              rw [← hT] at HR HR2 HIB3 ⊢
              dsimp only
              go_wp2_with fail
              refine blenF_any _ _ _ HIB3.out _ ?_
              by_cases h60 : T.length ≤ 60
              · have h60' : ((T.length : Nat) : Int) ≤ 60 := by omega
                have HL := Lib.hid h60
                clear h60 hT
                dsimp only
                go_wp2
                first | go_ret | skip
                exact HR.out _ HL.out HB3.out
              · have h60' : ¬ ((T.length : Nat) : Int) ≤ 60 := by omega
                have HL := Lib.hid h60
                clear h60 hT
                dsimp only
                go_wp2
                first | go_ret | skip
                exact HR2.out _ _ HL.out HB3.out
            · obtain ⟨i, rfl⟩ : ∃ i, j = i + 1 := ⟨j - 1, by omega⟩
              rw [show ((i + 1 : Nat) : Int) - 1 = (i : Int) by omega]
              have hiL : i < L := by omega
              obtain ⟨gb', go', hg', _, hgc⟩ := (HSL.out.later HBX.out (Nat.le_refl _)).at i (by omega)
              simp only [Option.some.injEq, Addr.mk.injEq, and_true] at hg'
              obtain ⟨rfl, rfl⟩ := hg'
              obtain ⟨u, hu⟩ : ∃ u, u = cs.getD i 0 := ⟨_, rfl⟩
              rw [← hu] at hgc
              have hu19 : u < C19 := by rw [hu, HC.out]; exact dig_getD_lt C19_two n i
              have HU64 : Hid (u < 18446744073709551616) := Lib.hid (Nat.lt_trans hu19 C19_lt)
              have HU19 := Lib.hid (decs_len19 hu19)
              have HSTEP := Lib.hid (chunk_step HC.out HLE.out.symm hiL)
              have HU := Lib.hid hu
              have HTABX : Hid (Lib.TabIs Tryz.prog _ "internal/strconv.uint64pow10" .u64 Lib.pow10Tab) := Lib.hid (tab_later HTAB.out HBWX.out (Nat.le_refl _))
              clear hu hu19
              go_wp2_with fail
              refine fmtu_any u HU64.out _ HTABX.out _ ?_
              intro w3 hb3
              obtain ⟨t, ht⟩ : ∃ t : ByteArray, t = ⟨(decs u).toArray⟩ := ⟨_, rfl⟩
              rw [← ht]
              have HT : Hid (t.data.toList = decs u) := Lib.hid (by rw [ht])
              have hts : t.size ≤ 19 := by rw [← size_list, HT.out]; exact HU19.out
              obtain ⟨p, hp⟩ : ∃ p, p = 19 - t.size := ⟨_, rfl⟩
              have hpe : (19 : Int) - (t.size : Int) = (p : Int) := by omega
              have hpw : IntKind.i64.wrap ((19 : Int) - (t.size : Int)) = (p : Int) := by rw [hpe]; exact IntWalk.i64_in _ (by omega)
              have HP : Hid (p = 19 - (decs u).length ∧ p ≤ 19 ∧ t.size ≤ 19) := Lib.hid (by rw [← HT.out, size_list]; omega)
              have HIB3 := Lib.hid (HIBX.out.later hb3)
              have HB3 := Lib.hid (HBX.out.trans (hb3.mono HBX.out.size))
              clear ht hb3 hgc hp
              dsimp only
              go_wp2_with fail
              refine rep48_any p _ (by have := HP.out; omega) _ ?_
              intro w4 hb4
              obtain ⟨z, hz⟩ : ∃ z : ByteArray, z = ⟨(List.replicate p 48).toArray⟩ := ⟨_, rfl⟩
              rw [← hz]
              have HZ : Hid (z.data.toList = List.replicate p 48) := Lib.hid (by rw [hz])
              have HZS : Hid (z.size = p) := Lib.hid (by rw [← size_list, HZ.out, List.length_replicate])
              have HIB4 := Lib.hid (HIB3.out.later hb4)
              have HB4 := Lib.hid (HB3.out.trans (hb4.mono HB3.out.size))
              obtain ⟨T, hT⟩ : ∃ T, T = decs (val C19 (cs.drop (i + 1))) := ⟨_, rfl⟩
              rw [← hT] at HIB4 HSTEP
              have HTL : Hid (T.length ≤ 200) := Lib.hid (by
                rw [hT]
                refine decs_len_lt (by omega) ?_
                refine Nat.lt_of_lt_of_le (val_lt (B := C19) _ (fun d hd => dig_lt C19_two n d (by rw [HC.out] at hd; exact List.mem_of_mem_drop hd))) ?_
                rw [C19_pow, ← Nat.pow_mul]
                refine Nat.pow_le_pow_right (by omega) ?_
                rw [List.length_drop, ← HLE.out]
                omega)
              clear hz hb4 hpe hpw hT hts
              dsimp only
              go_wp2_with fail
              refine bws_any wo.heap.size T z w4 HIB4.out (by have := HTL.out; have := HZS.out; have := HP.out; omega) _ ?_
              intro w5 hib5 hb5
              have HIB5 := Lib.hid hib5
              have HB5 := Lib.hid (HB4.out.trans hb5)
              clear hib5 hb5
              dsimp only
              go_wp2_with fail
              refine bws_any wo.heap.size _ t w5 HIB5.out (by have := HTL.out; have h1 := HZS.out; have h2 := HP.out; rw [List.length_append, size_list]; omega) _ ?_
              intro w6 hib6 hb6
              have HREL : Hid (OutRel wo L cs (.int .i64 ((i : Int) - 1)) w6) := Lib.hid ⟨i, rfl, by omega, by
                rw [HSTEP.out, ← HU.out, ← HP.out.1, ← HT.out, ← HZ.out, ← List.append_assoc]; exact hib6, HB5.out.trans hb6⟩
              clear hib6 hb6
              dsimp only
              go_wp2
              go_roundw
              case rel => exact HREL.out
              case measure => (first | omega | (simp only [intOf]; omega))
        · have hd : decide (m = 0) = false := decide_eq_false hm
          have HM := Lib.hid hm
          rw [hd]
          clear hd hm
          dsimp only
          go_wp2_with fail
          refine divsC_any _ m _ HV.out HL4.out _ ?_
          intro v1 w1 hv1 hb1 hbl1
          obtain ⟨a1, n1, c1, rfl, hv1'⟩ := IsN.op hv1
          have HV1 := Lib.hid hv1'
          have HB1 := Lib.hid hb1
          have HBL := Lib.hid hbl1
          have HBB := Lib.hid (HB.out.trans (hb1.mono HB.out.size))
          have hown1 := HOWN.out.later hb1 (Nat.le_refl _)
          obtain ⟨r, hr⟩ : ∃ r, r = m % C19 := ⟨_, rfl⟩
          have HRR := Lib.hid hr
          rw [← hr]
          have hsz : w.heap.size ≤ w1.heap.size := HBB.out.size
          have hcl : cs.length ≤ 100000000 := by have := HLC.out; have := HLN.out; omega
          clear hv1 hv1' hb1 hr hbl1
          dsimp only
          go_wp2_with (at_builtin; go_must (refine wpList_pushg rfl (.tmp 23) (.tmp 25) 47 rfl 110 .u64 8 Tryz.underlying47 info_u64 (by omega) w.heap.size _ cs r rfl (hown1.alloc _) w1.heap.size rfl (World.cell?_alloc_at _ _ _ _ rfl) hcl (by simp; omega) ?_))
          intro v' w2 hown2 hbw hgr
          obtain ⟨a2, c2, hv2⟩ := hown2.shapeS
          have hb12 : Below w.heap.size w1 w2 := ((Below.refl w.heap.size w1).alloc hsz _).trans hbw
          have hv12 : IsN w2 (.slice a1 n1 c1) (m / C19) := Sl.grown (Sl.alloc HV1.out _) hgr (fun g hg e => by
            have h1 := (HOWN.out.ownBlock g hg).2
            have h2 := HBL.out g e
            omega)
          have HREL : Hid (DigRel w n (.slice a1 n1 c1) v' w2) := Lib.hid ⟨m / C19, cs ++ [r], hv12, hown2, by rw [HRR.out]; exact digs_step HCS.out HM.out, limbs_div HL4.out, HBB.out.trans hb12⟩
          have HM2 : Hid (lenS v' = lc + 1 ∧ lc < 5) := Lib.hid (by
            rw [HLE.out]
            refine ⟨by rw [hv2]; simp [lenS], ?_⟩
            have h1 := HLC.out
            rw [dig_pos C19_two HM.out] at h1
            have := HLN.out
            simp only [List.length_cons] at h1
            omega)
          clear hv12 hgr
          clear hown1 hown2 hbw hb12 hv2 hsz hcl
          go_wp2
          go_roundw
          case rel => exact HREL.out
          case measure => rw [HM2.out.1]; simp only [lenS]; have := HM2.out.2; omega
    · have h4' : ((4 : Int) < (k : Int)) := by omega
      have H4 := Lib.hid (show ¬ (decs n).length ≤ 60 from fun h => h4 (by rw [HK.out, W64_eq]; exact limbs_few h))
      clear h4
      go_wp2_with fail
      first | go_ret | skip
      exact HR2.out _ w H4.out (Below.refl _ _)
end Go.Proofs.YtbglfendcpbjpaaGreatDoor

namespace Go.Proofs.YtbglfendcpbjpaaGreatDoor
open Go Go.RowKit

/-- what is asked of the reading of an element -/
structure Elem {α : Type} (sz : Nat) (E : World → List Value → α → Prop) : Prop where
  len : ∀ {w cs x}, E w cs x → cs.length = sz
  ints : ∀ {w cs x}, E w cs x → ∀ u ∈ cs, notInt u = true
  one : ∀ {w cs x}, E w cs x → ∀ u ∈ cs, u.oneCell' = true
  keep : ∀ {w w' g cs x}, E w cs x → But g w w' → NoInt w g → E w' cs x

theorem NoInt.new (w : World) (b : Nat) (h : w.heap.size ≤ b) : NoInt w b := by
  intro o u hu
  simp [World.cell?, Array.getElem?_eq_none h] at hu

theorem NoInt.of {w : World} {g : Nat} {cur : Array Value} {e : TypeId} (h : w.heap[g]? = some (.cells cur e (0, 0))) (hc : ∀ u ∈ cur.toList, notInt u = true) : NoInt w g := by
  intro o u hu
  simp only [World.cell?, h, Option.isSome_none, Bool.false_eq_true, if_false] at hu
  exact hc u (by rw [← Array.getElem?_toList] at hu; exact List.mem_of_getElem? hu)

theorem Elem.below {α : Type} {sz : Nat} {E : World → List Value → α → Prop} (hE : Elem sz E) {w w' : World} {cs : List Value} {x : α} {B : Nat} (h : E w cs x) (hb : Below B w w') (hB : w.heap.size ≤ B) : E w' cs x :=
  hE.keep (g := w.heap.size) h (But.ofBelow (hb.mono hB)) (NoInt.new _ _ (Nat.le_refl _))

/-- a slice value reads as a list -/
def SlE {α : Type} (sz : Nat) (E : World → List Value → α → Prop) (w : World) (v : Value) (xs : List α) : Prop :=
  ∃ ao cap, v = .slice ao xs.length cap ∧ xs.length ≤ cap ∧ ∀ i x, xs[i]? = some x → ∃ b off cs, ao = some ⟨b, off, none⟩ ∧ b < w.heap.size ∧ (∀ j u, cs[j]? = some u → w.cell? ⟨b, off + (i * sz + j), none⟩ = some u) ∧ E w cs x

theorem SlE.later {α : Type} {sz : Nat} {E : World → List Value → α → Prop} (hE : Elem sz E) {w w' : World} {v : Value} {xs : List α} {B : Nat} (h : SlE sz E w v xs) (hb : Below B w w') (hB : w.heap.size ≤ B) : SlE sz E w' v xs := by
  obtain ⟨ao, cap, hv, hc, hx⟩ := h
  refine ⟨ao, cap, hv, hc, fun i x hi => ?_⟩
  obtain ⟨b, off, cs, h1, h2, h3, h4⟩ := hx i x hi
  exact ⟨b, off, cs, h1, Nat.lt_of_lt_of_le h2 hb.size, fun j u hj => by rw [hb.cell (by exact Nat.lt_of_lt_of_le h2 hB)]; exact h3 j u hj, hE.below h4 hb hB⟩

theorem SlE.open {α : Type} {sz : Nat} {E : World → List Value → α → Prop} {w : World} {v : Value} {xs : List α} (h : SlE sz E w v xs) : ∃ ao n cap, v = .slice ao n cap ∧ n = xs.length ∧ n ≤ cap ∧ SlE sz E w (.slice ao n cap) xs := by
  obtain ⟨ao, cap, rfl, hc, hx⟩ := h
  exact ⟨ao, _, cap, rfl, rfl, hc, ao, cap, rfl, hc, hx⟩

theorem SlE.at {α : Type} {sz : Nat} {E : World → List Value → α → Prop} {w : World} {ao : Option Addr} {n cap : Nat} {xs : List α} (h : SlE sz E w (.slice ao n cap) xs) (i : Nat) (x : α) (hi : xs[i]? = some x) :
    ∃ b off cs, ao = some ⟨b, off, none⟩ ∧ b < w.heap.size ∧ (∀ j u, cs[j]? = some u → w.cell? ⟨b, off + (i * sz + j), none⟩ = some u) ∧ E w cs x := by
  obtain ⟨_, _, hv, _, hx⟩ := h
  simp only [Value.slice.injEq] at hv
  obtain ⟨rfl, _, _⟩ := hv
  exact hx i x hi

theorem SlE.nil {α : Type} {sz : Nat} {E : World → List Value → α → Prop} (w : World) (ao : Option Addr) (cap : Nat) : SlE sz E w (.slice ao 0 cap) ([] : List α) :=
  ⟨ao, cap, rfl, Nat.zero_le _, fun i x h => by simp at h⟩

/-- a slice that the call has made itself, from block B on; no cell of its block holds a number -/
def OwE {α : Type} (sz : Nat) (E : World → List Value → α → Prop) (e : TypeId) (w : World) (B : Nat) (v : Value) (xs : List α) : Prop :=
  (v = .slice none 0 0 ∧ xs = []) ∨ ∃ g cap cur, v = .slice (some ⟨g, 0, none⟩) xs.length cap ∧ B ≤ g ∧ w.heap[g]? = some (.cells cur e (0, 0)) ∧ xs.length ≤ cap ∧ cap ≤ maxLen ∧ cur.size = cap * sz ∧
    (∀ u ∈ cur.toList, notInt u = true) ∧ ∀ i x, xs[i]? = some x → E w ((cur.toList.drop (i * sz)).take sz) x

theorem OwE.nil {α : Type} {sz : Nat} {E : World → List Value → α → Prop} (e : TypeId) (w : World) (B : Nat) : OwE sz E e w B (.slice none 0 0) ([] : List α) := .inl ⟨rfl, rfl⟩

theorem OwE.lit {α : Type} {sz : Nat} {E : World → List Value → α → Prop} (e : TypeId) (w : World) (B : Nat) (hB : B ≤ w.heap.size) : OwE sz E e (w.alloc (.cells #[] e)) B (.slice (some ⟨w.heap.size, 0, none⟩) 0 0) ([] : List α) := by
  refine .inr ⟨w.heap.size, 0, #[], rfl, hB, ?_, Nat.le_refl _, by simp only [maxLen]; omega, by simp, by simp, fun i x h => by simp at h⟩
  show (w.heap.push _)[_]? = _
  simp

theorem OwE.shape {α : Type} {sz : Nat} {E : World → List Value → α → Prop} {e : TypeId} {w : World} {B : Nat} {v : Value} {xs : List α} (h : OwE sz E e w B v xs) : ∃ ao n c, v = .slice ao n c ∧ n = xs.length := by
  rcases h with ⟨rfl, rfl⟩ | ⟨g, cap, cur, rfl, _⟩
  · exact ⟨none, 0, 0, rfl, rfl⟩
  · exact ⟨_, _, _, rfl, rfl⟩

theorem OwE.later {α : Type} {sz : Nat} {E : World → List Value → α → Prop} (hE : Elem sz E) {e : TypeId} {w w' : World} {B B' : Nat} {v : Value} {xs : List α} (h : OwE sz E e w B v xs) (hb : Below B' w w') (hB : w.heap.size ≤ B') : OwE sz E e w' B v xs := by
  rcases h with h | ⟨g, cap, cur, h1, h2, h3, h4, h5, h6, h7, h8⟩
  · exact .inl h
  · exact .inr ⟨g, cap, cur, h1, h2, by rw [hb.block g (Nat.lt_of_lt_of_le (lt_of_block h3) hB)]; exact h3, h4, h5, h6, h7, fun i x hi => hE.below (h8 i x hi) hb hB⟩

theorem OwE.drew {α : Type} {sz : Nat} {E : World → List Value → α → Prop} (hE : Elem sz E) {e : TypeId} {w : World} {B : Nat} {v : Value} {xs : List α} (h : OwE sz E e w B v xs) : OwE sz E e w.drew B v xs :=
  h.later hE (Below.refl w.heap.size w).drew (Nat.le_refl _)

theorem OwE.noInt {α : Type} {sz : Nat} {E : World → List Value → α → Prop} {e : TypeId} {w : World} {B : Nat} {v : Value} {xs : List α} (h : OwE sz E e w B v xs) : ∀ g, v.ownBlock = some g → NoInt w g := by
  rcases h with ⟨rfl, _⟩ | ⟨g, cap, cur, rfl, h2, h3, h4, h5, h6, h7, h8⟩
  · intro g hg; cases hg
  · intro g' hg
    obtain rfl : g = g' := by simpa [Value.ownBlock] using hg
    exact NoInt.of h3 h7

theorem seg_le {i n sz : Nat} (h : i < n) : i * sz + sz ≤ n * sz := by
  have := Nat.mul_le_mul_right sz (show i + 1 ≤ n from h)
  rw [Nat.add_mul, Nat.one_mul] at this
  exact this

theorem OwE.sl {α : Type} {sz : Nat} {E : World → List Value → α → Prop} {e : TypeId} {w : World} {B : Nat} {v : Value} {xs : List α} (h : OwE sz E e w B v xs) : SlE sz E w v xs := by
  rcases h with ⟨rfl, rfl⟩ | ⟨g, cap, cur, rfl, h2, h3, h4, h5, h6, h7, h8⟩
  · exact SlE.nil _ _ _
  · refine ⟨_, cap, rfl, h4, fun i x hi => ⟨g, 0, _, rfl, lt_of_block h3, fun j u hj => ?_, h8 i x hi⟩⟩
    simp only [World.cell?, h3, Option.isSome_none, Bool.false_eq_true, if_false, Nat.zero_add]
    rw [← Array.getElem?_toList]
    rw [List.getElem?_take] at hj
    split at hj
    · rw [List.getElem?_drop] at hj; exact hj
    · cases hj

theorem seg_lt {A B : List Value} {n sz i : Nat} (hA : A.length = n * sz) (hi : i < n) : ((A ++ B).drop (i * sz)).take sz = (A.drop (i * sz)).take sz := by
  have h := seg_le (sz := sz) hi
  rw [List.drop_append_of_le_length (by omega), List.take_append_of_le_length (by rw [List.length_drop]; omega)]

theorem seg_take {C : List Value} {n sz i : Nat} (hi : i < n) : ((C.take (n * sz)).drop (i * sz)).take sz = (C.drop (i * sz)).take sz := by
  have h := seg_le (sz := sz) hi
  rw [List.drop_take, List.take_take]
  congr 1
  omega

theorem seg_at {A news Z : List Value} {n sz : Nat} (hA : A.length = n * sz) (hn : news.length = sz) : ((A ++ (news ++ Z)).drop (n * sz)).take sz = news := by
  rw [← hA, List.drop_left, ← hn, List.take_left]

theorem zeroCells_ints (z : Array Value) (n : Nat) (h : ∀ u ∈ z.toList, notInt u = true) : ∀ u ∈ (Builtin.zeroCells z n).toList, notInt u = true := by
  intro u hu
  simp only [Builtin.zeroCells, Array.toList_map, List.mem_map] at hu
  obtain ⟨i, hi, rfl⟩ := hu
  have hi' : i < n * z.size := by simpa using hi
  have hz : 0 < z.size := by
    rcases Nat.eq_zero_or_pos z.size with h0 | h0
    · rw [h0] at hi'; simp at hi'
    · exact h0
  have hm : i % z.size < z.size := Nat.mod_lt _ hz
  rw [getElem!_pos z _ hm]
  exact h _ (Array.mem_toList_iff.2 (Array.getElem_mem hm))

theorem get_snoc {α : Type} {xs : List α} {x y : α} {i : Nat} (h : (xs ++ [x])[i]? = some y) : (i < xs.length ∧ xs[i]? = some y) ∨ (i = xs.length ∧ x = y) := by
  rcases Nat.lt_trichotomy i xs.length with h1 | h1 | h1
  · rw [List.getElem?_append_left h1] at h; exact .inl ⟨h1, h⟩
  · subst h1; rw [List.getElem?_append_right (Nat.le_refl _)] at h; simp at h; exact .inr ⟨rfl, h⟩
  · rw [List.getElem?_eq_none (by simp; omega)] at h; cases h

/-- one element is appended to a slice that the call has made -/
theorem run_pushE {α : Type} {P : Program} {w : World} {sz : Nat} {E : World → List Value → α → Prop} (hE : Elem sz E) (hsz : 0 < sz) (t ty e : TypeId) (bytes : Nat) (z : Value) (ht : P.underlying t = some (.slice e))
    (hi : (P.info? e).map (fun i => (i.zero, i.size, i.bytes)) = some (some z, sz, bytes)) (hzs : z.cells.size = sz) (hzi : ∀ u ∈ z.cells.toList, notInt u = true) (hby : bytes ≤ 100)
    (B : Nat) (v : Value) (xs : List α) (h : OwE sz E e w B v xs) (hlen : xs.length ≤ 100000000) (hB : B ≤ w.heap.size) (g : Nat) (cs : List Value) (x : α) (hcs : E w cs x) (hc : ∀ j u, cs[j]? = some u → w.cell? ⟨g, j, none⟩ = some u) :
    ∃ v' w', (Builtin.append_ #[t, t] ty #[v, .slice (some ⟨g, 0, none⟩) 1 1]).run P w = .ok v' w' ∧ OwE sz E e w' B v' (xs ++ [x]) ∧ w.grownBy w' v.ownBlock ∧ Below B w w' := by
  obtain ⟨i0, hi0, hz0, hz1, hz2⟩ := info_parts hi
  subst hz1
  have hl : cs.length = 1 * i0.size := by rw [hE.len hcs, Nat.one_mul]
  have hnews : ∀ j u, cs[j]? = some u → w.cell? ((⟨g, 0, none⟩ : Addr).add j) = some u := fun j u hj => by
    rw [Addr.add_lit, Nat.zero_add]; exact hc j u hj
  have hbyt : ∀ k : Nat, k ≤ 100000001 → k * i0.bytes ≤ 140737488355328 := fun k hk => by
    have : k * i0.bytes ≤ 100000001 * 100 := Nat.mul_le_mul hk (by omega)
    omega
  have fresh : ∀ (o : Obj), Below w.heap.size w (w.drew.alloc o) := fun o => (Below.refl _ _).drew.alloc (Nat.le_refl _) o
  have hzl : ∀ k : Nat, (Builtin.zeroCells z.cells k).toList.length = k * i0.size := fun k => by rw [Array.length_toList, size_zeroCells, hzs]
  have grownAll : ∀ (A Z : List Value) (cap : Nat), A.length = xs.length * i0.size → xs.length + 1 ≤ cap → cap ≤ maxLen → (A ++ (cs ++ Z)).length = cap * i0.size → (∀ u ∈ A, notInt u = true) → (∀ u ∈ Z, notInt u = true) →
      (∀ i y, xs[i]? = some y → E w ((A.drop (i * i0.size)).take i0.size) y) →
      OwE i0.size E e (w.drew.alloc (.cells (A ++ (cs ++ Z)).toArray e)) B (.slice (some ⟨w.heap.size, 0, none⟩) (xs.length + 1) cap) (xs ++ [x]) := by
    intro A Z cap hA hcap hmax hsize hAi hZi hel
    refine .inr ⟨w.heap.size, cap, (A ++ (cs ++ Z)).toArray, by rw [List.length_append]; rfl, hB, ?_, by rw [List.length_append]; exact hcap, hmax, hsize, ?_, ?_⟩
    · show (w.heap.push _)[_]? = _
      simp
    · intro u hu
      simp only [List.mem_append] at hu
      rcases hu with hu | hu | hu
      · exact hAi u hu
      · exact hE.ints hcs u hu
      · exact hZi u hu
    · intro i y hy
      rcases get_snoc hy with ⟨h1, h2⟩ | ⟨rfl, rfl⟩
      · show E _ (((A ++ (cs ++ Z)).drop (i * i0.size)).take i0.size) y
        rw [seg_lt hA h1]
        exact hE.below (hel i y h2) (fresh _) (Nat.le_refl _)
      · show E _ (((A ++ (cs ++ Z)).drop (xs.length * i0.size)).take i0.size) x
        rw [seg_at hA (hE.len hcs)]
        exact hE.below hcs (fresh _) (Nat.le_refl _)
  rcases h with ⟨rfl, rfl⟩ | ⟨g0, cap, cur, rfl, h2, h3, h4, h5, h6, h7, h8⟩
  · have hr := run_append_nil (P := P) w t ty e i0 z ht hi0 hz0 ⟨g, 0, none⟩ 1 1 cs hl hnews (by omega) (by omega) (by have := hbyt 1 (by omega); omega)
    have hge := grownCap_ge w 1 0 e
    have e1 : cs.toArray ++ Builtin.zeroCells z.cells (grownCap w 1 0 e - 1) = ([] ++ (cs ++ (Builtin.zeroCells z.cells (grownCap w 1 0 e - 1)).toList)).toArray := Array.toList_inj.1 (by simp)
    rw [e1] at hr
    refine ⟨_, _, hr, ?_, ⟨rfl, rfl, rfl, by simp, fun k hk _ => (fresh _).block k hk⟩, (fresh _).mono hB⟩
    refine grownAll [] _ _ (by simp) hge (grownCap_le_maxLen w 1 0 e (by simp only [maxLen]; omega)) ?_ (by simp) (zeroCells_ints _ _ hzi) (fun i y hy => by simp at hy)
    rw [List.nil_append, List.length_append, hzl, hl, ← Nat.add_mul]
    congr 1; omega
  · have hnc : cur.toList.length = cap * i0.size := by rw [Array.length_toList]; exact h6
    have hle : xs.length * i0.size ≤ cap * i0.size := Nat.mul_le_mul_right _ h4
    have hA : (cur.toList.take (xs.length * i0.size)).length = xs.length * i0.size := by rw [List.length_take]; omega
    by_cases hroom : xs.length + 1 ≤ cap
    · have hfit : xs.length * i0.size + cs.length ≤ cur.size := by
        rw [hl, h6, ← Nat.add_mul]; exact Nat.mul_le_mul_right _ hroom
      have hr := run_append_room (P := P) w t ty e i0 ht hi0 g0 xs.length cap cur h3 ⟨g, 0, none⟩ 1 1 cs hl hnews (hE.one hcs) hroom hfit
      have hbut : But g0 w (w.setRow g0 (cur.toList.take (xs.length * i0.size) ++ cs ++ cur.toList.drop (xs.length * i0.size + cs.length)).toArray) :=
        ⟨rfl, rfl, rfl, by simp, fun k _ hk => setRow_other w g0 k _ hk⟩
      have hni := NoInt.of h3 h7
      refine ⟨_, _, hr, ?_, ⟨rfl, rfl, rfl, by simp, fun k _ hk => setRow_other w g0 k _ (fun e9 => hk (by simp [Value.ownBlock, e9]))⟩, hbut.below h2 hB⟩
      refine .inr ⟨g0, cap, _, by rw [List.length_append]; rfl, h2, setRow_heap w g0 cur _ e _ h3, by rw [List.length_append]; exact hroom, h5, ?_, ?_, ?_⟩
      · simp only [List.size_toArray, List.length_append, List.length_take, List.length_drop, Array.length_toList]
        omega
      · intro u hu
        simp only [List.mem_append] at hu
        rcases hu with (hu | hu) | hu
        · exact h7 u (List.mem_of_mem_take hu)
        · exact hE.ints hcs u hu
        · exact h7 u (List.mem_of_mem_drop hu)
      · intro i y hy
        rcases get_snoc hy with ⟨q1, q2⟩ | ⟨rfl, rfl⟩
        · show E _ (((cur.toList.take (xs.length * i0.size) ++ cs ++ cur.toList.drop (xs.length * i0.size + cs.length)).drop (i * i0.size)).take i0.size) y
          have e9 : ((cur.toList.take (xs.length * i0.size) ++ cs ++ cur.toList.drop (xs.length * i0.size + cs.length)).drop (i * i0.size)).take i0.size = (cur.toList.drop (i * i0.size)).take i0.size := by
            rw [List.append_assoc, seg_lt hA q1, seg_take q1]
          rw [e9]
          exact hE.keep (h8 i y q2) hbut hni
        · show E _ (((cur.toList.take (xs.length * i0.size) ++ cs ++ cur.toList.drop (xs.length * i0.size + cs.length)).drop (xs.length * i0.size)).take i0.size) x
          have e9 : ((cur.toList.take (xs.length * i0.size) ++ cs ++ cur.toList.drop (xs.length * i0.size + cs.length)).drop (xs.length * i0.size)).take i0.size = cs := by
            rw [List.append_assoc, seg_at hA (hE.len hcs)]
          rw [e9]
          exact hE.keep hcs hbut hni
    · have holds : ∀ j u, (cur.toList.take (xs.length * i0.size))[j]? = some u → w.cell? ((⟨g0, 0, none⟩ : Addr).add j) = some u := by
        intro j u hj
        rw [Addr.add_lit, Nat.zero_add]
        simp only [World.cell?, h3, Option.isSome_none, Bool.false_eq_true, if_false]
        rw [← Array.getElem?_toList]
        rw [List.getElem?_take] at hj
        split at hj
        · exact hj
        · cases hj
      have hr := run_append_grow (P := P) w t ty e i0 z ht hi0 hz0 ⟨g0, 0, none⟩ xs.length cap (cur.toList.take (xs.length * i0.size)) hA holds ⟨g, 0, none⟩ 1 1 cs hl hnews (by omega) (by omega) (growslice_fits (by omega) (hbyt _ (by omega)))
      have hge := grownCap_ge w (xs.length + 1) cap e
      have e1 : (cur.toList.take (xs.length * i0.size)).toArray ++ cs.toArray ++ Builtin.zeroCells z.cells (grownCap w (xs.length + 1) cap e - (xs.length + 1)) =
          (cur.toList.take (xs.length * i0.size) ++ (cs ++ (Builtin.zeroCells z.cells (grownCap w (xs.length + 1) cap e - (xs.length + 1))).toList)).toArray := Array.toList_inj.1 (by simp)
      rw [e1] at hr
      refine ⟨_, _, hr, ?_, ⟨rfl, rfl, rfl, by simp, fun k hk _ => (fresh _).block k hk⟩, (fresh _).mono hB⟩
      refine grownAll _ _ _ hA hge (grownCap_le_maxLen w (xs.length + 1) cap e (by simp only [maxLen]; omega)) ?_ (fun u hu => h7 u (List.mem_of_mem_take hu)) (zeroCells_ints _ _ hzi) (fun i y hy => ?_)
      · rw [List.length_append, List.length_append, hA, hzl, hl, ← Nat.add_assoc, ← Nat.add_mul, ← Nat.add_mul]
        congr 1; omega
      · have hi9 : i < xs.length := (List.getElem?_eq_some_iff.1 hy).1
        rw [seg_take hi9]
        exact h8 i y hy

/-- the same as an operation of a walk -/
theorem wpList_pushE {α : Type} {P : Program} {w : World} {ops : Array Oper} {rest : List Oper} {o : Oper} {a : Act} {Q : Exit → Act → World → Prop} {sz : Nat} {E : World → List Value → α → Prop} (hE : Elem sz E) (hsz : 0 < sz) (hgd : o.guard = none) (s x : Operand) (t : TypeId)
    (ho : o.op = .call { callee := .builtin .append, args := #[s, x], argTypes := #[t, t] })
    (e : TypeId) (bytes : Nat) (z : Value) (ht : P.underlying t = some (.slice e))
    (hi : (P.info? e).map (fun i => (i.zero, i.size, i.bytes)) = some (some z, sz, bytes)) (hzs : z.cells.size = sz) (hzi : ∀ u ∈ z.cells.toList, notInt u = true) (hby : bytes ≤ 100)
    (B : Nat) (xs : List α) (h : OwE sz E e w B (a.eval s) xs) (hlen : xs.length ≤ 100000000) (hB : B ≤ w.heap.size) (g : Nat) (cs : List Value) (y : α) (hx : a.eval x = .slice (some ⟨g, 0, none⟩) 1 1) (hcs : E w cs y) (hc : ∀ j u, cs[j]? = some u → w.cell? ⟨g, j, none⟩ = some u)
    (hK : ∀ ao n c w', OwE sz E e w' B (.slice ao n c) (xs ++ [y]) → n = xs.length + 1 → w.grownBy w' (a.eval s).ownBlock → Below B w w' → wpList P ops Q rest (a.put o.dst (.slice ao n c)) w') : wpList P ops Q (o :: rest) a w := by
  obtain ⟨v', w', hr, h2, h3, h4⟩ := run_pushE (P := P) hE hsz t o.type e bytes z ht hi hzs hzi hby B _ xs h hlen hB g cs y hcs hc
  refine wpList_plain hgd fun K hK' => ?_
  unfold Oper.wp execOp
  obtain ⟨ao, n, c, rfl, hn⟩ := h2.shape
  simp only [ho, resolve, invoke, builtin, Sem.run_bind, Sem.run_pure, Result.andThen_ok, List.map_toArray, List.map_cons, List.map_nil, hx, hr]
  exact hK' _ _ (hK ao n c w' h2 (by simpa using hn) h3 h4)

/-- the same as a step of a region that draws its order -/
theorem step_pushE {α : Type} {P : Program} {w : World} {ops : Array Oper} {o : Oper} {a : Act} {K : Act → World → Prop} {Q : Exit → Act → World → Prop} {E0 : Prop} {sz : Nat} {E : World → List Value → α → Prop} (hE : Elem sz E) (hsz : 0 < sz) (hgd : o.guard = none) (s x : Operand) (t : TypeId)
    (ho : o.op = .call { callee := .builtin .append, args := #[s, x], argTypes := #[t, t] })
    (e : TypeId) (bytes : Nat) (z : Value) (ht : P.underlying t = some (.slice e))
    (hi : (P.info? e).map (fun i => (i.zero, i.size, i.bytes)) = some (some z, sz, bytes)) (hzs : z.cells.size = sz) (hzi : ∀ u ∈ z.cells.toList, notInt u = true) (hby : bytes ≤ 100)
    (B : Nat) (xs : List α) (h : OwE sz E e w B (a.eval s) xs) (hlen : xs.length ≤ 100000000) (hB : B ≤ w.heap.size) (g : Nat) (cs : List Value) (y : α) (hx : a.eval x = .slice (some ⟨g, 0, none⟩) 1 1) (hcs : E w cs y) (hc : ∀ j u, cs[j]? = some u → w.cell? ⟨g, j, none⟩ = some u)
    (hK : ∀ ao n c w', OwE sz E e w' B (.slice ao n c) (xs ++ [y]) → n = xs.length + 1 → w.grownBy w' (a.eval s).ownBlock → Below B w w' → K (a.put o.dst (.slice ao n c)) w') :
    if Region.wanted o (yielded ops a.tmps) = true then Oper.wp P o a w K Q else E0 := by
  have hw : Region.wanted o (yielded ops a.tmps) = true := by simp [Region.wanted, hgd]
  rw [if_pos hw]
  obtain ⟨v', w', hr, h2, h3, h4⟩ := run_pushE (P := P) hE hsz t o.type e bytes z ht hi hzs hzi hby B _ xs h hlen hB g cs y hcs hc
  unfold Oper.wp execOp
  obtain ⟨ao, n, c, rfl, hn⟩ := h2.shape
  simp only [ho, resolve, invoke, builtin, Sem.run_bind, Sem.run_pure, Result.andThen_ok, List.map_toArray, List.map_cons, List.map_nil, hx, hr]
  exact hK ao n c w' h2 (by simpa using hn) h3 h4

/-- a text as an element -/
def ET (_ : World) (cs : List Value) (s : ByteArray) : Prop := cs = [.string s]
theorem elemT : Elem 1 ET where
  len := by intro w cs x h; rw [h]; rfl
  ints := by intro w cs x h u hu; rw [h] at hu; simp at hu; subst hu; rfl
  one := by intro w cs x h u hu; rw [h] at hu; simp at hu; subst hu; rfl
  keep := by intro w w' g cs x h _ _; exact h

/-- a slice value reads as a list of texts -/
def TxL (w : World) (v : Value) (L : List ByteArray) : Prop := SlE 1 ET w v L

theorem TxL.later {w w' : World} {v : Value} {L : List ByteArray} {B : Nat} (h : TxL w v L) (hb : Below B w w') (hB : w.heap.size ≤ B) : TxL w' v L := SlE.later elemT h hb hB
theorem TxL.at {w : World} {ao : Option Addr} {n cap : Nat} {L : List ByteArray} (h : TxL w (.slice ao n cap) L) (i : Nat) (s : ByteArray) (hi : L[i]? = some s) :
    ∃ b off, ao = some ⟨b, off, none⟩ ∧ b < w.heap.size ∧ w.cell? ⟨b, off + i, none⟩ = some (.string s) := by
  obtain ⟨b, off, cs, h1, h2, h3, rfl⟩ := SlE.at h i s hi
  refine ⟨b, off, h1, h2, ?_⟩
  have := h3 0 _ rfl
  rwa [Nat.mul_one, Nat.add_zero] at this
theorem TxL.open {w : World} {v : Value} {L : List ByteArray} (h : TxL w v L) : ∃ ao n cap, v = .slice ao n cap ∧ n = L.length ∧ n ≤ cap ∧ TxL w (.slice ao n cap) L := SlE.open h

theorem SlE.op {α : Type} {sz : Nat} {E : World → List Value → α → Prop} {w : World} {v : Value} {xs : List α} (h : SlE sz E w v xs) : ∃ ao n cap, v = .slice ao n cap ∧ SlE sz E w (.slice ao n cap) xs := by
  obtain ⟨ao, n, cap, h1, _, _, h2⟩ := h.open
  exact ⟨ao, n, cap, h1, h2⟩
theorem TxL.op {w : World} {v : Value} {L : List ByteArray} (h : TxL w v L) : ∃ ao n cap, v = .slice ao n cap ∧ TxL w (.slice ao n cap) L := SlE.op h

/-- a slice without room or not is one of cells that lie there -/
theorem TxL.mk {w : World} {b off n cap : Nat} {L : List ByteArray} (hn : n = L.length) (hc : n ≤ cap) (hb : b < w.heap.size) (hx : ∀ i s, L[i]? = some s → w.cell? ⟨b, off + i, none⟩ = some (.string s)) : TxL w (.slice (some ⟨b, off, none⟩) n cap) L := by
  subst hn
  refine ⟨_, cap, rfl, hc, fun i s hi => ⟨b, off, [.string s], rfl, hb, fun j u hj => ?_, rfl⟩⟩
  match j, hj with
  | 0, hj => simp at hj; subst hj; rw [Nat.mul_one, Nat.add_zero]; exact hx i s hi
  | (k + 1), hj => simp at hj

/-- a block of texts that is known whole -/
def TArr (e : TypeId) (w : World) (g : Nat) (L : List ByteArray) : Prop := w.heap[g]? = some (.cells (L.map Value.string).toArray e (0, 0))
theorem TArr.lt {e : TypeId} {w : World} {g : Nat} {L : List ByteArray} (h : TArr e w g L) : g < w.heap.size := lt_of_block h
theorem TArr.cell {e : TypeId} {w : World} {g : Nat} {L : List ByteArray} (h : TArr e w g L) (i : Nat) (s : ByteArray) (hi : L[i]? = some s) : w.cell? ⟨g, i, none⟩ = some (.string s) := by
  unfold TArr at h
  simp [World.cell?, h, hi]
theorem TArr.frozen {e : TypeId} {w : World} {g : Nat} {L : List ByteArray} (h : TArr e w g L) (i : Nat) : w.frozen? ⟨g, i, none⟩ = false := by
  unfold TArr at h
  simp [World.frozen?, h]
theorem TArr.set {e : TypeId} {w : World} {g : Nat} {L : List ByteArray} (h : TArr e w g L) (i : Nat) (s : ByteArray) : TArr e (w.setCell ⟨g, i, none⟩ (.string s)) g (L.set i s) := by
  unfold TArr at *
  simp only [World.setCell, Array.getElem?_modify, h, if_true, Option.map_some]
  congr 2
  simp [List.map_set]
theorem TArr.drewN {e : TypeId} {w : World} {g : Nat} {L : List ByteArray} (h : TArr e w g L) (n : Nat) : TArr e (w.drewN n) g L := h
theorem TArr.sl {e : TypeId} {w : World} {g : Nat} {L : List ByteArray} (h : TArr e w g L) (n cap : Nat) (hn : n = L.length) (hc : n ≤ cap) : TxL w (.slice (some ⟨g, 0, none⟩) n cap) L :=
  TxL.mk hn hc h.lt fun i s hi => by rw [Nat.zero_add]; exact h.cell i s hi

/-- make of texts with a length that is a number of the walk's -/
theorem wpList_maket {P : Program} (w : World) {ops : Array Oper} {rest : List Oper} {o : Oper} {a : Act} {Q : Exit → Act → World → Prop}
    (hg : o.guard = none) (l : Operand) (t : TypeId) (hop : o.op = Op.makeSlice t l l)
    (e : TypeId) (bytes : Nat) (h1 : P.underlying t = some (.slice e)) (hi : (P.info? e).map (fun i => (i.zero, i.size, i.bytes)) = some (some (.string ByteArray.empty), 1, bytes)) (hby : bytes ≤ 16)
    (kl : IntKind) (L : Int) (n : Nat) (hl : a.eval l = .int kl L) (hL : L = (n : Int)) (hn : n ≤ 1000000000000)
    (hK : ∀ w', TArr e w' w.heap.size (List.replicate n ByteArray.empty) → Below w.heap.size w w' → w'.heap.size = w.heap.size + 1 → wpList P ops Q rest (a.put o.dst (.slice (some ⟨w.heap.size, 0, none⟩) n n)) w') :
    wpList P ops Q (o :: rest) a w := by
  obtain ⟨i0, hi0, hz0, hz1, hz2⟩ := info_parts hi
  refine wpList_plain hg fun K hK' => ?_
  subst hL
  have hb : (i0.bytes : Int) * (n : Int) ≤ 281474976710656 := by
    rw [hz2]
    have : bytes * n ≤ 16 * n := Nat.mul_le_mul_right n hby
    have h2 : ((bytes * n : Nat) : Int) ≤ 281474976710656 := by omega
    rwa [Int.natCast_mul] at h2
  have hr := run_make (P := P) w t e i0 (.string ByteArray.empty) h1 hi0 hz0 kl kl n n (by omega) (Int.le_refl _) hb (by omega)
  simp only [Int.toNat_natCast, hz1, Nat.mul_one] at hr
  unfold Oper.wp
  simp [execOp, hop, hl, hr, Result.andThen]
  refine hK' _ _ (hK _ ?_ ?_ ?_)
  · show (w.heap.push _)[_]? = _
    rw [Array.getElem?_push, if_pos rfl]
    congr 2
    apply Array.toList_inj.1
    have h3 := toList_madeCells_one (.string ByteArray.empty) n
    simp only [Value.cells] at h3 ⊢
    rw [h3]
    simp
  · exact (Below.refl _ _).alloc (Nat.le_refl _) _
  · simp
end Go.Proofs.YtbglfendcpbjpaaGreatDoor

namespace Go.Proofs.YtbglfendcpbjpaaGreatDoor
open Go Go.RowKit

def sizes (L : List ByteArray) : Nat := (L.map (·.size)).sum
def tot (L : List ByteArray) : Nat := L.length + sizes L

theorem sizes_succ (L : List ByteArray) (k : Nat) (s : ByteArray) (h : L[k]? = some s) : sizes (L.take (k + 1)) = sizes (L.take k) + s.size := by
  have hk := (List.getElem?_eq_some_iff.1 h).1
  have : L.take (k + 1) = L.take k ++ [s] := by rw [List.take_add_one, h]; rfl
  simp [sizes, this]
theorem sizes_take_le (L : List ByteArray) (k : Nat) : sizes (L.take k) ≤ sizes L := by
  have : sizes L = sizes (L.take k) + sizes (L.drop k) := by
    rw [sizes, sizes, sizes, ← List.sum_append, ← List.map_append, List.take_append_drop]
  omega
theorem size_le_sizes {L : List ByteArray} {s : ByteArray} (h : s ∈ L) : s.size ≤ sizes L := by
  obtain ⟨k, hk, rfl⟩ := List.mem_iff_getElem.1 h
  have := sizes_succ L k L[k] (List.getElem?_eq_getElem hk)
  have h2 := sizes_take_le L (k + 1)
  omega

theorem maxLen_eq : maxLen = 9223372036854775807 := rfl

set_option maxRecDepth 100000 in
set_option maxHeartbeats 1000000 in
theorem szT_any (v : Value) (L : List ByteArray) (w : World) (left : Nat) (h : TxL w v L) (hn : L.length ≤ maxLen) (hs : ∀ s ∈ L, s.size ≤ maxLen) (hl : left ≤ 1048576) (R : Ending → World → Prop)
    (hR : tot L ≤ left → R (.returned (.int .i64 ((left - tot L : Nat) : Int))) w) (hR2 : left < tot L → R (.returned (.int .i64 (-1))) w) :
    Calls Tryz.prog 27 #[v, .int .i64 (left : Int)] w R := by
  have HR := Lib.hid hR; clear hR
  have HR2 := Lib.hid hR2; clear hR2
  obtain ⟨ao, n, cap, rfl, hnl, hc, hh⟩ := h.open
  have HH := Lib.hid hh
  rw [maxLen_eq] at hn
  have HS := Lib.hid hs
  have HN := Lib.hid hnl
  rw [← hnl] at hn
  clear h hs hnl hh
  by_cases h0 : left < n
  · obtain ⟨y, hy⟩ : ∃ y : Int, y = (left : Int) - (n : Int) := ⟨_, rfl⟩
    have hw : IntKind.i64.wrap ((left : Int) - (n : Int)) = y := by rw [hy]; exact IntWalk.i64_in _ (by omega)
    have hyn : y < 0 := by omega
    have HF := Lib.hid (HR2.out (by unfold tot; rw [← HN.out]; omega))
    clear hy h0
    go_enter Tryz.func27, Tryz.ntmps27
    go_wp2
    first | go_ret | skip
    exact HF.out
  · obtain ⟨y, hy⟩ : ∃ y : Nat, left = y + n := ⟨left - n, by omega⟩
    have hw : IntKind.i64.wrap ((left : Int) - (n : Int)) = (y : Int) := by rw [IntWalk.i64_in _ (by omega)]; omega
    have HY := Lib.hid hy
    clear hy h0
    go_enter Tryz.func27, Tryz.ntmps27
    go_wp2
    clear hw
    go_loop [5, 1] (fun i l => ∃ k x : Nat, i = .int .i64 (k : Int) ∧ k ≤ n ∧ l = .int .i64 (x : Int) ∧ y = x + sizes (L.take k)) (fun i _ => n - (intOf i).toNat)
    case atStart => exact ⟨0, y, rfl, Nat.zero_le _, rfl, by simp [sizes]⟩
    case round =>
      obtain ⟨k, x, rfl, hk, rfl, hx⟩ := hrel
      have HX := Lib.hid hx
      clear hx
      by_cases hkn : k = n
      · subst hkn
        have hfin : R (.returned (.int .i64 (x : Int))) w := by
          have h1 := HX.out
          rw [HN.out, List.take_length] at h1
          have h2 := HY.out
          have h3 := HR.out (by unfold tot; rw [← HN.out]; omega)
          rw [show left - tot L = x by unfold tot; rw [← HN.out]; omega] at h3
          exact h3
        have HF := Lib.hid hfin
        clear hfin
        go_wp2
        first | go_ret | skip
        exact HF.out
      · have hkl : k < n := by omega
        obtain ⟨s, hs⟩ : ∃ s, L[k]? = some s := ⟨_, List.getElem?_eq_getElem (by rw [← HN.out]; exact hkl)⟩
        have hsz := HS.out s (List.mem_of_getElem? hs)
        rw [maxLen_eq] at hsz
        obtain ⟨b, off, rfl, hb, hcell⟩ := TxL.at HH.out k s hs
        have HSZ := Lib.hid (sizes_succ L k s hs)
        have HLE := Lib.hid (sizes_take_le L (k + 1))
        clear hs
        obtain ⟨m, hm⟩ : ∃ m, m = s.size := ⟨_, rfl⟩
        have HM := Lib.hid hm
        have hxb : x ≤ 1048576 := by have := HX.out; have := HY.out; omega
        by_cases hxm : x < m
        · obtain ⟨z, hz⟩ : ∃ z : Int, z = (x : Int) - (s.size : Int) := ⟨_, rfl⟩
          have hw : IntKind.i64.wrap ((x : Int) - (s.size : Int)) = z := by rw [hz]; exact IntWalk.i64_in _ (by omega)
          have hzn : z < 0 := by omega
          have HF := Lib.hid (HR2.out (by have h1 := HX.out; have h2 := HY.out; have h3 := HSZ.out; have h4 := HLE.out; unfold tot; rw [← HN.out]; omega))
          clear hz hm hxm hsz
          go_wp2
          first | go_ret | skip
          exact HF.out
        · obtain ⟨z, hz⟩ : ∃ z : Nat, x = z + s.size := ⟨x - s.size, by omega⟩
          have hw : IntKind.i64.wrap ((x : Int) - (s.size : Int)) = (z : Int) := by rw [IntWalk.i64_in _ (by omega)]; omega
          have hw1 : IntKind.i64.wrap ((k : Int) + 1) = ((k + 1 : Nat) : Int) := by rw [IntWalk.i64_in _ (by omega)]; omega
          have HZ := Lib.hid (show y = z + sizes (L.take (k + 1)) by have h1 := HX.out; have h3 := HSZ.out; omega)
          clear hz hm hxm hsz hxb
          go_wp2
          go_round
          case rel => exact ⟨k + 1, z, by first | rfl | go_num, by omega, rfl, HZ.out⟩
          case measure => simp [intOf]; omega

theorem set_copy {α : Type} (L : List α) (k n : Nat) (e s : α) (hk : k < n) (h : L[k]? = some s) : (L.take k ++ List.replicate (n - k) e).set k s = L.take (k + 1) ++ List.replicate (n - (k + 1)) e := by
  have hl : k < L.length := (List.getElem?_eq_some_iff.1 h).1
  have h1 : n - k = (n - (k + 1)) + 1 := by omega
  have h2 : (L.take k).length = k := by rw [List.length_take]; omega
  rw [h1, List.replicate_succ, List.set_append_right _ _ (by omega), h2, Nat.sub_self, List.set_cons_zero, List.take_add_one, h]
  simp

theorem info_str : (Tryz.prog.info? 9).map (fun i => (i.zero, i.size, i.bytes)) = some (some (.string ByteArray.empty), 1, 16) := by kernel_rfl

def CopyRel (w : World) (n : Nat) (L : List ByteArray) (i : Value) (wr : World) : Prop :=
  ∃ k : Nat, i = .int .i64 (k : Int) ∧ k ≤ n ∧ TArr 9 wr w.heap.size (L.take k ++ List.replicate (n - k) ByteArray.empty) ∧ Below w.heap.size w wr

set_option maxRecDepth 100000 in
set_option maxHeartbeats 1000000 in
theorem toT_any (v : Value) (L : List ByteArray) (w : World) (h : TxL w v L) (hn : L.length ≤ 1048576) (R : Ending → World → Prop)
    (hR : ∀ v' w', TxL w' v' L → Below w.heap.size w w' → R (.returned v') w') :
    Calls Tryz.prog 29 #[v] w R := by
  have HR := Lib.hid hR; clear hR
  obtain ⟨ao, n, cap, rfl, hnl, hc, hh⟩ := h.open
  have HH := Lib.hid hh
  have HN := Lib.hid hnl
  rw [← hnl] at hn
  clear h hnl hh
  go_enter Tryz.func29, Tryz.ntmps29
  go_wp2_with (at_make; go_must (refine wpList_maket _ rfl (.tmp 6) 29 rfl 9 16 Tryz.underlying29 info_str (by omega) .i64 _ n rfl (by omega) (by omega) ?_))
  intro W hA hbW hsW
  have HST : Hid (CopyRel w n L (.int .i64 0) W) := Lib.hid ⟨0, rfl, Nat.zero_le _, by simpa using hA, hbW⟩
  clear hA hbW hsW
  go_wp2
  go_loopw [4] (fun i wr => CopyRel w n L i wr) (fun i _ => n - (intOf i).toNat)
  case atStart => exact HST.out
  case round =>
    clear HST
    obtain ⟨k, rfl, hk, hA, hbel⟩ := hrel
    have HB := Lib.hid hbel
    by_cases hkn : k = n
    · subst hkn
      have hL : L.take k ++ List.replicate (k - k) ByteArray.empty = L := by rw [Nat.sub_self, HN.out, List.take_length]; simp
      rw [hL] at hA
      have HT := Lib.hid (hA.sl k k HN.out (Nat.le_refl _))
      clear hA hbel hL
      go_wp2
      first | go_ret | skip
      exact HR.out _ _ HT.out HB.out
    · have hkl : k < n := by omega
      obtain ⟨s, hs⟩ : ∃ s, L[k]? = some s := ⟨_, List.getElem?_eq_getElem (by rw [← HN.out]; exact hkl)⟩
      obtain ⟨b, off, rfl, hb, hcell⟩ := TxL.at HH.out k s hs
      rw [← hbel.cell (p := ⟨b, off + k, none⟩) hb] at hcell
      have hlen : (L.take k ++ List.replicate (n - k) ByteArray.empty).length = n := by rw [List.length_append, List.length_take, List.length_replicate, ← HN.out]; omega
      have hc2 := hA.cell k _ (List.getElem?_eq_getElem (by rw [hlen]; exact hkl))
      have hf2 := hA.frozen k
      have hA2 := hA.set k s
      rw [set_copy L k n ByteArray.empty s hkl hs] at hA2
      have HA2 := Lib.hid hA2
      obtain ⟨u, hu⟩ : ∃ u, u = (L.take k ++ List.replicate (n - k) ByteArray.empty)[k]'(by rw [hlen]; exact hkl) := ⟨_, rfl⟩
      rw [← hu] at hc2
      have hw1 : IntKind.i64.wrap ((k : Int) + 1) = ((k + 1 : Nat) : Int) := by rw [IntWalk.i64_in _ (by omega)]; omega
      clear hA hA2 hbel hlen hs hu
      go_wp2
      go_roundw
      case rel => exact ⟨k + 1, by first | rfl | go_num, by omega, HA2.out, HB.out.setCell (Nat.le_refl _) _⟩
      case measure => simp [intOf]; omega

set_option maxRecDepth 100000 in
set_option maxHeartbeats 1000000 in
theorem eqT_any (v1 v2 : Value) (L1 L2 : List ByteArray) (w : World) (h1 : TxL w v1 L1) (h2 : TxL w v2 L2) (hn : L1.length ≤ 281474976710656) (hn2 : L2.length ≤ 281474976710656) (R : Ending → World → Prop)
    (hR : ∀ w', Below w.heap.size w w' → R (.returned (.bool (decide (L1 = L2)))) w') :
    Calls Tryz.prog 31 #[v1, v2] w R := by
  have HR := Lib.hid hR; clear hR
  obtain ⟨a1, n, c1, rfl, hn1, hc1, hh1⟩ := h1.open
  obtain ⟨a2, n2, c2, rfl, hn2', hc2, hh2⟩ := h2.open
  have HH1 := Lib.hid hh1
  have HH2 := Lib.hid hh2
  have HN1 := Lib.hid hn1
  have HN2 := Lib.hid hn2'
  rw [← hn1] at hn
  rw [← hn2'] at hn2
  clear h1 h2 hn1 hn2' hh1 hh2
  by_cases hne : n = n2
  · subst hne
    have e0 : ((n : Int) != (n : Int)) = false := by simp
    go_enter Tryz.func31, Tryz.ntmps31
    go_wp2
    clear e0
    go_loopw [5] (fun i wr => ∃ k : Nat, i = .int .i64 (k : Int) ∧ k ≤ n ∧ L1.take k = L2.take k ∧ Below w.heap.size w wr) (fun i _ => n - (intOf i).toNat)
    case atStart => exact ⟨0, rfl, Nat.zero_le _, by simp, Below.refl _ _⟩
    case round =>
      obtain ⟨k, rfl, hk, htk, hbel⟩ := hrel
      have HTK := Lib.hid htk
      have HB := Lib.hid hbel
      clear htk
      by_cases hkn : k = n
      · subst hkn
        have he : L1 = L2 := by
          have := HTK.out
          rw [HN1.out, List.take_length] at this
          rw [this, ← HN1.out, HN2.out, List.take_length]
        rw [decide_eq_true he] at HR
        clear hbel he
        go_wp2
        first | go_ret | skip
        exact HR.out _ HB.out
      · have hkl : k < n := by omega
        obtain ⟨s, hs⟩ : ∃ s, L1[k]? = some s := ⟨_, List.getElem?_eq_getElem (by rw [← HN1.out]; exact hkl)⟩
        obtain ⟨t, ht⟩ : ∃ t, L2[k]? = some t := ⟨_, List.getElem?_eq_getElem (by rw [← HN2.out]; exact hkl)⟩
        obtain ⟨b1, o1, rfl, hb1, hcell1⟩ := TxL.at HH1.out k s hs
        obtain ⟨b2, o2, rfl, hb2, hcell2⟩ := TxL.at HH2.out k t ht
        rw [← hbel.cell (p := ⟨b1, o1 + k, none⟩) hb1] at hcell1
        rw [← hbel.cell (p := ⟨b2, o2 + k, none⟩) hb2] at hcell2
        have hw1 : IntKind.i64.wrap ((k : Int) + 1) = ((k + 1 : Nat) : Int) := by rw [IntWalk.i64_in _ (by omega)]; omega
        have hk0 : (0 : Int) ≤ (k : Int) := by omega
        have hk1 : (k : Int) < (n : Int) := by omega
        by_cases hst : s = t
        · have HT2 := Lib.hid (show L1.take (k + 1) = L2.take (k + 1) by rw [List.take_add_one, List.take_add_one, hs, ht, HTK.out, hst])
          have e9 : (s.toList == t.toList) = true := by subst hst; simp
          clear hs ht hbel hst
          go_wp2
          go_quiet (fail)
          go_wp2
          go_roundw
          case rel => exact ⟨k + 1, by first | rfl | go_num, by omega, HT2.out, below_draws HB.out _⟩
          case measure => simp [intOf]; omega
        · have hne : L1 ≠ L2 := fun e => by subst e; rw [hs] at ht; exact hst (Option.some.inj ht)
          have e9 : (s.toList == t.toList) = false := by
            rw [beq_eq_false_iff_ne]
            intro e
            rw [Lib.toList_data, Lib.toList_data] at e
            exact hst (by cases s; cases t; simpa [← Array.toList_inj] using e)
          rw [decide_eq_false hne] at HR
          clear hs ht hbel hst hne
          go_wp2
          go_quiet (fail)
          go_wp2
          first | go_ret | skip
          exact HR.out _ (below_draws HB.out _)
  · have e0 : ((n : Int) != (n2 : Int)) = true := by simp; omega
    have hd : L1 ≠ L2 := fun e => hne (by rw [HN1.out, HN2.out, e])
    rw [decide_eq_false hd] at HR
    clear hne hd
    go_enter Tryz.func31, Tryz.ntmps31
    go_wp2
    first | go_ret | skip
    exact HR.out _ (Below.refl _ _)
end Go.Proofs.YtbglfendcpbjpaaGreatDoor

namespace Go.Proofs.YtbglfendcpbjpaaGreatDoor
open Go Go.RowKit

theorem OwE.alloc {α : Type} {sz : Nat} {E : World → List Value → α → Prop} (hE : Elem sz E) {e : TypeId} {w : World} {B : Nat} {v : Value} {xs : List α} (h : OwE sz E e w B v xs) (o : Obj) : OwE sz E e (w.alloc o) B v xs :=
  h.later hE ((Below.refl w.heap.size w).alloc (Nat.le_refl _) o) (Nat.le_refl _)

theorem cells_alloc (w : World) (cs : Array Value) (t : TypeId) (g : Nat) (hg : g = w.heap.size) : ∀ j u, cs.toList[j]? = some u → (w.alloc (.cells cs t)).cell? ⟨g, j, none⟩ = some u := by
  intro j u hj
  subst hg
  have : (w.alloc (.cells cs t)).heap[w.heap.size]? = some (.cells cs t (0, 0)) := by
    show (w.heap.push _)[_]? = _
    simp
  simp only [World.cell?, this, Option.isSome_none, Bool.false_eq_true, if_false]
  rw [← Array.getElem?_toList]; exact hj

theorem madeCells_ints (z : Array Value) (n : Nat) (hz : 0 < z.size) (h : ∀ u ∈ z.toList, notInt u = true) : ∀ u ∈ (madeCells z n).toList, notInt u = true := by
  intro u hu
  simp only [madeCells, Array.toList_map, List.mem_map] at hu
  obtain ⟨i, _, rfl⟩ := hu
  have hm : i % z.size < z.size := Nat.mod_lt _ hz
  rw [getElem!_pos z _ hm]
  exact h _ (Array.mem_toList_iff.2 (Array.getElem_mem hm))

/-- make([]T, 0, n) -/
theorem wpList_make0 {α : Type} {P : Program} {w : World} {ops : Array Oper} {rest : List Oper} {o : Oper} {a : Act} {Q : Exit → Act → World → Prop} {sz : Nat} {E : World → List Value → α → Prop} (hsz : 0 < sz)
    (hg : o.guard = none) (l c : Operand) (t : TypeId) (hop : o.op = Op.makeSlice t l c)
    (e : TypeId) (bytes : Nat) (z : Value) (h1 : P.underlying t = some (.slice e)) (hi : (P.info? e).map (fun i => (i.zero, i.size, i.bytes)) = some (some z, sz, bytes)) (hzs : z.cells.size = sz) (hzi : ∀ u ∈ z.cells.toList, notInt u = true) (hby : bytes ≤ 100)
    (B : Nat) (hB : B ≤ w.heap.size) (kl kc : IntKind) (L C : Int) (n : Nat) (hl : a.eval l = .int kl L) (hc : a.eval c = .int kc C) (hL : L = 0) (hC : C = (n : Int)) (hn : n ≤ 1000000000)
    (hK : ∀ w', OwE sz E e w' B (.slice (some ⟨w.heap.size, 0, none⟩) 0 n) ([] : List α) → Below w.heap.size w w' → w'.heap.size = w.heap.size + 1 → wpList P ops Q rest (a.put o.dst (.slice (some ⟨w.heap.size, 0, none⟩) 0 n)) w') :
    wpList P ops Q (o :: rest) a w := by
  obtain ⟨i0, hi0, hz0, hz1, hz2⟩ := info_parts hi
  refine wpList_plain hg fun K hK' => ?_
  subst hL hC
  have hb : (i0.bytes : Int) * (n : Int) ≤ 281474976710656 := by
    rw [hz2]
    have : bytes * n ≤ 100 * n := Nat.mul_le_mul_right n hby
    have h2 : ((bytes * n : Nat) : Int) ≤ 281474976710656 := by omega
    rwa [Int.natCast_mul] at h2
  have hr := run_make (P := P) w t e i0 z h1 hi0 hz0 kl kc 0 n (by omega) (by omega) hb (by omega)
  simp only [Int.toNat_natCast, hz1, Int.toNat_zero] at hr
  unfold Oper.wp
  simp [execOp, hop, hl, hc, hr, Result.andThen]
  refine hK' _ _ (hK _ ?_ ?_ ?_)
  · refine .inr ⟨w.heap.size, n, madeCells z.cells (n * sz), rfl, hB, ?_, Nat.zero_le _, by rw [maxLen_eq]; omega, size_madeCells _ _, madeCells_ints _ _ (by omega) hzi, fun i x h => by simp at h⟩
    show (w.heap.push _)[_]? = _
    simp
  · exact (Below.refl _ _).alloc (Nat.le_refl _) _
  · simp

theorem IsN.keep {w w' : World} {v : Value} {n g : Nat} (h : IsN w v n) (hb : But g w w') (hg : NoInt w g) : IsN w' v n := by
  refine Sl.but h hb fun h0 e => ?_
  rcases Sl.cases h with ⟨h1, _⟩ | ⟨_, b, off, cap, rfl, _, hbl, hc⟩
  · rw [h1] at h0; simp at h0
  · simp [blk] at e
    subst e
    have := hg _ _ (hc 0 h0)
    cases this

/-- a fraction of the program as an element -/
def ER (w : World) (cs : List Value) (q : Rat) : Prop := ∃ a1 n1 c1 a2 n2 c2, cs = [.bool (decide (q.num < 0)), .slice a1 n1 c1, .slice a2 n2 c2] ∧ IsN w (.slice a1 n1 c1) q.num.natAbs ∧ IsN w (.slice a2 n2 c2) q.den
theorem elemR : Elem 3 ER where
  len := by rintro w cs x ⟨_, _, _, _, _, _, rfl, _⟩; rfl
  ints := by
    rintro w cs x ⟨_, _, _, _, _, _, rfl, _⟩ u hu
    simp only [List.mem_cons, List.not_mem_nil, or_false] at hu
    rcases hu with rfl | rfl | rfl <;> rfl
  one := by
    rintro w cs x ⟨_, _, _, _, _, _, rfl, _⟩ u hu
    simp only [List.mem_cons, List.not_mem_nil, or_false] at hu
    rcases hu with rfl | rfl | rfl <;> rfl
  keep := by
    rintro w w' g cs x ⟨a1, n1, c1, a2, n2, c2, rfl, h1, h2⟩ hb hg
    exact ⟨a1, n1, c1, a2, n2, c2, rfl, h1.keep hb hg, h2.keep hb hg⟩

/-- a slice value reads as a list of the program's fractions -/
def RsL (w : World) (v : Value) (qs : List Rat) : Prop := SlE 3 ER w v qs

theorem info_ratio : (Tryz.prog.info? 52).map (fun i => (i.zero, i.size, i.bytes)) = some (some zeroR, 3, 56) := by kernel_rfl
theorem zeroR_ints : ∀ u ∈ zeroR.cells.toList, notInt u = true := by
  intro u hu
  simp only [zeroR, Value.cells, List.mem_cons, List.not_mem_nil, or_false] at hu
  rcases hu with rfl | rfl | rfl <;> rfl

/-- whether a text is a number -/
noncomputable def isNum (s : ByteArray) : Bool := (numO s.data.toList).isSome
/-- the number that a text is -/
noncomputable def qOf (s : ByteArray) : Rat := (numO s.data.toList).getD 0
theorem isNum_some {s : ByteArray} (h : isNum s = true) : numO s.data.toList = some (qOf s) := by
  unfold isNum at h; unfold qOf
  cases hn : numO s.data.toList with
  | none => rw [hn] at h; cases h
  | some q => rfl
theorem isNum_of {s : ByteArray} {q : Rat} (h : numO s.data.toList = some q) : isNum s = true ∧ qOf s = q := by
  unfold isNum qOf; rw [h]; exact ⟨rfl, rfl⟩
theorem isNum_not {s : ByteArray} (h : numO s.data.toList = none) : isNum s = false := by
  unfold isNum; rw [h]; rfl

theorem all_take_one {α : Type} (p : α → Bool) (L : List α) (k : Nat) (s : α) (h : L[k]? = some s) : (L.take (k + 1)).all p = ((L.take k).all p && p s) := by
  rw [List.take_add_one, h, List.all_append]; simp
theorem all_not_at {α : Type} (p : α → Bool) (L : List α) (k : Nat) (s : α) (h : L[k]? = some s) (hp : p s = false) : L.all p = false := by
  rw [List.all_eq_false]
  exact ⟨s, List.mem_of_getElem? h, by simp [hp]⟩

set_option maxRecDepth 100000 in
set_option maxHeartbeats 1000000 in
theorem all_any (v : Value) (L : List ByteArray) (w : World) (h : TxL w v L) (hn : L.length ≤ 1048576) (hs : ∀ s ∈ L, s.size ≤ 1048576) (R : Ending → World → Prop)
    (hR : ∀ w', Below w.heap.size w w' → R (.returned (.bool (L.all isNum))) w') :
    Calls Tryz.prog 114 #[v] w R := by
  have HR := Lib.hid hR; clear hR
  obtain ⟨ao, n, cap, rfl, hnl, hc, hh⟩ := h.open
  have HH := Lib.hid hh
  have HN := Lib.hid hnl
  have HS := Lib.hid hs
  rw [← hnl] at hn
  clear h hnl hh hs
  go_enter Tryz.func114, Tryz.ntmps114
  go_wp2
  go_loopw [3] (fun i wr => ∃ k : Nat, i = .int .i64 (k : Int) ∧ k ≤ n ∧ (L.take k).all isNum = true ∧ Below w.heap.size w wr) (fun i _ => n - (intOf i).toNat)
  case atStart => exact ⟨0, rfl, Nat.zero_le _, by simp, Below.refl _ _⟩
  case round =>
    obtain ⟨k, rfl, hk, hall, hbel⟩ := hrel
    have HALL := Lib.hid hall
    have HB := Lib.hid hbel
    clear hall
    by_cases hkn : k = n
    · subst hkn
      have he : L.all isNum = true := by have := HALL.out; rw [HN.out, List.take_length] at this; exact this
      rw [he] at HR
      clear hbel he
      go_wp2
      first | go_ret | skip
      exact HR.out _ HB.out
    · have hkl : k < n := by omega
      obtain ⟨s, hs⟩ : ∃ s, L[k]? = some s := ⟨_, List.getElem?_eq_getElem (by rw [← HN.out]; exact hkl)⟩
      have HSS := Lib.hid hs
      have hsz := HS.out s (List.mem_of_getElem? hs)
      obtain ⟨b, off, rfl, hb, hcell⟩ := TxL.at HH.out k s hs
      rw [← hbel.cell (p := ⟨b, off + k, none⟩) hb] at hcell
      have hw1 : IntKind.i64.wrap ((k : Int) + 1) = ((k + 1 : Nat) : Int) := by rw [IntWalk.i64_in _ (by omega)]; omega
      clear hs hbel
      go_wp2_with fail
      refine isq_any s _ (by omega) _ ?_
      intro w1 hb1
      have HB1 := Lib.hid (HB.out.trans (hb1.mono HB.out.size))
      obtain ⟨x, hx⟩ : ∃ x, x = isNum s := ⟨_, rfl⟩
      have hx' : (numO s.data.toList).isSome = x := by rw [hx]; rfl
      rw [hx']
      have HX := Lib.hid hx
      clear hb1 hx hx' hsz hcell
      cases x
      · have hf := all_not_at isNum L k s HSS.out HX.out.symm
        rw [hf] at HR
        clear hf
        dsimp only
        go_wp2
        first | go_ret | skip
        exact HR.out _ HB1.out
      · have ht : Hid ((L.take (k + 1)).all isNum = true) := Lib.hid (by rw [all_take_one isNum L k s HSS.out, HALL.out, ← HX.out]; rfl)
        dsimp only
        go_wp2
        go_roundw
        case rel => exact ⟨k + 1, by first | rfl | go_num, by omega, ht.out, HB1.out⟩
        case measure => simp [intOf]; omega

set_option maxRecDepth 100000 in
set_option maxHeartbeats 1000000 in
theorem isList_any (v : Value) (L : List ByteArray) (w : World) (h : TxL w v L) (hn : L.length ≤ 1048576) (hs : ∀ s ∈ L, s.size ≤ 1048576) (R : Ending → World → Prop)
    (hR : ∀ w', Below w.heap.size w w' → R (.returned (.bool (decide (L.length ≤ 60) && L.all isNum))) w') :
    Calls Tryz.prog 65 #[v] w R := by
  have HR := Lib.hid hR; clear hR
  obtain ⟨ao, n, cap, rfl, hnl, hc, hh⟩ := h.open
  have HH := Lib.hid hh
  have HN := Lib.hid hnl
  have HS := Lib.hid hs
  rw [← hnl] at hn HR
  clear h hnl hh hs
  by_cases h60 : n ≤ 60
  · have e1 : ((n : Int) ≤ 60) := by omega
    rw [decide_eq_true h60, Bool.true_and] at HR
    clear h60
    go_enter Tryz.func65, Tryz.ntmps65
    go_wp2_with fail
    refine all_any _ L _ HH.out (by rw [← HN.out]; exact hn) HS.out _ ?_
    intro w1 hb1
    obtain ⟨x, hx⟩ : ∃ x, x = L.all isNum := ⟨_, rfl⟩
    rw [← hx] at HR ⊢
    have HB := Lib.hid hb1
    clear hb1 hx
    dsimp only
    go_wp2
    first | go_ret | skip
    exact HR.out _ HB.out
  · have e1 : ¬ ((n : Int) ≤ 60) := by omega
    rw [decide_eq_false h60, Bool.false_and] at HR
    clear h60
    go_enter Tryz.func65, Tryz.ntmps65
    go_wp2
    first | go_ret | skip
    exact HR.out _ (Below.refl _ _)

def RatsRel (w : World) (n : Nat) (L : List ByteArray) (i v : Value) (wr : World) : Prop :=
  ∃ k : Nat, i = .int .i64 (k : Int) ∧ k ≤ n ∧ (L.take k).all isNum = true ∧ OwE 3 ER 52 wr w.heap.size v ((L.take k).map qOf) ∧ Below w.heap.size w wr

theorem map_take_one {α β : Type} (f : α → β) (L : List α) (k : Nat) (s : α) (h : L[k]? = some s) : (L.take (k + 1)).map f = (L.take k).map f ++ [f s] := by
  rw [List.take_add_one, h, List.map_append]; rfl

set_option maxRecDepth 100000 in
set_option maxHeartbeats 2000000 in
theorem readrs_own (v : Value) (L : List ByteArray) (w : World) (hE : Env w) (h : TxL w v L) (hn : L.length ≤ 1048576) (R : Ending → World → Prop)
    (hR : ∀ v' w', L.length ≤ 60 → L.all isNum = true → OwE 3 ER 52 w' w.heap.size v' (L.map qOf) → Below w.heap.size w w' → R (.returned (.tuple #[v', .nilIface])) w')
    (hR2 : ∀ e w', (decide (L.length ≤ 60) && L.all isNum) = false → ErrV e → Below w.heap.size w w' → R (.returned (.tuple #[.slice none 0 0, e])) w') :
    Calls Tryz.prog 67 #[v] w R := by
  have HR := Lib.hid hR; clear hR
  have HR2 := Lib.hid hR2; clear hR2
  have HE := Lib.hid hE
  obtain ⟨ao, n, cap, rfl, hnl, hc, hh⟩ := h.open
  have HH := Lib.hid hh
  have HN := Lib.hid hnl
  rw [← hnl] at hn
  clear h hnl hh
  by_cases h60 : n ≤ 60
  · have e1 : ¬ ((60 : Int) < (n : Int)) := by omega
    have H60 := Lib.hid h60
    clear h60 hE
    go_enter Tryz.func67, Tryz.ntmps67
    go_wp2_with (at_make; go_must (refine wpList_make0 (sz := 3) (E := ER) (by omega) rfl _ (.tmp 14) 75 rfl 52 56 zeroR Tryz.underlying75 info_ratio rfl zeroR_ints (by omega) w.heap.size (Nat.le_refl _) .i64 .i64 _ _ n rfl rfl rfl rfl (by omega) ?_))
    intro W hA hbW hsW
    have HST : Hid (RatsRel w n L (.int .i64 0) (.slice (some ⟨w.heap.size, 0, none⟩) 0 n) W) := Lib.hid ⟨0, rfl, Nat.zero_le _, by simp, by simpa using hA, hbW⟩
    clear hA hbW hsW
    go_wp2
    go_loopw [4, 18] (fun v i wr => RatsRel w n L i v wr) (fun _ i _ => n - (intOf i).toNat)
    case atStart => exact HST.out
    case round =>
      clear HST
      obtain ⟨k, rfl, hk, hall, hown, hbel⟩ := hrel
      have HALL := Lib.hid hall
      have HB := Lib.hid hbel
      have HOWN := Lib.hid hown
      clear hall
      obtain ⟨a3, n3, c3, rfl, hn3⟩ := hown.shape
      by_cases hkn : k = n
      · subst hkn
        have he : L.take k = L := by rw [HN.out, List.take_length]
        rw [he] at HALL HOWN
        have HF := Lib.hid (HR.out _ _ (by rw [← HN.out]; exact H60.out) HALL.out HOWN.out HB.out)
        clear hbel he hown hn3
        go_wp2
        first | go_ret | skip
        exact HF.out
      · have hkl : k < n := by omega
        obtain ⟨s, hs⟩ : ∃ s, L[k]? = some s := ⟨_, List.getElem?_eq_getElem (by rw [← HN.out]; exact hkl)⟩
        have HSS := Lib.hid hs
        obtain ⟨b, off, rfl, hb, hcell⟩ := TxL.at HH.out k s hs
        rw [← hbel.cell (p := ⟨b, off + k, none⟩) hb] at hcell
        have hw1 : IntKind.i64.wrap ((k : Int) + 1) = ((k + 1 : Nat) : Int) := by rw [IntWalk.i64_in _ (by omega)]; omega
        have HK := Lib.hid hkl
        have H3 := Lib.hid hn3
        clear hs hbel hown hn3
        go_wp2_with fail
        refine readq_any s _ (HE.out.later HB.out (Nat.le_refl _)) _ ?_ ?_
        · intro v q w1 hq hv hb1
          obtain ⟨s1, s2, rfl, hn1, hn2⟩ := hv
          obtain ⟨x1, m1, y1, rfl, hn1'⟩ := hn1.op
          obtain ⟨x2, m2, y2, rfl, hn2'⟩ := hn2.op
          have HB1 := Lib.hid (HB.out.trans (hb1.mono HB.out.size))
          have HOW1 := Lib.hid (HOWN.out.later elemR hb1 (Nat.le_refl _))
          have HER : Hid (ER w1 [.bool (decide (q.num < 0)), .slice x1 m1 y1, .slice x2 m2 y2] q) := Lib.hid ⟨_, _, _, _, _, _, rfl, hn1', hn2'⟩
          obtain ⟨ng, hng⟩ : ∃ ng, ng = decide (q.num < 0) := ⟨_, rfl⟩
          rw [← hng] at HER ⊢
          obtain ⟨hq1, hq2⟩ := isNum_of hq
          have HA2 : Hid ((L.take (k + 1)).all isNum = true) := Lib.hid (by rw [all_take_one isNum L k s HSS.out, HALL.out, hq1]; rfl)
          have HM2 : Hid ((L.take (k + 1)).map qOf = (L.take k).map qOf ++ [q]) := Lib.hid (by rw [map_take_one qOf L k s HSS.out, hq2])
          have HLK : Hid (((L.take k).map qOf).length ≤ 100000000) := Lib.hid (by rw [List.length_map, List.length_take]; omega)
          have hwB := HB1.out.size
          clear hb1 hq hn1 hn2 hn1' hn2' hq1 hq2 hng hcell
          dsimp only
          go_wp2_with (at_builtin; go_must (refine wpList_pushE elemR (by omega) rfl (.tmp 30) (.tmp 32) 75 rfl 52 56 zeroR Tryz.underlying75 info_ratio rfl zeroR_ints (by omega) w.heap.size _ ((HOW1.out.alloc elemR _).alloc elemR _) HLK.out (by simp; omega) (w1.heap.size + 1) [.bool ng, .slice x1 m1 y1, .slice x2 m2 y2] q rfl (elemR.below HER.out (((Below.refl _ _).alloc (Nat.le_refl _) _).alloc (by simp) _) (Nat.le_refl _)) (cells_alloc _ #[.bool ng, .slice x1 m1 y1, .slice x2 m2 y2] _ _ (by simp)) ?_))
          intro ao n4 c4 w4 hown4 hn4 hgr hb4
          have HOW4 : Hid (OwE 3 ER 52 w4 w.heap.size (.slice ao n4 c4) ((L.take (k + 1)).map qOf)) := Lib.hid (by rw [HM2.out, List.map_take]; exact hown4)
          have HB4 := Lib.hid (((HB1.out.alloc hwB _).alloc (by simp; omega) _).trans (hb4))
          clear hown4 hn4 hgr hb4
          go_wp2
          go_roundw
          case rel => exact ⟨k + 1, by first | rfl | go_num, HK.out, HA2.out, HOW4.out, HB4.out⟩
          case measure => simp [intOf]; have := HK.out; omega
        · intro e w1 hnone he hb1
          obtain ⟨t, p, rfl⟩ := he
          have HB1 := Lib.hid (HB.out.trans (hb1.mono HB.out.size))
          have hf : (decide (L.length ≤ 60) && L.all isNum) = false := by rw [all_not_at isNum L k s HSS.out (isNum_not hnone), Bool.and_false]
          have HF := Lib.hid (HR2.out (.iface t (.pointer (some p))) (w1.alloc (.cells #[.bool false, .slice none 0 0, .slice none 0 0] 52)) hf ⟨_, _, rfl⟩ (HB1.out.alloc HB1.out.size _))
          clear hb1 hnone hf hcell
          unfold zeroR
          dsimp only
          go_wp2
          first | go_ret | skip
          exact HF.out
  · have e1 : ((60 : Int) < (n : Int)) := by omega
    have hf : (decide (L.length ≤ 60) && L.all isNum) = false := by rw [← HN.out, decide_eq_false h60, Bool.false_and]
    have HF := Lib.hid (fun p w' => HR2.out (.iface 195 (.pointer (some p))) w' hf ⟨_, _, rfl⟩)
    obtain ⟨_, ⟨pf, hpf⟩, _⟩ := hE
    clear h60 hf
    go_enter Tryz.func67, Tryz.ntmps67
    go_wp2
    go_quiet (fail)
    go_wp2
    first | go_ret | skip
    exact HF.out _ _ (below_draws (Below.refl _ _) _)

theorem readrs_any (v : Value) (L : List ByteArray) (w : World) (hE : Env w) (h : TxL w v L) (hn : L.length ≤ 1048576) (R : Ending → World → Prop)
    (hR : ∀ v' w', L.length ≤ 60 → L.all isNum = true → RsL w' v' (L.map qOf) → Below w.heap.size w w' → R (.returned (.tuple #[v', .nilIface])) w')
    (hR2 : ∀ e w', (decide (L.length ≤ 60) && L.all isNum) = false → ErrV e → Below w.heap.size w w' → R (.returned (.tuple #[.slice none 0 0, e])) w') :
    Calls Tryz.prog 67 #[v] w R :=
  readrs_own v L w hE h hn R (fun v' w' h1 h2 h3 h4 => hR v' w' h1 h2 h3.sl h4) hR2

/-- a store into an older block without numbers leaves an owned list as it is -/
theorem OwE.setOld {α : Type} {sz : Nat} {E : World → List Value → α → Prop} (hE : Elem sz E) {e : TypeId} {w : World} {B : Nat} {v : Value} {xs : List α} (h : OwE sz E e w B v xs) {b : Nat} (hb : b < B) (hn : NoInt w b) (o : Nat) (u : Value) : OwE sz E e (w.setCell ⟨b, o, none⟩ u) B v xs := by
  rcases h with h | ⟨g, cap, cur, h1, h2, h3, h4, h5, h6, h7, h8⟩
  · exact .inl h
  · exact .inr ⟨g, cap, cur, h1, h2, by rw [Below.heap_setCell _ _ _ _ (show g ≠ b by omega)]; exact h3, h4, h5, h6, h7, fun i x hi => hE.keep (h8 i x hi) ((But.refl b w).setCell o u) hn⟩
end Go.Proofs.YtbglfendcpbjpaaGreatDoor

namespace Go.Proofs.YtbglfendcpbjpaaGreatDoor
open Go Go.RowKit

def TimesRel (w : World) (g na nb : Nat) (xs : List Nat) (b : Nat) (iv : Value) (wr : World) : Prop :=
  ∃ (k : Nat) (zs : List Nat), iv = .int .i64 (k : Int) ∧ k ≤ na ∧ Arr .u64 110 wr g zs ∧ zs.length = na + nb ∧ (∀ d ∈ zs, d < W64) ∧ zs.drop (k + nb) = List.replicate (na - k) 0 ∧
    val W64 zs = val W64 (xs.take k) * b ∧ Below w.heap.size w wr ∧ wr.heap.size = w.heap.size + 1

theorem drop_zero_getD {zs : List Nat} {i m : Nat} (h : zs.drop i = List.replicate m 0) : zs.getD i 0 = 0 := by
  have h1 : (zs.drop i).getD 0 0 = zs.getD i 0 := by simp [List.getD_eq_getElem?_getD, List.getElem?_drop]
  rw [← h1, h]
  exact getD_zeros _ _

theorem times_rel (w wr w1 : World) (g na nb k x b c : Nat) (xs rs zs : List Nat) (zc : Int) (hk : k < na) (hxl : xs.length = na) (hx : x = xs.getD k 0)
    (hrl : rs.length = na + nb) (hrd : rs.drop (k + nb) = List.replicate (na - k) 0) (hrv : val W64 rs = val W64 (xs.take k) * b)
    (hA : Arr .u64 110 w1 g zs) (hzl : zs.length = rs.length) (hz : ∀ d ∈ zs, d < W64) (hzd : zs.drop (k + nb) = rs.drop (k + nb))
    (hzv : val W64 zs + W64 ^ (k + nb) * c = val W64 rs + W64 ^ k * (x * b)) (hc : c < W64) (hb : Below w.heap.size w wr) (hs : wr.heap.size = w.heap.size + 1) (hbut : But g wr w1) (hs1 : w1.heap.size = wr.heap.size) (hg : g = w.heap.size) (hzc : zc = (c : Int)) :
    TimesRel w g na nb xs b (.int .i64 ((k + 1 : Nat) : Int)) (w1.setCell ⟨g, k + nb, none⟩ (.int .u64 zc)) := by
  subst hzc hg
  refine ⟨k + 1, zs.set (k + nb) c, rfl, by omega, hA.set _ _, by simp [hzl, hrl], set_ltN _ _ _ hz hc, ?_, ?_, (hb.trans (hbut.below (Nat.le_refl _) (by omega))).setCell (by simp) _, by simp [hs, hs1]⟩
  · rw [drop_set_out _ _ _ _ (by omega)]
    have h2 := congrArg (List.drop 1) (hzd.trans hrd)
    rw [List.drop_drop, List.drop_replicate] at h2
    rw [show k + 1 + nb = k + nb + 1 by omega, h2]
    congr 1
  · have h1 := val_setN W64 zs (k + nb) c (by omega)
    rw [drop_zero_getD (hzd.trans hrd), Nat.mul_zero, Nat.add_zero] at h1
    rw [h1, hzv, hrv, val_take_succ W64 xs k (by omega), ← hx]
    rw [Nat.add_mul, Nat.mul_assoc]

set_option maxRecDepth 100000 in
set_option maxHeartbeats 1000000 in
theorem ntimes_any (va vb : Value) (a b : Nat) (w : World) (ha : IsN w va a) (hb : IsN w vb b) (hla : (dig W64 a).length ≤ 100000000) (hlb : (dig W64 b).length ≤ 100000000) (R : Ending → World → Prop)
    (hR : ∀ v' w', IsN w' v' (a * b) → Below w.heap.size w w' → R (.returned v') w') :
    Calls Tryz.prog 85 #[va, vb] w R := by
  have HR := Lib.hid hR; clear hR
  obtain ⟨aa, na, ca, rfl, hna, hsa⟩ := ha.open
  obtain ⟨ab, nb, cb, rfl, hnb, hsb⟩ := hb.open
  obtain ⟨xs, hxs⟩ : ∃ xs, xs = dig W64 a := ⟨_, rfl⟩
  have hvx : val W64 xs = a := by rw [hxs]; exact val_dig W64_two _
  have hxd : ∀ d ∈ xs, d < W64 := by rw [hxs]; exact limb_lt _
  unfold IsN at hsa hsb
  rw [← hna] at hla
  rw [← hnb] at hlb
  rw [← hxs] at hsa hna
  have HNA := Lib.hid hna
  have HNB := Lib.hid hnb
  have HVX := Lib.hid hvx
  have HXD := Lib.hid hxd
  have HSA := Lib.hid hsa
  have HSB := Lib.hid hsb
  have HBLK := Lib.hid (Sl.off hsb (Nat.le_refl w.heap.size))
  have hw0 : IntKind.i64.wrap ((na : Int) + (nb : Int)) = ((na + nb : Nat) : Int) := by rw [IntWalk.i64_in _ (by omega)]; omega
  obtain ⟨n, hn⟩ : ∃ n, n = na + nb := ⟨_, rfl⟩
  rw [← hn] at hw0
  have HNN := Lib.hid hn
  have hnle : n ≤ 1000000000 := by omega
  clear ha hb hna hnb hxs hvx hxd hsa hsb hn
  go_enter Tryz.func85, Tryz.ntmps85
  go_wp2_with (at_make; go_must (refine wpList_makez _ rfl (.tmp 12) 47 rfl 110 .u64 8 Tryz.underlying47 info_u64 (by omega) .i64 _ n rfl rfl (by omega) ?_))
  intro W hA hbW hsW
  have HST : Hid (TimesRel w w.heap.size na nb xs b (.int .i64 0) W) := Lib.hid ⟨0, _, rfl, Nat.zero_le _, hA, by simp [HNN.out], zeros_lt W64_two _, by simp [List.drop_replicate, HNN.out], by rw [val_zeros]; simp [val], hbW, hsW⟩
  clear hA hbW hsW hw0
  go_wp2
  go_loopw [16] (fun i wr => TimesRel w w.heap.size na nb xs b i wr) (fun i _ => na - (intOf i).toNat)
  case atStart => exact HST.out
  case round =>
    clear HST
    obtain ⟨k, rs, rfl, hk, hA, hrl, hrs, hrd, hrv, hbel, hsz⟩ := hrel
    have HRL := Lib.hid hrl
    have HRS := Lib.hid hrs
    have HRD := Lib.hid hrd
    have HRV := Lib.hid hrv
    have HB := Lib.hid hbel
    have HSZ := Lib.hid hsz
    clear hrl hrs hrd hrv hsz
    by_cases hkn : k = na
    · subst hkn
      have HF : Hid (val W64 rs = a * b) := Lib.hid (by rw [HRV.out, HNA.out, List.take_length, HVX.out])
      clear hbel
      go_wp2_with fail
      refine trimmed_any _ rs _ (hA.sl _ _ (by rw [HRL.out]; exact HNN.out) (Nat.le_refl _)) HRS.out (by rw [HRL.out, ← HNN.out]; omega) _ ?_
      intro v' hv' _
      rw [HF.out] at hv'
      dsimp only
      go_wp2
      first | go_ret | skip
      exact HR.out _ _ hv' HB.out
    · have hkl : k < na := by omega
      obtain ⟨b1, o1, rfl, hb1, hc1⟩ := Sl.at HSA.out k hkl
      rw [← hbel.cell (p := ⟨b1, o1 + k, none⟩) hb1] at hc1
      obtain ⟨x, hx⟩ : ∃ x, x = xs.getD k 0 := ⟨_, rfl⟩
      rw [← hx] at hc1
      have HX := Lib.hid hx
      have HXL := Lib.hid (show x < W64 by rw [hx]; exact getD_lt (by rw [W64_eq]; omega) _ HXD.out _)
      have hw1 : IntKind.i64.wrap ((k : Int) + (nb : Int)) = ((k + nb : Nat) : Int) := by rw [IntWalk.i64_in _ (by have := HNN.out; omega)]; omega
      have hw2 : IntKind.i64.wrap ((k : Int) + 1) = ((k + 1 : Nat) : Int) := by rw [IntWalk.i64_in _ (by omega)]; omega
      obtain ⟨j, hj⟩ : ∃ j, j = k + nb := ⟨_, rfl⟩
      rw [← hj] at hw1
      have HJ := Lib.hid hj
      have hjn : (j : Int) < (n : Int) := by have := HNN.out; omega
      have hj0 : (0 : Int) ≤ (j : Int) := by omega
      have hkn2 : (k : Int) ≤ (n : Int) := by have := HNN.out; omega
      have hk0 : (0 : Int) ≤ (k : Int) := by omega
      have hkc : ¬ n = k := by have := HNN.out; omega
      have HSBr := Lib.hid (HSB.out.later hbel (Nat.le_refl _))
      have HK := Lib.hid hkl
      clear hx hj hbel
      go_wp2_with fail
      refine addp_any w.heap.size k (n - k) (n - k) rs (dig W64 b) _ x _ hA HSBr.out HBLK.out (by rw [HRL.out, ← HNB.out]; omega) (by rw [← HNB.out]; have := HNN.out; omega) HRS.out (limb_lt _) HXL.out (by rw [HRL.out]; have := HNN.out; omega) _ ?_
      intro zs c w1 hz1 hz2 hz3 hz4 hz5 hz6 hz7 hz8 hz9
      rw [val_dig W64_two, ← HNB.out] at hz6
      rw [← HNB.out] at hz5
      have hREL := times_rel w wr w1 w.heap.size na nb k x b c xs rs zs (c : Int) HK.out HNA.out.symm HX.out HRL.out HRD.out HRV.out hz1 hz2 hz3 hz5 hz6 hz7 HB.out HSZ.out hz8 hz9 rfl rfl
      rw [← HJ.out] at hREL
      have HREL := Lib.hid hREL
      have hcj := hz1.cell j (by rw [hz2, HRL.out, HJ.out]; have := HK.out; omega)
      have hfj := hz1.frozen j
      clear hz1 hz2 hz3 hz4 hz5 hz6 hz7 hz8 hz9 hREL
      dsimp only
      go_wp2
      go_roundw
      case rel => exact HREL.out
      case measure => simp [intOf]; have := HK.out; omega
end Go.Proofs.YtbglfendcpbjpaaGreatDoor

namespace Go.Proofs.YtbglfendcpbjpaaGreatDoor
open Go Go.RowKit

theorem sgn_of (z : Int) : z = sgn (decide (z < 0)) z.natAbs := by
  unfold sgn
  by_cases h : z < 0
  · simp [h]; omega
  · simp [h]; omega

theorem sgn_mul (z : Int) (b : Nat) : sgn (decide (z < 0)) (z.natAbs * b) = z * (b : Int) := by
  have h := sgn_of z
  unfold sgn at *
  by_cases hz : z < 0
  · simp [hz] at h ⊢
    rw [← Int.neg_mul, ← h]
  · simp [hz] at h ⊢
    rw [← h]

theorem IsI.parts {w : World} {v : Value} {z : Int} (h : IsI w v z) : ∃ ng a n c, ng = decide (z < 0) ∧ v = .agg #[.bool ng, .slice a n c] ∧ IsN w (.slice a n c) z.natAbs := by
  obtain ⟨s, rfl, hs⟩ := h
  obtain ⟨a, n, c, rfl, hs'⟩ := hs.op
  exact ⟨_, a, n, c, rfl, rfl, hs'⟩

theorem IsI.mk {w : World} {s : Value} {z : Int} {ng : Bool} (hng : ng = decide (z < 0)) (hs : IsN w s z.natAbs) : IsI w (.agg #[.bool ng, s]) z := ⟨s, by rw [hng], hs⟩

theorem IsR.parts {w : World} {v : Value} {q : Rat} (h : IsR w v q) : ∃ ng a1 n1 c1 a2 n2 c2, ng = decide (q.num < 0) ∧ v = .agg #[.bool ng, .slice a1 n1 c1, .slice a2 n2 c2] ∧ IsN w (.slice a1 n1 c1) q.num.natAbs ∧ IsN w (.slice a2 n2 c2) q.den := by
  obtain ⟨s1, s2, rfl, h1, h2⟩ := h
  obtain ⟨a1, n1, c1, rfl, h1'⟩ := h1.op
  obtain ⟨a2, n2, c2, rfl, h2'⟩ := h2.op
  exact ⟨_, a1, n1, c1, a2, n2, c2, rfl, rfl, h1', h2'⟩

set_option maxRecDepth 100000 in
set_option maxHeartbeats 4000000 in
theorem scaled_any (va vb : Value) (z : Int) (b : Nat) (w : World) (ha : IsI w va z) (hb : IsN w vb b) (hla : (dig W64 z.natAbs).length ≤ 10000000) (hlb : (dig W64 b).length ≤ 10000000) (R : Ending → World → Prop)
    (hR : ∀ v' w', IsI w' v' (z * (b : Int)) → Below w.heap.size w w' → R (.returned v') w') :
    Calls Tryz.prog 82 #[va, vb] w R := by
  have HR := Lib.hid hR; clear hR
  obtain ⟨ng, a1, n1, c1, hng, rfl, hn1⟩ := ha.parts
  obtain ⟨a2, n2, c2, rfl, hn2⟩ := hb.op
  have HNG := Lib.hid hng
  obtain ⟨L, hL⟩ : ∃ L, L = (w.alloc (.cells #[.bool ng, .slice a1 n1 c1] 50)).alloc (.cells #[.bool false, .slice none 0 0] 50) := ⟨_, rfl⟩
  have hb1 : Below (w.heap.size + 1) (w.alloc (.cells #[.bool ng, .slice a1 n1 c1] 50)) L := by rw [hL]; exact (Below.refl _ _).alloc (by simp) _
  have B0 : Box2 L w.heap.size (.bool ng) (.slice a1 n1 c1) 50 := (Box2.made w _ _ _).later hb1 (by omega)
  have B1 : Box2 L (w.heap.size + 1) (.bool false) (.slice none 0 0) 50 := by
    have := Box2.made (w.alloc (.cells #[.bool ng, .slice a1 n1 c1] 50)) (.bool false) (.slice none 0 0) 50
    rw [World.size_alloc, ← hL] at this; exact this
  have HEXT : Hid (Below w.heap.size w L) := Lib.hid (by rw [hL]; exact ((Below.refl w.heap.size w).alloc (Nat.le_refl _) _).alloc (by simp) _)
  have hLs : L.heap.size = w.heap.size + 2 := by rw [hL]; simp
  have hk : w.heap.size + 1 < L.heap.size := by omega
  have HL := Lib.hid hL
  have Y1 := Lib.hid (hn1.later HEXT.out (Nat.le_refl _))
  have Y2 := Lib.hid (hn2.later HEXT.out (Nat.le_refl _))
  have HLN := Lib.hid (And.intro hla hlb)
  have HSOF : Hid (∀ w', Below (w.heap.size + 1) L w' → (Below (w.heap.size + 1) L w' ∧ w'.cell? ⟨w.heap.size, 0, none⟩ = some (.bool ng) ∧ w'.cell? ⟨w.heap.size, 1, none⟩ = some (.slice a1 n1 c1))) :=
    Lib.hid fun w' hb => ⟨hb, (B0.later hb (by omega)).cells.1, (B0.later hb (by omega)).cells.2.1⟩
  have HB1 := Lib.hid B1
  have HK := Lib.hid hk
  clear hng ha hb hn1 hn2 hla hlb hb1 B0 B1 hL hLs hk
  go_enter Tryz.func82, Tryz.ntmps82
  go_wp2_with fail
  rw [← HL.out]
  go_region_held3 (fun w' => Below (w.heap.size + 1) L w' ∧ w'.cell? ⟨w.heap.size, 0, none⟩ = some (.bool ng) ∧ w'.cell? ⟨w.heap.size, 1, none⟩ = some (.slice a1 n1 c1))
    (first
      | exact HSOF.out _ HQ2.out
      | exact HSOF.out _ HQ1.out
      | exact HSOF.out _ (Below.refl _ _).drew
      | exact HSOF.out _ ((HQ2.out.setCell (by simp) _).setCell (by simp) _))
    (first
      | (go_at_call 63; refine integerOf_z ng v1 (z.natAbs * b) _ HV1.out _ ?_; intro v2 w2 hv2 hb2; rw [HNG.out, sgn_mul] at hv2; obtain ⟨m2, a5, m5, c5, hm2, rfl, hn5⟩ := hv2.parts; have HV5 := Lib.hid hn5; have HM2 := Lib.hid hm2; have HT2 := Lib.hid (HT1.out.trans (hb2.mono HT1.out.size)); have HQ2 := Lib.hid (HT2.out.mono (Nat.le_of_lt HK.out)); have d2 := HB1.out.later HT2.out HK.out; obtain ⟨hR0, hR1, hR2, hR3⟩ := d2.cells; have HD2 := Lib.hid d2; clear hv2 hb2 d2 hn5 hm2; dsimp only)
      | (go_at_call 85; refine ntimes_any _ _ z.natAbs b _ (Y1.out.later (Below.refl _ _).drew (Nat.le_refl _)) (Y2.out.later (Below.refl _ _).drew (Nat.le_refl _)) (Nat.le_trans HLN.out.1 (by omega)) (Nat.le_trans HLN.out.2 (by omega)) _ ?_; intro v1 w1 hv1 hb1; have HV1 := Lib.hid hv1; have HT1 : Hid (Below L.heap.size L w1) := Lib.hid (below_unDrew hb1); have HQ1 := Lib.hid (HT1.out.mono (Nat.le_of_lt HK.out)); clear hv1 hb1; dsimp only))
  all_goals
    go_wp2
    refine bodyPost_ret_at (by simp [results, Tryz.results82, go_sem, hR0, hR1, hR2, hR3] <;> rfl) rfl ?_
    refine HR.out _ _ (IsI.mk HM2.out (HV5.out.set2 (HD2.out.noInt rfl rfl) _ _ rfl)) ((((HEXT.out.trans (HT2.out.mono HEXT.out.size)).setCell (by simp) _).setCell (by simp) _))
end Go.Proofs.YtbglfendcpbjpaaGreatDoor

namespace Go.Proofs.YtbglfendcpbjpaaGreatDoor
open Go Go.RowKit

theorem IsR.drew {w : World} {v : Value} {q : Rat} (h : IsR w v q) : IsR w.drew v q := h
theorem NoInt.set3 {w : World} {b c : Nat} (h : NoInt w b) {y0 y1 y2 : Value} (h0 : notInt y0 = true) (h1 : notInt y1 = true) (h2 : notInt y2 = true) : NoInt (((w.setCell ⟨c, 0, none⟩ y0).setCell ⟨c, 1, none⟩ y1).setCell ⟨c, 2, none⟩ y2) b :=
  ((h.set 0 c h0).set 1 c h1).set 2 c h2
theorem IsR.set3 {w : World} {v : Value} {q : Rat} (h : IsR w v q) {b : Nat} (hb : NoInt w b) (y0 y1 y2 : Value) (h0 : notInt y0 = true) (h1 : notInt y1 = true) : IsR (((w.setCell ⟨b, 0, none⟩ y0).setCell ⟨b, 1, none⟩ y1).setCell ⟨b, 2, none⟩ y2) v q := by
  obtain ⟨s1, s2, e, h3, h4⟩ := h
  exact ⟨s1, s2, e, h3.set3 hb _ _ _ h0 h1, h4.set3 hb _ _ _ h0 h1⟩

set_option maxRecDepth 100000 in
set_option maxHeartbeats 4000000 in
theorem read2_any (s t : ByteArray) (w : World) (hE : Env w) (R : Ending → World → Prop)
    (hR : ∀ va vb a b w', numO s.data.toList = some a → numO t.data.toList = some b → IsR w' va a → IsR w' vb b → Below w.heap.size w w' → R (.returned (.tuple #[va, vb, .nilIface])) w')
    (hR2 : ∀ e w', (numO s.data.toList = none ∨ numO t.data.toList = none) → ErrV e → Below w.heap.size w w' → R (.returned (.tuple #[zeroR, zeroR, e])) w') :
    Calls Tryz.prog 48 #[.string s, .string t] w R := by
  have HR := Lib.hid hR; clear hR
  have HR2 := Lib.hid hR2; clear hR2
  have HE := Lib.hid hE; clear hE
  obtain ⟨L, hL⟩ : ∃ L, L = (w.alloc (.cells #[.bool false, .slice none 0 0, .slice none 0 0] 52)).alloc (.cells #[.bool false, .slice none 0 0, .slice none 0 0] 52) := ⟨_, rfl⟩
  have hb1 : Below (w.heap.size + 1) (w.alloc (.cells #[.bool false, .slice none 0 0, .slice none 0 0] 52)) L := by rw [hL]; exact (Below.refl _ _).alloc (by simp) _
  have B0 : Hid (Box3 L w.heap.size (.bool false) (.slice none 0 0) (.slice none 0 0) 52) := Lib.hid ((Box3.made w _ _ _ _).later hb1 (by omega))
  have B1 : Hid (Box3 L (w.heap.size + 1) (.bool false) (.slice none 0 0) (.slice none 0 0) 52) := Lib.hid (by
    have := Box3.made (w.alloc (.cells #[.bool false, .slice none 0 0, .slice none 0 0] 52)) (.bool false) (.slice none 0 0) (.slice none 0 0) 52
    rw [World.size_alloc, ← hL] at this; exact this)
  have HEXT : Hid (Below w.heap.size w L) := Lib.hid (by rw [hL]; exact ((Below.refl w.heap.size w).alloc (Nat.le_refl _) _).alloc (by simp) _)
  have HLS : Hid (L.heap.size = w.heap.size + 2) := Lib.hid (by rw [hL]; simp)
  have HL := Lib.hid hL
  clear hb1 hL
  go_enter Tryz.func48, Tryz.ntmps48
  go_wp2_with fail
  rw [← HL.out]
  refine readq_any s L (HE.out.later HEXT.out (Nat.le_refl _)) _ ?_ ?_
  · intro v1 a w1 ha hv1 hb1
    obtain ⟨na, a1, n1, c1, a2, n2, c2, hna, rfl, hn1, hn2⟩ := hv1.parts
    obtain ⟨W, hW⟩ : ∃ W, W = w1.alloc (.cells #[.bool na, .slice a1 n1 c1, .slice a2 n2 c2] 52) := ⟨_, rfl⟩
    have hbW : Below w1.heap.size w1 W := by rw [hW]; exact (Below.refl _ _).alloc (Nat.le_refl _) _
    have hLW : Below L.heap.size L W := hb1.trans (hbW.mono hb1.size)
    have HLW := Lib.hid hLW
    have HBW := Lib.hid (HEXT.out.trans (hLW.mono HEXT.out.size))
    have B2 : Hid (Box3 W w1.heap.size (.bool na) (.slice a1 n1 c1) (.slice a2 n2 c2) 52) := Lib.hid (by rw [hW]; exact Box3.made _ _ _ _ _)
    have HQA : Hid (IsR W (.agg #[.bool na, .slice a1 n1 c1, .slice a2 n2 c2]) a) := Lib.hid (hv1.later hbW (Nat.le_refl _))
    have HA := Lib.hid ha
    have HW := Lib.hid hW
    have HWS : Hid (W.heap.size = w1.heap.size + 1) := Lib.hid (by rw [hW]; simp)
    have HL1 := Lib.hid hb1.size
    clear hb1 hbW hLW hW ha hv1 hna hn1 hn2
    dsimp only
    go_wp2_with fail
    rw [← HW.out]
    refine readq_any t W (HE.out.later HBW.out (Nat.le_refl _)) _ ?_ ?_
    · intro v2 b w2 hb hv2 hb2
      obtain ⟨nb, a3, n3, c3, a4, n4, c4, hnb, rfl, hn3, hn4⟩ := hv2.parts
      obtain ⟨V, hV⟩ : ∃ V, V = w2.alloc (.cells #[.bool nb, .slice a3 n3 c3, .slice a4 n4 c4] 52) := ⟨_, rfl⟩
      have hbV : Below w2.heap.size w2 V := by rw [hV]; exact (Below.refl _ _).alloc (Nat.le_refl _) _
      have hWV : Below W.heap.size W V := hb2.trans (hbV.mono hb2.size)
      have hLV : Below L.heap.size L V := HLW.out.trans (hWV.mono HLW.out.size)
      have HBV := Lib.hid (HBW.out.trans (hWV.mono HBW.out.size))
      have B3 : Hid (Box3 V w2.heap.size (.bool nb) (.slice a3 n3 c3) (.slice a4 n4 c4) 52) := Lib.hid (by rw [hV]; exact Box3.made _ _ _ _ _)
      have B2' := Lib.hid (B2.out.later hWV (lt_of_block B2.out))
      have B0' := Lib.hid (B0.out.later hLV (lt_of_block B0.out))
      have B1' := Lib.hid (B1.out.later hLV (lt_of_block B1.out))
      have HQA' := Lib.hid (HQA.out.later hWV (Nat.le_refl _))
      have HQB : Hid (IsR V (.agg #[.bool nb, .slice a3 n3 c3, .slice a4 n4 c4]) b) := Lib.hid (hv2.later hbV (Nat.le_refl _))
      have hs1 : w.heap.size + 2 ≤ w1.heap.size := by rw [← HLS.out]; exact HL1.out
      have hs2 : w1.heap.size + 1 ≤ w2.heap.size := by rw [← HWS.out]; exact hb2.size
      have HBB := Lib.hid hb
      have HV := Lib.hid hV
      obtain ⟨⟨hP0, hP1, hP2⟩, _, _, _⟩ := B2'.out.cells
      obtain ⟨⟨hQ0, hQ1, hQ2⟩, _, _, _⟩ := B3.out.cells
      obtain ⟨⟨hR0, hR1, hR2⟩, hF0, hF1, hF2⟩ := B0'.out.cells
      obtain ⟨⟨hS0, hS1, hS2⟩, hG0, hG1, hG2⟩ := B1'.out.cells
      have e1 : ¬ w1.heap.size = w.heap.size := by omega
      have e2 : ¬ w1.heap.size = w.heap.size + 1 := by omega
      have e3 : ¬ w2.heap.size = w.heap.size := by omega
      have e4 : ¬ w2.heap.size = w.heap.size + 1 := by omega
      have e5 : ¬ w.heap.size = w.heap.size + 1 := by omega
      have e6 : ¬ w.heap.size + 1 = w.heap.size := by omega
      clear hb2 hbV hWV hLV hV hb hv2 hnb hn3 hn4 hs1 hs2
      dsimp only
      go_wp2
      rw [← HV.out]
      go_region
      all_goals
        go_wp2
        refine bodyPost_ret_at (by simp [results, Tryz.results48, go_sem, hR0, hR1, hR2, hF0, hF1, hF2, hS0, hS1, hS2, hG0, hG1, hG2] <;> rfl) rfl ?_
        have n0 := B0'.out.noInt rfl rfl rfl
        have n1' := B1'.out.noInt rfl rfl rfl
        refine HR.out _ _ a b _ HA.out HBB.out (IsR.drew ?_) (IsR.drew ?_) (below_set3 (below_set3 HBV.out (Nat.le_refl _) _ _ _) (by omega) _ _ _).drew
        · exact IsR.set3 (IsR.set3 HQA'.out n0 _ _ _ rfl rfl) (NoInt.set3 n1' rfl rfl rfl) _ _ _ rfl rfl
        · exact IsR.set3 (IsR.set3 HQB.out n0 _ _ _ rfl rfl) (NoInt.set3 n1' rfl rfl rfl) _ _ _ rfl rfl
    · intro e w2 hb he hb2
      obtain ⟨t', p, rfl⟩ := he
      obtain ⟨V, hV⟩ : ∃ V, V = w2.alloc (.cells #[.bool false, .slice none 0 0, .slice none 0 0] 52) := ⟨_, rfl⟩
      have hbV : Below w2.heap.size w2 V := by rw [hV]; exact (Below.refl _ _).alloc (Nat.le_refl _) _
      have hWV : Below W.heap.size W V := hb2.trans (hbV.mono hb2.size)
      have hLV : Below L.heap.size L V := HLW.out.trans (hWV.mono HLW.out.size)
      have HBV := Lib.hid (HBW.out.trans (hWV.mono HBW.out.size))
      have B0' := Lib.hid (B0.out.later hLV (lt_of_block B0.out))
      have B1' := Lib.hid (B1.out.later hLV (lt_of_block B1.out))
      have HNN : Hid (numO s.data.toList = none ∨ numO t.data.toList = none) := Lib.hid (.inr hb)
      obtain ⟨⟨hR0, hR1, hR2⟩, hF0, hF1, hF2⟩ := B0'.out.cells
      obtain ⟨⟨hS0, hS1, hS2⟩, hG0, hG1, hG2⟩ := B1'.out.cells
      have e5 : ¬ w.heap.size = w.heap.size + 1 := by omega
      have e6 : ¬ w.heap.size + 1 = w.heap.size := by omega
      have HV := Lib.hid hV
      clear hb2 hbV hWV hLV hV hb
      rw [HV.out] at hR0 hR1 hR2 hF0 hF1 hF2 hS0 hS1 hS2 hG0 hG1 hG2
      unfold zeroR
      dsimp only
      go_wp2
      rw [← HV.out] at hR0 hR1 hR2 hF0 hF1 hF2 hS0 hS1 hS2 hG0 hG1 hG2
      try rw [← HV.out]
      refine bodyPost_ret_at (by simp [results, Tryz.results48, go_sem, hR0, hR1, hR2, hF0, hF1, hF2, hS0, hS1, hS2, hG0, hG1, hG2] <;> rfl) rfl ?_
      exact HR2.out _ _ HNN.out ⟨_, _, rfl⟩ (below_set3 (below_set3 HBV.out (Nat.le_refl _) _ _ _) (by omega) _ _ _)
  · intro e w1 ha he hb1
    obtain ⟨t', p, rfl⟩ := he
    obtain ⟨W, hW⟩ : ∃ W, W = w1.alloc (.cells #[.bool false, .slice none 0 0, .slice none 0 0] 52) := ⟨_, rfl⟩
    have hbW : Below w1.heap.size w1 W := by rw [hW]; exact (Below.refl _ _).alloc (Nat.le_refl _) _
    have hLW : Below L.heap.size L W := hb1.trans (hbW.mono hb1.size)
    have HBW := Lib.hid (HEXT.out.trans (hLW.mono HEXT.out.size))
    have B0' := Lib.hid (B0.out.later hLW (lt_of_block B0.out))
    have B1' := Lib.hid (B1.out.later hLW (lt_of_block B1.out))
    have HNN : Hid (numO s.data.toList = none ∨ numO t.data.toList = none) := Lib.hid (.inl ha)
    obtain ⟨⟨hR0, hR1, hR2⟩, hF0, hF1, hF2⟩ := B0'.out.cells
    obtain ⟨⟨hS0, hS1, hS2⟩, hG0, hG1, hG2⟩ := B1'.out.cells
    have e5 : ¬ w.heap.size = w.heap.size + 1 := by omega
    have e6 : ¬ w.heap.size + 1 = w.heap.size := by omega
    have HW := Lib.hid hW
    clear hb1 hbW hLW hW ha
    rw [HW.out] at hR0 hR1 hR2 hF0 hF1 hF2 hS0 hS1 hS2 hG0 hG1 hG2
    unfold zeroR
    dsimp only
    go_wp2
    rw [← HW.out] at hR0 hR1 hR2 hF0 hF1 hF2 hS0 hS1 hS2 hG0 hG1 hG2
    try rw [← HW.out]
    refine bodyPost_ret_at (by simp [results, Tryz.results48, go_sem, hR0, hR1, hR2, hF0, hF1, hF2, hS0, hS1, hS2, hG0, hG1, hG2] <;> rfl) rfl ?_
    exact HR2.out _ _ HNN.out ⟨_, _, rfl⟩ (below_set3 (below_set3 HBW.out (Nat.le_refl _) _ _ _) (by omega) _ _ _)
end Go.Proofs.YtbglfendcpbjpaaGreatDoor

namespace Go.Proofs.YtbglfendcpbjpaaGreatDoor
open Go Go.RowKit

set_option maxRecDepth 100000 in
theorem give_any (v : Value) (q : Rat) (w : World) (hq : IsQ w v q) (hl1 : (dig 10000 q.num.natAbs).length ≤ 1000000000) (hl2 : (dig 10000 q.den).length ≤ 1000000000) (R : Ending → World → Prop)
    (hR : ∀ w', few q → Below w.heap.size w w' → R (.returned (.tuple #[.string ⟨(textQ q).toArray⟩, .bool true])) w')
    (hR2 : ∀ w', ¬ few q → Below w.heap.size w w' → R (.returned (.tuple #[.string ⟨#[]⟩, .bool false])) w') :
    Calls Tryz.prog 37 #[v] w R := by
  have HR := Lib.hid hR; clear hR
  have HR2 := Lib.hid hR2; clear hR2
  obtain ⟨na, a1, n1, c1, a2, n2, c2, rfl, hz1, hz2⟩ := hq.parts
  obtain ⟨L, hL⟩ : ∃ L, L = w.alloc (.cells #[.bool na, .slice a1 n1 c1, .bool false, .slice a2 n2 c2] 41) := ⟨_, rfl⟩
  have B0 : Hid (Box4 L w.heap.size (.bool na) (.slice a1 n1 c1) (.bool false) (.slice a2 n2 c2) 41) := Lib.hid (by rw [hL]; exact Box4.made w _ _ _ _ _)
  have HEXT : Hid (Below w.heap.size w L) := Lib.hid (by rw [hL]; exact (Below.refl w.heap.size w).alloc (Nat.le_refl _) _)
  have HLT : Hid (w.heap.size < L.heap.size) := Lib.hid (by rw [hL]; simp)
  have HL := Lib.hid hL
  have HQ := Lib.hid (hq.later HEXT.out (Nat.le_refl _))
  have HLL := Lib.hid (And.intro hl1 hl2)
  obtain ⟨⟨hA, hB, hC, hD⟩, _, _, _, _⟩ := B0.out.cells
  rw [hL] at hA hB hC hD
  clear hq hz1 hz2 hl1 hl2 hL
  go_enter Tryz.func37, Tryz.ntmps37
  go_wp2_with fail
  rw [← HL.out]
  refine fitQ_any _ q _ HQ.out HLL.out.1 HLL.out.2 _ ?_
  intro w1 hb1
  have HB1 := Lib.hid hb1
  have k1 := B0.out.later hb1 HLT.out
  clear hA hB hC hD
  obtain ⟨⟨hA, hB, hC, hD⟩, _, _, _, _⟩ := k1.cells
  clear k1
  obtain ⟨x, hx⟩ : ∃ x, x = (decide ((decs q.num.natAbs).length ≤ 60) && decide ((decs q.den).length ≤ 60)) := ⟨_, rfl⟩
  rw [← hx]
  cases x with
  | true =>
    have HF : Hid (few q) := Lib.hid (by
      have h := hx.symm
      rw [Bool.and_eq_true, decide_eq_true_iff, decide_eq_true_iff] at h
      exact h)
    clear hx hb1
    dsimp only
    go_wp2_with fail
    refine text_any _ q _ (HQ.out.later HB1.out (Nat.le_refl _)) HLL.out.1 HLL.out.2 _ ?_
    intro w2 hb2
    have HB2 := Lib.hid (HB1.out.trans (hb2.mono HB1.out.size))
    obtain ⟨T, hT⟩ : ∃ T, T = textQ q := ⟨_, rfl⟩
    rw [← hT] at HR ⊢
    clear hT hb2
    dsimp only
    go_wp2
    first | go_ret | skip
    exact HR.out _ HF.out (HEXT.out.trans (HB2.out.mono HEXT.out.size))
  | false =>
    have HF : Hid (¬ few q) := Lib.hid (by
      intro hf
      have h : (decide ((decs q.num.natAbs).length ≤ 60) && decide ((decs q.den).length ≤ 60)) = true := by
        rw [Bool.and_eq_true, decide_eq_true_iff, decide_eq_true_iff]; exact hf
      rw [h] at hx; cases hx)
    clear hx hb1
    dsimp only
    go_wp2
    first | go_ret | skip
    exact HR2.out _ HF.out (HEXT.out.trans (HB1.out.mono HEXT.out.size))
end Go.Proofs.YtbglfendcpbjpaaGreatDoor

namespace Go.Proofs.YtbglfendcpbjpaaGreatDoor
open Go Go.RowKit

set_option maxRecDepth 100000 in
set_option maxHeartbeats 4000000 in
theorem rtext_any (v : Value) (q : Rat) (w : World) (h : IsR w v q) (htab : Lib.TabIs Tryz.prog w "internal/strconv.uint64pow10" .u64 Lib.pow10Tab) (R : Ending → World → Prop)
    (hR : ∀ w', few q → Below w.heap.size w w' → R (.returned (.tuple #[.string ⟨(textQ q).toArray⟩, .bool true])) w')
    (hR2 : ∀ w', ¬ few q → Below w.heap.size w w' → R (.returned (.tuple #[.string ⟨#[]⟩, .bool false])) w') :
    Calls Tryz.prog 51 #[v] w R := by
  have HR := Lib.hid hR; clear hR
  have HR2 := Lib.hid hR2; clear hR2
  obtain ⟨na, a1, n1, c1, a2, n2, c2, hna, rfl, hn1, hn2⟩ := h.parts
  obtain ⟨L, hL⟩ : ∃ L, L = w.alloc (.cells #[.bool na, .slice a1 n1 c1, .slice a2 n2 c2] 52) := ⟨_, rfl⟩
  have B0 : Hid (Box3 L w.heap.size (.bool na) (.slice a1 n1 c1) (.slice a2 n2 c2) 52) := Lib.hid (by rw [hL]; exact Box3.made w _ _ _ _)
  have HEXT : Hid (Below w.heap.size w L) := Lib.hid (by rw [hL]; exact (Below.refl w.heap.size w).alloc (Nat.le_refl _) _)
  have hLs : L.heap.size = w.heap.size + 1 := by rw [hL]; simp
  have HLS := Lib.hid hLs
  have HL := Lib.hid hL
  have HN := Lib.hid (hn1.later HEXT.out (Nat.le_refl _))
  have HDD := Lib.hid (hn2.later HEXT.out (Nat.le_refl _))
  have HTAB := Lib.hid (tab_later htab HEXT.out (Nat.le_refl _))
  have HNA := Lib.hid hna
  obtain ⟨⟨hA, hB, hC⟩, _, _, _⟩ := B0.out.cells
  rw [hL] at hA hB hC
  clear h hn1 hn2 htab hna hL hLs
  go_enter Tryz.func51, Tryz.ntmps51
  go_wp2_with fail
  rw [← HL.out]
  refine digits_any _ q.num.natAbs L HN.out HTAB.out _ ?_ ?_
  · intro w1 hl1 hb1
    have HL1 := Lib.hid hl1
    have HB1 := Lib.hid hb1
    obtain ⟨s1, hs1⟩ : ∃ s : ByteArray, s = ⟨(decs q.num.natAbs).toArray⟩ := ⟨_, rfl⟩
    rw [← hs1]
    have HS1D : Hid (s1.data.toList = decs q.num.natAbs) := Lib.hid (by rw [hs1])
    have HS1 : Hid (s1.size ≤ 60) := Lib.hid (by rw [← size_list, HS1D.out]; exact hl1)
    have k1 := B0.out.later hb1 (by have := HLS.out; omega)
    clear hA hB hC hl1 hb1 hs1
    obtain ⟨⟨hA, hB, hC⟩, _, _, _⟩ := k1.cells
    clear k1
    dsimp only
    go_wp2_with fail
    refine digits_any _ q.den _ (HDD.out.later HB1.out (Nat.le_refl _)) (tab_later HTAB.out HB1.out (Nat.le_refl _)) _ ?_ ?_
    · intro w2 hl2 hb2
      have HFEW : Hid (few q) := Lib.hid ⟨HL1.out, hl2⟩
      have HB2 := Lib.hid (HB1.out.trans (hb2.mono HB1.out.size))
      obtain ⟨s2, hs2⟩ : ∃ s : ByteArray, s = ⟨(decs q.den).toArray⟩ := ⟨_, rfl⟩
      rw [← hs2]
      have HS2D : Hid (s2.data.toList = decs q.den) := Lib.hid (by rw [hs2])
      have HS2 : Hid (s2.size ≤ 60) := Lib.hid (by rw [← size_list, HS2D.out]; exact hl2)
      clear hA hB hC hl2 hb2 hs2
      obtain ⟨b, hb⟩ : ∃ b, b = w2.heap.size := ⟨_, rfl⟩
      obtain ⟨W3, hW3⟩ : ∃ W3, W3 = w2.alloc (.cells #[.pointer none, .slice none 0 0] 94) := ⟨_, rfl⟩
      have HW3 := Lib.hid hW3
      have HBD := Lib.hid hb
      have HIB3 : Hid (IsB W3 b []) := Lib.hid (by rw [hW3, hb]; exact IsB.fresh w2)
      have HB23 : Hid (Below b w2 W3) := Lib.hid (by rw [hW3, hb]; exact (Below.refl _ _).alloc (Nat.le_refl _) _)
      have HBW : Hid (Below w.heap.size w w2) := Lib.hid (HEXT.out.trans (HB2.out.mono HEXT.out.size))
      have HLT : Hid (w.heap.size < b ∧ L.heap.size ≤ b ∧ w2.heap.size = b) := Lib.hid (by have := HLS.out; have := HB2.out.size; omega)
      have HBOX : Hid (Box3 w2 w.heap.size (.bool na) (.slice a1 n1 c1) (.slice a2 n2 c2) 52) := Lib.hid (B0.out.later HB2.out (by have := HLS.out; omega))
      have HD : Hid (IsN w2 (.slice a2 n2 c2) q.den) := Lib.hid (HDD.out.later HB2.out (Nat.le_refl _))
      have k3 := HBOX.out.later HB23.out (by have := HLT.out; omega)
      obtain ⟨⟨hA, hB, hC⟩, _, _, _⟩ := k3.cells
      rw [hW3] at hA hB hC
      clear k3 hW3
      cases na with
      | true =>
        have HNEG : Hid (q.num < 0) := Lib.hid (of_decide_eq_true HNA.out.symm)
        dsimp only
        go_wp2_with fail
        rw [← HW3.out, ← hb]
        refine bwb_any b [] 45 45 rfl _ HIB3.out (by simp) _ ?_
        intro w4 hib4 hb4
        have HBS := Lib.hid (HB23.out.trans hb4)
        have HIBS : Hid (IsB w4 b [45]) := Lib.hid hib4
        clear hA hB hC hb hib4 hb4
        dsimp only
        go_wp2_with fail
        refine bws_any b [45] s1 _ HIBS.out (by simp; have := HS1.out; omega) _ ?_
        intro w5 hib5 hb5
        have HB5 := Lib.hid (HBS.out.trans hb5)
        have HIB5 := Lib.hid hib5
        have k5 := HBOX.out.later HB5.out (by have := HLT.out; omega)
        obtain ⟨⟨hA, hB, hC⟩, _, _, _⟩ := k5.cells
        clear hib5 hb5
        dsimp only
        go_wp2_with fail
        refine none_any _ q.den _ (HD.out.later HB5.out (by have := HLT.out; omega)) _ ?_
        by_cases hd1 : q.den = 1
        · have hdd : decide (q.den = 1) = true := decide_eq_true hd1
          have HTX : Hid (textQ q = [45] ++ s1.data.toList) := Lib.hid (by unfold textQ; rw [if_pos HNEG.out, HS1D.out, if_pos hd1]; simp)
          rw [hdd]
          clear hdd hd1 hA hB hC
          dsimp only
          go_wp2_with fail
          refine bstr_any b _ _ HIB5.out _ ?_
          intro w6 hb6
          have HB6 := Lib.hid (HB5.out.trans hb6)
          rw [← HTX.out]
          obtain ⟨T, hT⟩ : ∃ T, T = textQ q := ⟨_, rfl⟩
          rw [← hT] at HR ⊢
          clear hT hb6
          dsimp only
          go_wp2
          first | go_ret | skip
          exact HR.out _ HFEW.out (HBW.out.trans (HB6.out.mono (by have := HLT.out; omega)))
        · have hdd : decide (q.den = 1) = false := decide_eq_false hd1
          have HTX : Hid (textQ q = (([45] ++ s1.data.toList) ++ [47]) ++ s2.data.toList) := Lib.hid (by unfold textQ; rw [if_pos HNEG.out, HS1D.out, HS2D.out, if_neg hd1]; simp)
          rw [hdd]
          clear hdd hd1 hA hB hC
          dsimp only
          go_wp2_with fail
          refine bwb_any b _ 47 47 rfl _ HIB5.out (by have := HS1.out; simp; have := size_list s1; simp only [Array.length_toList] at this; omega) _ ?_
          intro w6 hib6 hb6
          have HB6 := Lib.hid (HB5.out.trans hb6)
          have HIB6 := Lib.hid hib6
          clear hib6 hb6
          dsimp only
          go_wp2_with fail
          refine bws_any b _ s2 _ HIB6.out (by have := HS1.out; have := HS2.out; simp; have := size_list s1; simp only [Array.length_toList] at this; omega) _ ?_
          intro w7 hib7 hb7
          have HB7 := Lib.hid (HB6.out.trans hb7)
          have HIB7 := Lib.hid hib7
          clear hib7 hb7
          dsimp only
          go_wp2_with fail
          refine bstr_any b _ _ HIB7.out _ ?_
          intro w8 hb8
          have HB8 := Lib.hid (HB7.out.trans hb8)
          rw [← HTX.out]
          obtain ⟨T, hT⟩ : ∃ T, T = textQ q := ⟨_, rfl⟩
          rw [← hT] at HR ⊢
          clear hT hb8
          dsimp only
          go_wp2
          first | go_ret | skip
          exact HR.out _ HFEW.out (HBW.out.trans (HB8.out.mono (by have := HLT.out; omega)))
      | false =>
        have HNEG : Hid (¬ q.num < 0) := Lib.hid (of_decide_eq_false HNA.out.symm)
        have HBS : Hid (Below b w2 W3) := Lib.hid HB23.out
        have HIBS : Hid (IsB W3 b []) := Lib.hid HIB3.out
        dsimp only
        go_wp2_with fail
        rw [← HW3.out, ← hb]
        clear hA hB hC hb
        refine bws_any b [] s1 _ HIBS.out (by simp; have := HS1.out; omega) _ ?_
        intro w5 hib5 hb5
        have HB5 := Lib.hid (HBS.out.trans hb5)
        have HIB5 := Lib.hid hib5
        have k5 := HBOX.out.later HB5.out (by have := HLT.out; omega)
        obtain ⟨⟨hA, hB, hC⟩, _, _, _⟩ := k5.cells
        clear hib5 hb5
        dsimp only
        go_wp2_with fail
        refine none_any _ q.den _ (HD.out.later HB5.out (by have := HLT.out; omega)) _ ?_
        by_cases hd1 : q.den = 1
        · have hdd : decide (q.den = 1) = true := decide_eq_true hd1
          have HTX : Hid (textQ q = [] ++ s1.data.toList) := Lib.hid (by unfold textQ; rw [if_neg (show ¬ q.num < 0 by have := HNEG.out; omega), HS1D.out, if_pos hd1]; simp)
          rw [hdd]
          clear hdd hd1 hA hB hC
          dsimp only
          go_wp2_with fail
          refine bstr_any b _ _ HIB5.out _ ?_
          intro w6 hb6
          have HB6 := Lib.hid (HB5.out.trans hb6)
          rw [← HTX.out]
          obtain ⟨T, hT⟩ : ∃ T, T = textQ q := ⟨_, rfl⟩
          rw [← hT] at HR ⊢
          clear hT hb6
          dsimp only
          go_wp2
          first | go_ret | skip
          exact HR.out _ HFEW.out (HBW.out.trans (HB6.out.mono (by have := HLT.out; omega)))
        · have hdd : decide (q.den = 1) = false := decide_eq_false hd1
          have HTX : Hid (textQ q = (([] ++ s1.data.toList) ++ [47]) ++ s2.data.toList) := Lib.hid (by unfold textQ; rw [if_neg (show ¬ q.num < 0 by have := HNEG.out; omega), HS1D.out, HS2D.out, if_neg hd1]; simp)
          rw [hdd]
          clear hdd hd1 hA hB hC
          dsimp only
          go_wp2_with fail
          refine bwb_any b _ 47 47 rfl _ HIB5.out (by have := HS1.out; simp; have := size_list s1; simp only [Array.length_toList] at this; omega) _ ?_
          intro w6 hib6 hb6
          have HB6 := Lib.hid (HB5.out.trans hb6)
          have HIB6 := Lib.hid hib6
          clear hib6 hb6
          dsimp only
          go_wp2_with fail
          refine bws_any b _ s2 _ HIB6.out (by have := HS1.out; have := HS2.out; simp; have := size_list s1; simp only [Array.length_toList] at this; omega) _ ?_
          intro w7 hib7 hb7
          have HB7 := Lib.hid (HB6.out.trans hb7)
          have HIB7 := Lib.hid hib7
          clear hib7 hb7
          dsimp only
          go_wp2_with fail
          refine bstr_any b _ _ HIB7.out _ ?_
          intro w8 hb8
          have HB8 := Lib.hid (HB7.out.trans hb8)
          rw [← HTX.out]
          obtain ⟨T, hT⟩ : ∃ T, T = textQ q := ⟨_, rfl⟩
          rw [← hT] at HR ⊢
          clear hT hb8
          dsimp only
          go_wp2
          first | go_ret | skip
          exact HR.out _ HFEW.out (HBW.out.trans (HB8.out.mono (by have := HLT.out; omega)))
    · intro s w2 hl2 hb2
      have HF : Hid (¬ few q) := Lib.hid fun h => hl2 h.2
      have HB2 := Lib.hid (HB1.out.trans (hb2.mono HB1.out.size))
      clear hA hB hC hl2 hb2
      dsimp only
      go_wp2
      first | go_ret | skip
      exact HR2.out _ HF.out (HEXT.out.trans (HB2.out.mono HEXT.out.size))
  · intro s w1 hl1 hb1
    have HF : Hid (¬ few q) := Lib.hid fun h => hl1 h.1
    have HB1 := Lib.hid hb1
    clear hA hB hC hl1 hb1
    dsimp only
    go_wp2
    first | go_ret | skip
    exact HR2.out _ HF.out (HEXT.out.trans (HB1.out.mono HEXT.out.size))
end Go.Proofs.YtbglfendcpbjpaaGreatDoor
