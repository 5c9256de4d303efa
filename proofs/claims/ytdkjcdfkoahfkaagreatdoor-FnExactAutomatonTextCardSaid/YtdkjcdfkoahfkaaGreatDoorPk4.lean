/- Contracts of functions of the program and of the model: Leh, Chunk, FmtU, Bld, Limb, W64, Half, Div64, Nat, But, AddP, TakeP, TimesP, DivS, Minus, Shift, ShiftD, TakeM. -/
import Derived.Test.YtdkjcdfkoahfkaaGreatDoorPk3
import Derived.Lib.AppendIntMem
import Derived.Lib.ItoaMem
import Derived.Shelf.Strings.Builder1
import Derived.Laws.Externs
import Derived.Shelf.Spec.BitsCarry
import Derived.Deep.CutBlock
import Derived.Deep.DeepCutAuto
import Derived.Laws.CopyOwn
set_option linter.all false
set_option linter.unusedVariables false
set_option linter.unusedSimpArgs false
set_option linter.unnecessarySimpa false
set_option linter.deprecated false
namespace Go.Proofs.YtdkjcdfkoahfkaaGreatDoor

/-- what holds of the coefficients of decided steps of Euclid's algorithm over the highest words A ≥ H; ev: the number k of steps is even -/
def LInv (A H k : Nat) (ev : Bool) (fA fB sA sB f s : Nat) : Prop :=
  f * sB + s * fB = A ∧ f * sA + s * fA = H ∧ s ≤ f ∧ (if ev then fA * sB = fB * sA + 1 else fB * sA = fA * sB + 1) ∧ sA ≤ sB ∧ k + 1 ≤ sB + (if k = 0 then 0 else 1) ∧
    (if k = 0 then fA = 1 ∧ fB = 0 ∧ sA = 0 ∧ sB = 1 ∧ ev = true else fA ≤ fB ∧ 1 ≤ fB)

/-- the two numbers with which the steps end -/
def LTrue (ev : Bool) (a b fA fB sA sB tf ts : Nat) : Prop :=
  if ev then fA * a = fB * b + tf ∧ sB * b = sA * a + ts else fB * b = fA * a + tf ∧ sA * a = sB * b + ts

theorem LInv.start (A H : Nat) (h : H ≤ A) : LInv A H 0 true 1 0 0 1 A H := by
  unfold LInv; simp; omega

theorem LInv.sB_pos {A H k : Nat} {ev : Bool} {fA fB sA sB f s : Nat} (h : LInv A H k ev fA fB sA sB f s) : 1 ≤ sB := by
  obtain ⟨_, _, _, _, _, h, h2⟩ := h
  by_cases hk : k = 0
  · rw [if_pos hk] at h2; omega
  · rw [if_neg hk] at h; omega

theorem LInv.sum_le {A H k : Nat} {ev : Bool} {fA fB sA sB f s : Nat} (h : LInv A H k ev fA fB sA sB f s) (hs : 1 ≤ s) : fB + sB ≤ A ∧ 1 ≤ sB ∧ s ≤ f := by
  have hp := h.sB_pos
  obtain ⟨h1, h2, h3, h4, h5, h6, h7⟩ := h
  have e1 : 1 * sB ≤ f * sB := Nat.mul_le_mul_right _ (by omega)
  have e2 : 1 * fB ≤ s * fB := Nat.mul_le_mul_right _ hs
  omega

theorem LInv.count {A H k : Nat} {ev : Bool} {fA fB sA sB f s : Nat} (h : LInv A H k ev fA fB sA sB f s) (hs : sB ≤ s) : k * k ≤ A := by
  have hp := h.sB_pos
  obtain ⟨h1, h2, h3, h4, h5, h6, h7⟩ := h
  have hk : k ≤ sB := by split at h6 <;> omega
  have e1 : k * k ≤ f * sB := Nat.mul_le_mul (by omega) hk
  omega

theorem LInv.step {A H k : Nat} {ev : Bool} {fA fB sA sB f s : Nat} (h : LInv A H k ev fA fB sA sB f s) (hs : sB ≤ s) :
    LInv A H (k + 1) (!ev) sA sB (fA + f / s * sA) (fB + f / s * sB) s (f % s) ∧ fB + f / s * sB ≤ A ∧ fA + f / s * sA ≤ A := by
  have hp := h.sB_pos
  obtain ⟨h1, h2, h3, h4, h5, h6, h7⟩ := h
  have hq : 1 ≤ f / s := (Nat.le_div_iff_mul_le (by omega)).2 (by omega)
  have hdm := Nat.div_add_mod f s
  have hml := Nat.mod_lt f (show 0 < s by omega)
  generalize f / s = q at *
  generalize f % s = r at *
  have e1 : s * (fB + q * sB) + r * sB = A := by rw [← h1, ← hdm]; grind
  have e2 : s * (fA + q * sA) + r * sA = H := by rw [← h2, ← hdm]; grind
  have m1 : q * sA ≤ q * sB := Nat.mul_le_mul_left _ h5
  have m2 : 1 * sB ≤ q * sB := Nat.mul_le_mul_right _ hq
  have hle : fA + q * sA ≤ fB + q * sB := by
    by_cases hk : k = 0
    · rw [if_pos hk] at h7
      obtain ⟨ha, hb, hc, hd, _⟩ := h7
      subst ha hb hc hd; omega
    · rw [if_neg hk] at h7; omega
  have hb : fB + q * sB ≤ A := by
    have : 1 * (fB + q * sB) ≤ s * (fB + q * sB) := Nat.mul_le_mul_right _ (by omega)
    omega
  refine ⟨⟨e1, e2, by omega, ?_, hle, ?_, ?_⟩, hb, by omega⟩
  · cases ev
    · simp at h4 ⊢; grind
    · simp at h4 ⊢; grind
  · rw [if_neg (by omega)]
    by_cases hk : k = 0
    · rw [if_pos hk] at h7; omega
    · rw [if_neg hk] at h6 h7; omega
  · rw [if_neg (by omega)]; omega

theorem gcd_combo (a b x y p q r t : Nat) (hx : p * b = q * a + x) (hy : r * a = t * b + y) (hdet : p * r = q * t + 1) : Nat.gcd x y = Nat.gcd a b := by
  have ha : t * x + p * y = a := by grind
  have hb : r * x + q * y = b := by grind
  apply Nat.dvd_antisymm
  · have h1 := Nat.gcd_dvd_left x y
    have h2 := Nat.gcd_dvd_right x y
    apply Nat.dvd_gcd
    · rw [← ha]; exact Nat.dvd_add (Nat.dvd_mul_left_of_dvd h1 _) (Nat.dvd_mul_left_of_dvd h2 _)
    · rw [← hb]; exact Nat.dvd_add (Nat.dvd_mul_left_of_dvd h1 _) (Nat.dvd_mul_left_of_dvd h2 _)
  · have h1 := Nat.gcd_dvd_left a b
    have h2 := Nat.gcd_dvd_right a b
    apply Nat.dvd_gcd
    · exact (Nat.dvd_add_right (Nat.dvd_mul_left_of_dvd h1 q)).1 (hx ▸ Nat.dvd_mul_left_of_dvd h2 p)
    · exact (Nat.dvd_add_right (Nat.dvd_mul_left_of_dvd h2 t)).1 (hy ▸ Nat.dvd_mul_left_of_dvd h1 r)

/-- steps that the highest words decide are steps of the numbers themselves -/
theorem LInv.accept {A H k : Nat} {ev : Bool} {fA fB sA sB f s : Nat} (h : LInv A H k ev fA fB sA sB f s) (hs : sB ≤ s) (hd : fB + sB ≤ f - s) (T a b a0 b0 : Nat) (ha : a = A * T + a0) (hb : b = H * T + b0) (ha0 : a0 < T) (hb0 : b0 < T) :
    ∃ tf ts, LTrue ev a b fA fB sA sB tf ts ∧ ts < tf ∧ Nat.gcd tf ts = Nat.gcd a b := by
  have hp := h.sB_pos
  obtain ⟨h1, h2, h3, h4, h5, h6, h7⟩ := h
  have i1 : fB * b0 ≤ fB * T := Nat.mul_le_mul_left _ (by omega)
  have i2 : fB * T ≤ f * T := Nat.mul_le_mul_right _ (by omega)
  have i3 : sA * a0 ≤ sA * T := Nat.mul_le_mul_left _ (by omega)
  have i4 : sA * T ≤ s * T := Nat.mul_le_mul_right _ (by omega)
  have i5 : sB * b0 ≤ sB * T := Nat.mul_le_mul_left _ (by omega)
  have i6 : sB * T ≤ s * T := Nat.mul_le_mul_right _ (by omega)
  have i7 : (fB + sB + s) * T ≤ f * T := Nat.mul_le_mul_right _ (by omega)
  have i8 : sB * (b0 + 1) ≤ sB * T := Nat.mul_le_mul_left _ (by omega)
  have i9 : sA * T ≤ sB * T := Nat.mul_le_mul_right _ (by omega)
  cases ev
  · simp only [Bool.false_eq_true, if_false] at h4
    have hkne : k ≠ 0 := by intro hk; rw [if_pos hk] at h7; exact absurd h7.2.2.2.2 (by simp)
    rw [if_neg hkne] at h7
    have e1 : fB * H = fA * A + f := by rw [← h1, ← h2]; grind
    have e2 : sA * A = sB * H + s := by rw [← h1, ← h2]; grind
    have j1 : fA * a0 ≤ fA * T := Nat.mul_le_mul_left _ (by omega)
    have j2 : fA * T ≤ fB * T := Nat.mul_le_mul_right _ (by omega)
    have j3 : sA * (a0 + 1) ≤ sA * T := Nat.mul_le_mul_left _ (by omega)
    have ea : fB * b = fA * A * T + f * T + fB * b0 := by rw [hb, Nat.mul_add, ← Nat.mul_assoc, e1, Nat.add_mul]
    have eb : fA * a = fA * A * T + fA * a0 := by rw [ha, Nat.mul_add, ← Nat.mul_assoc]
    have ec : sA * a = sB * H * T + s * T + sA * a0 := by rw [ha, Nat.mul_add, ← Nat.mul_assoc, e2, Nat.add_mul]
    have ed : sB * b = sB * H * T + sB * b0 := by rw [hb, Nat.mul_add, ← Nat.mul_assoc]
    have hTpos : 1 ≤ T := by omega
    have j4 : 1 * T ≤ sB * T := Nat.mul_le_mul_right _ hp
    have j5 : fA * a0 + sA * a0 < fB * T + sB * T := by
      by_cases hz : sA = 0
      · subst hz; omega
      · have : sA * (a0 + 1) = sA * a0 + sA := by rw [Nat.mul_add, Nat.mul_one]
        omega
    rw [Nat.add_mul, Nat.add_mul] at i7
    obtain ⟨tf, htf⟩ : ∃ tf, fB * b = fA * a + tf := ⟨fB * b - fA * a, by omega⟩
    obtain ⟨ts, hts⟩ : ∃ ts, sA * a = sB * b + ts := ⟨sA * a - sB * b, by omega⟩
    refine ⟨tf, ts, by simp [LTrue, htf, hts], by omega, ?_⟩
    exact gcd_combo _ _ _ _ fB fA sA sB htf hts (by rw [h4])
  · simp only [if_true] at h4
    have e1 : fA * A = fB * H + f := by rw [← h1, ← h2]; grind
    have e2 : sB * H = sA * A + s := by rw [← h1, ← h2]; grind
    have ea : fA * a = fB * H * T + f * T + fA * a0 := by rw [ha, Nat.mul_add, ← Nat.mul_assoc, e1, Nat.add_mul]
    have eb : fB * b = fB * H * T + fB * b0 := by rw [hb, Nat.mul_add, ← Nat.mul_assoc]
    have ec : sB * b = sA * A * T + s * T + sB * b0 := by rw [hb, Nat.mul_add, ← Nat.mul_assoc, e2, Nat.add_mul]
    have ed : sA * a = sA * A * T + sA * a0 := by rw [ha, Nat.mul_add, ← Nat.mul_assoc]
    have j5 : fB * b0 + sB * b0 < fB * T + sB * T := by
      have : sB * (b0 + 1) = sB * b0 + sB := by rw [Nat.mul_add, Nat.mul_one]
      omega
    rw [Nat.add_mul, Nat.add_mul] at i7
    obtain ⟨tf, htf⟩ : ∃ tf, fA * a = fB * b + tf := ⟨fA * a - fB * b, by omega⟩
    obtain ⟨ts, hts⟩ : ∃ ts, sB * b = sA * a + ts := ⟨sB * b - sA * a, by omega⟩
    refine ⟨tf, ts, by simp [LTrue, htf, hts], by omega, ?_⟩
    rw [gcd_combo b a tf ts fA fB sB sA htf hts (by rw [h4]), Nat.gcd_comm]

/-- what is kept of the steps that are decided -/
def Dec (a b k : Nat) (ev : Bool) (fA fB sA sB : Nat) : Prop :=
  ∃ tf ts, LTrue ev a b fA fB sA sB tf ts ∧ Nat.gcd tf ts = Nat.gcd a b ∧ (1 ≤ k → ts < tf ∧ tf ≤ b)

theorem Dec.start (a b : Nat) : Dec a b 0 true 1 0 0 1 := ⟨a, b, by simp [LTrue], rfl, by omega⟩

/-- the steps that are looked at: a further step of those that are decided, so that the first number is at most b -/
def Nxt (a b A H k : Nat) (ev : Bool) (fA fB sA sB f s : Nat) : Prop :=
  LInv A H k ev fA fB sA sB f s ∧ (1 ≤ k → ∀ tf ts, LTrue ev a b fA fB sA sB tf ts → tf ≤ b)

theorem Nxt.start (a b A H : Nat) (h : H ≤ A) : Nxt a b A H 0 true 1 0 0 1 A H := ⟨LInv.start A H h, by omega⟩

theorem Nxt.go {a b A H k : Nat} {ev : Bool} {fA fB sA sB f s : Nat} (h : Nxt a b A H k ev fA fB sA sB f s) (hs : sB ≤ s) (hd : fB + sB ≤ f - s) (T a0 b0 : Nat) (ha : a = A * T + a0) (hb : b = H * T + b0) (ha0 : a0 < T) (hb0 : b0 < T) :
    Dec a b k ev fA fB sA sB ∧ Nxt a b A H (k + 1) (!ev) sA sB (fA + f / s * sA) (fB + f / s * sB) s (f % s) ∧ fB + f / s * sB ≤ A ∧ fA + f / s * sA ≤ A := by
  obtain ⟨hi, hle⟩ := h
  obtain ⟨tf, ts, ht, hlt, hg⟩ := hi.accept hs hd T a b a0 b0 ha hb ha0 hb0
  obtain ⟨hn, hb1, hb2⟩ := hi.step hs
  refine ⟨⟨tf, ts, ht, hg, fun hk => ⟨hlt, hle hk tf ts ht⟩⟩, ⟨hn, ?_⟩, hb1, hb2⟩
  intro _ tf' ts' ht'
  have e : tf' = ts := by
    unfold LTrue at ht ht'
    cases ev <;> simp at ht ht' <;> omega
  rw [e]
  by_cases hk : k = 0
  · obtain ⟨_, _, _, _, _, _, h7⟩ := hi
    rw [if_pos hk] at h7
    obtain ⟨rfl, rfl, rfl, rfl, rfl⟩ := h7
    simp [LTrue] at ht
    omega
  · have := hle (by omega) tf ts ht
    omega

end Go.Proofs.YtdkjcdfkoahfkaaGreatDoor

namespace Go.Proofs.YtdkjcdfkoahfkaaGreatDoor
open Go

/-- how many values a chunk has -/
def C19 : Nat := 10000000000000000000
theorem C19_eq : C19 = 10000000000000000000 := rfl
theorem C19_two : 2 ≤ C19 := by rw [C19_eq]; omega
theorem C19_pow : C19 = 10 ^ 19 := by decide

/-- a chunk that is not the first -/
def pad19 (r : Nat) : List UInt8 := List.replicate (19 - (decs r).length) 48 ++ decs r

theorem chr_zero48 : chr 0 = 48 := by decide

theorem val10_pad (xs : List Nat) (k : Nat) : val 10 (xs ++ List.replicate k 0) = val 10 xs := by
  rw [val_append]
  have : val 10 (List.replicate k 0) = 0 := by
    induction k with
    | zero => rfl
    | succ k ih => rw [List.replicate_succ, val, ih]
  rw [this]; omega

theorem len10 {r : Nat} (h : r < C19) : (dig 10 r).length ≤ 19 := dig_length_le (by omega) 19 r (by rw [← C19_pow]; exact h)

theorem dig10_chunk (q r : Nat) (hq : q ≠ 0) (hr : r < C19) : dig 10 (q * C19 + r) = (dig 10 r ++ List.replicate (19 - (dig 10 r).length) 0) ++ dig 10 q := by
  have hl := len10 hr
  have h1 : val 10 ((dig 10 r ++ List.replicate (19 - (dig 10 r).length) 0) ++ dig 10 q) = q * C19 + r := by
    rw [val_append, val10_pad, val_dig (by omega), val_dig (by omega), List.length_append, List.length_replicate, show (dig 10 r).length + (19 - (dig 10 r).length) = 19 by omega, ← C19_pow, Nat.mul_comm]
    omega
  rw [← h1, dig_val (by omega)]
  · intro d hd
    simp only [List.mem_append, List.mem_replicate] at hd
    rcases hd with (hd | ⟨_, rfl⟩) | hd
    · exact dig_lt (by omega) _ d hd
    · omega
    · exact dig_lt (by omega) _ d hd
  · have hne : dig 10 q ≠ [] := fun e => hq ((dig_eq_nil (by omega)).1 e)
    rw [List.getLast?_append]
    have h9 := getLast_dig q
    cases hl : (dig 10 q).getLast? with
    | none => exact absurd (List.getLast?_eq_none_iff.1 hl) hne
    | some z => rw [hl] at h9; simpa using h9

theorem decs_ne {n : Nat} (h : n ≠ 0) : decs n = (dig 10 n).reverse.map chr := by unfold decs; rw [if_neg h]

theorem decs_chunk (q r : Nat) (hq : q ≠ 0) (hr : r < C19) : decs (q * C19 + r) = decs q ++ pad19 r := by
  have hn : q * C19 + r ≠ 0 := by
    have : 0 < q * C19 := Nat.mul_pos (by omega) (by rw [C19_eq]; omega)
    omega
  rw [decs_ne hn, decs_ne hq, dig10_chunk q r hq hr, List.reverse_append, List.map_append, List.reverse_append, List.map_append, List.reverse_replicate, List.map_replicate, chr_zero48]
  congr 1
  unfold pad19
  by_cases h0 : r = 0
  · subst h0
    rw [dig_zero]
    have : decs 0 = [48] := rfl
    rw [this]
    rfl
  · rw [decs_ne h0]
    simp

theorem decs_len_lt {n k : Nat} (hk : 1 ≤ k) (h : n < 10 ^ k) : (decs n).length ≤ k := by
  by_cases h0 : n = 0
  · subst h0; show 1 ≤ k; exact hk
  · rw [decs_ne h0, List.length_map, List.length_reverse]
    exact dig_length_le (by omega) k n h

theorem decs_len19 {r : Nat} (h : r < C19) : (decs r).length ≤ 19 := decs_len_lt (by omega) (by rw [← C19_pow]; exact h)

/-- a number of few digits has few limbs -/
theorem limbs_few {n : Nat} (h : (decs n).length ≤ 60) : (dig 18446744073709551616 n).length ≤ 4 := by
  refine dig_length_le (by omega) 4 n ?_
  have h1 : n < 10 ^ 60 := by
    by_cases h0 : n = 0
    · subst h0; exact Nat.pow_pos (by omega)
    · rw [decs_ne h0, List.length_map, List.length_reverse] at h
      exact Nat.lt_of_lt_of_le (lt_pow_dig (by omega) n) (Nat.pow_le_pow_right (by omega) h)
  have h2 : (10 : Nat) ^ 60 ≤ 18446744073709551616 ^ 4 := by decide
  omega

/-- four limbs have few chunks -/
theorem chunks_few {n : Nat} (h : (dig 18446744073709551616 n).length ≤ 4) : (dig C19 n).length ≤ 5 := by
  refine dig_length_le C19_two 5 n ?_
  have h1 := Nat.lt_of_lt_of_le (lt_pow_dig (B := 18446744073709551616) (by omega) n) (Nat.pow_le_pow_right (by omega) h)
  have h2 : (18446744073709551616 : Nat) ^ 4 ≤ C19 ^ 5 := by decide
  omega

theorem decs_few_chunks {n : Nat} (h : (dig 18446744073709551616 n).length ≤ 4) : (decs n).length ≤ 80 := by
  refine decs_len_lt (by omega) ?_
  have h1 := Nat.lt_of_lt_of_le (lt_pow_dig (B := 18446744073709551616) (by omega) n) (Nat.pow_le_pow_right (by omega) h)
  have h2 : (18446744073709551616 : Nat) ^ 4 ≤ 10 ^ 80 := by decide
  omega
end Go.Proofs.YtdkjcdfkoahfkaaGreatDoor

namespace Go.Proofs.YtdkjcdfkoahfkaaGreatDoor
open Go Go.RowKit Go.Sort Go.Lib

theorem decDigits_eqd (n : Nat) : Lib.decDigits n = decs n := by
  induction n using Nat.strongRecOn with
  | _ n ih =>
    rw [Lib.decDigits]
    by_cases h : n < 10
    · rw [dif_pos h]
      by_cases h0 : n = 0
      · subst h0; rfl
      · rw [decs, if_neg h0, dig_small h0 h]; rfl
    · rw [dif_neg h, ih (n / 10) (by omega), decs, decs, if_neg (by omega), if_neg (by omega), dig_pos (by omega) (by omega : n ≠ 0)]
      simp [chr]

theorem fin_zero (w : World) (o : Obj) (dk : Array UInt8) (k : Nat) : ∃ os, (putRow (fun (b : UInt8) => Value.int .u8 (b.toNat : Int)) (w.alloc o) w.heap.size 0 dk).drewN k = grow (w.drewN k) os := by
  rw [alloc_eq_grow]
  obtain ⟨os', _, e⟩ := putRow_grow_new (fun (b : UInt8) => Value.int .u8 (b.toNat : Int)) w #[o] w.heap.size 0 dk (Nat.le_refl _)
  exact ⟨os', by rw [e]; rfl⟩

set_option maxHeartbeats 6400000 in
set_option maxRecDepth 100000 in
theorem fmtui_any (u : Nat) (hu64 : u < 18446744073709551616) (w : World) (htab : Lib.TabIs Tryz.prog w "internal/strconv.uint64pow10" .u64 Lib.pow10Tab) (R : Ending → World → Prop)
    (hR : ∀ w', Below w.heap.size w w' → R (.returned (.string ⟨(decs u).toArray⟩)) w') :
    Calls Tryz.prog 226 #[.int .u64 (u : Int), .int .i64 10] w R := by
  have HR := Lib.hid hR; clear hR
  have HTAB := Lib.hid htab; clear htab
  by_cases hs : u < 100
  · have hlt : (u : Int) < 100 := by omega
    have hwc : IntKind.i64.wrap (u : Int) = (u : Int) := IntWalk.i64_in _ (by omega)
    go_enter Tryz.func226, Tryz.ntmps226
    go_wp2_with fail
    refine (Tryz.internal_strconv_small u hs _).mono ?_
    rintro e w' ⟨rfl, rfl⟩
    rw [decDigits_eqd]
    clear hlt hwc
    dsimp only
    go_wp2
    first | go_ret | skip
    exact HR.out _ (Below.refl _ _)
  · have hlt : ¬ (u : Int) < 100 := by omega
    have hu1 : 1 ≤ u := by omega
    have hnd20 : Lib.nDigits u ≤ 20 := by have := Lib.numDigits_eq u hu1 hu64; split at this <;> omega
    obtain ⟨nd, hnd⟩ : ∃ nd, nd = Lib.nDigits u := ⟨_, rfl⟩
    have HND := Lib.hid hnd
    have hnd24 : nd ≤ 24 := by omega
    have hal : Tryz.prog.arrayLen 228 = 24 := by simp [Program.arrayLen, Tryz.underlying228]
    have hsl : ∀ W, (Instr.sliceAt 228 (.pointer (some ⟨w.heap.size, 0, none⟩)) none (some (.int .i64 (nd : Int))) none).run Tryz.prog W = .ok (.slice (some ⟨w.heap.size, 0, none⟩) nd 24) W := fun W => by
      rw [run_sliceAt_array_h W 228 ⟨w.heap.size, 0, none⟩ (by simp [Program.arrayLen, Program.elem, Tryz.underlying228]) .i64 (nd : Int) (by omega) (by rw [hal]; omega)]
      go_simp
    have hH0 := Lib.holds_zero0 w 228 nd hnd24
    have hfmt := Tryz.internal_strconv_formatBase10 w.heap.size 0 24 u (Array.replicate nd 0) (w.alloc (.cells Lib.zeros24 228)) hH0 (by rw [Array.size_replicate, hnd]; exact Lib.lt_pow_nDigits u) hu64 (by rw [Array.size_replicate]; omega)
    rw [Array.size_replicate] at hfmt
    have HH0 := Lib.hid hH0
    have HFMT := Lib.hid hfmt
    clear hH0 hal hfmt hnd20
    go_enter Tryz.func226, Tryz.ntmps226
    go_wp2_with fail
    refine (Tryz.internal_strconv_numDigits u hu1 hu64 _ (Lib.tabIs_alloc HTAB.out _)).mono ?_
    rintro e w' ⟨rfl, rfl⟩
    rw [← HND.out]
    clear hnd
    dsimp only
    go_wp2_with fail
    refine HFMT.out.mono ?_
    rintro e w' ⟨rfl, k, v', dk, rfl, hF⟩
    have hF' := hF
    rw [HND.out] at hF'
    have hcv : (convert 22 9 (.slice (some ⟨w.heap.size, 0, none⟩) nd 24)).run Tryz.prog ((putRow (fun (b : UInt8) => Value.int .u8 (b.toNat : Int)) (w.alloc (.cells Lib.zeros24 228)) w.heap.size 0 dk).drewN k) = .ok (.string ⟨(Lib.decDigits u).toArray⟩) ((putRow (fun (b : UInt8) => Value.int .u8 (b.toNat : Int)) (w.alloc (.cells Lib.zeros24 228)) w.heap.size 0 dk).drewN k) := by
      have h := run_convert_bytes_back (P := Tryz.prog) ((putRow (fun (b : UInt8) => Value.int .u8 (b.toNat : Int)) (w.alloc (.cells Lib.zeros24 228)) w.heap.size 0 dk).drewN k) 22 9 5 ⟨w.heap.size, 0, none⟩ 24 (Lib.decDigits u) Tryz.underlying22 Tryz.underlying5 Tryz.underlying9 (fun j hj => by
        rw [Lib.row_is_numeral hF' j hj, Lib.add_plain, World.cell?_drewN]
        exact cell?_putRow (fun (b : UInt8) => Value.int .u8 (b.toNat : Int)) _ w.heap.size 0 _ dk HH0.out (by rw [hF.size, Array.size_replicate]) j (by rw [hF.size, HND.out]; rw [Lib.decDigits_length] at hj; exact hj))
      rw [Lib.decDigits_length, ← HND.out] at h
      exact h
    rw [decDigits_eqd] at hcv
    have HBB : Hid (Below w.heap.size w ((putRow (fun (b : UInt8) => Value.int .u8 (b.toNat : Int)) (w.alloc (.cells Lib.zeros24 228)) w.heap.size 0 dk).drewN k)) := Lib.hid (by
      obtain ⟨os, eo⟩ := fin_zero w (.cells Lib.zeros24 228) dk k
      rw [eo]
      exact Lib.below_grow w.heap.size w (Nat.le_refl _) k os)
    clear hF hF'
    dsimp only
    go_wp2
    first | go_ret | skip
    exact HR.out _ HBB.out

set_option maxRecDepth 100000 in
theorem fmtu_any (u : Nat) (hu64 : u < 18446744073709551616) (w : World) (htab : Lib.TabIs Tryz.prog w "internal/strconv.uint64pow10" .u64 Lib.pow10Tab) (R : Ending → World → Prop)
    (hR : ∀ w', Below w.heap.size w w' → R (.returned (.string ⟨(decs u).toArray⟩)) w') :
    Calls Tryz.prog 182 #[.int .u64 (u : Int), .int .i64 10] w R := by
  have HR := Lib.hid hR; clear hR
  have HTAB := Lib.hid htab; clear htab
  have HU := Lib.hid hu64; clear hu64
  go_enter Tryz.func182, Tryz.ntmps182
  go_wp2_with fail
  refine fmtui_any u HU.out _ HTAB.out _ ?_
  intro w1 hb1
  have HB := Lib.hid hb1
  obtain ⟨T, hT⟩ : ∃ T, T = decs u := ⟨_, rfl⟩
  rw [← hT] at HR ⊢
  clear hT hb1
  dsimp only
  go_wp2
  first | go_ret | skip
  exact HR.out _ HB.out
end Go.Proofs.YtdkjcdfkoahfkaaGreatDoor

namespace Go.Proofs.YtdkjcdfkoahfkaaGreatDoor
open Go Go.RowKit Go.Shelf

/-- the numbering of the contract of WriteByte -/
def renB : Go.Shelf.Ren := ⟨fun | 167 => 128 | n => Tryz.lays105_ren.f n, Tryz.lays105_ren.t, Tryz.lays105_ren.g⟩

set_option maxRecDepth 100000 in
theorem lays166B : Go.Proofs.Lays.n166 Tryz.prog Tryz.lays105_ren := { Tryz.lays105 with }
set_option maxRecDepth 100000 in
theorem lays167B : Go.Proofs.Lays.n167 Tryz.prog renB := { Tryz.lays105 with f167 := Tryz.func128.trans (congrArg some (by kernel_rfl)) }
set_option maxRecDepth 100000 in
theorem extraB : Go.Proofs.Builder.Extra Tryz.prog renB := { Tryz.Builder_Extra_105 with }

/-- a builder of the call's own, in block b, that holds a text -/
def IsB (w : World) (b : Nat) (T : List UInt8) : Prop := Lib.IsBuilder 153 5 b b (Lib.byteCells T) w

theorem IsB.fresh (w : World) : IsB (w.alloc (.cells #[.pointer none, .slice none 0 0] 153)) w.heap.size [] := by
  refine .inl ⟨Nat.le_refl _, .slice none 0 0, ?_, World.ownsRow_nil _ _ _ _, by simp [Value.ownBlock]⟩
  show (w.heap.push _)[_]? = _
  simp

theorem IsB.lt {w : World} {b : Nat} {T : List UInt8} (h : IsB w b T) : b < w.heap.size := by
  rcases h with h | h
  · exact h.lt
  · exact h.lt

/-- a change of later blocks alone -/
theorem IsB.later {w w' : World} {b : Nat} {T : List UInt8} (h : IsB w b T) (hb : Below w.heap.size w w') : IsB w' b T := by
  have key : ∀ p, Lib.BuilderAt 153 5 b b p (Lib.byteCells T) w → Lib.BuilderAt 153 5 b b p (Lib.byteCells T) w' := by
    rintro p ⟨h1, v, h2, h3, h4⟩
    refine ⟨h1, v, by rw [hb.block b (lt_of_block h2)]; exact h2, ?_, h4⟩
    refine World.ownsRow.kept (row := none) h3 ⟨hb.os, hb.tape, hb.output, hb.size, fun k hk _ => hb.block k hk⟩ ?_
    by_cases h0 : v.ownBlock = none
    · exact .inl h0
    · exact .inr h0
  rcases h with h | h
  · exact .inl (key _ h)
  · exact .inr (key _ h)

theorem byteCells_append (T U : List UInt8) : Lib.byteCells (T ++ U) = Lib.byteCells T ++ Lib.byteCells U := by simp [Lib.byteCells]
theorem strCells_eq (s : ByteArray) : Lib.strCells s = Lib.byteCells s.data.toList := rfl
theorem byteCells_length (T : List UInt8) : (Lib.byteCells T).length = T.length := by simp [Lib.byteCells]

theorem bws_any (b : Nat) (T : List UInt8) (s : ByteArray) (w : World) (h : IsB w b T) (hlen : T.length + s.size ≤ 1000000) (R : Ending → World → Prop)
    (hR : ∀ w', IsB w' b (T ++ s.data.toList) → Below b w w' → R (.returned (.tuple #[.int .i64 (s.size : Int), .nilIface])) w') :
    Calls Tryz.prog 129 #[.pointer (some ⟨b, 0, none⟩), .string s] w R := by
  refine (Go.Proofs.Any.Builder_WriteString lays166B Tryz.Builder_Extra_105 b b (Lib.byteCells T) s w h (by rw [byteCells_length]; omega) (Nat.le_of_lt h.lt)).mono ?_
  rintro e w' ⟨rfl, h1, h2⟩
  refine hR w' (.inr ?_) h2
  rw [byteCells_append, ← strCells_eq]
  exact h1

theorem bwb_any (b : Nat) (T : List UInt8) (c : UInt8) (z : Int) (hz : z = (c.toNat : Int)) (w : World) (h : IsB w b T) (hlen : T.length + 1 ≤ 1000000) (R : Ending → World → Prop)
    (hR : ∀ w', IsB w' b (T ++ [c]) → Below b w w' → R (.returned .nilIface) w') :
    Calls Tryz.prog 128 #[.pointer (some ⟨b, 0, none⟩), .int .u8 z] w R := by
  subst hz
  refine (Go.Proofs.Any.Builder_WriteByte lays167B extraB b b (Lib.byteCells T) (c.toNat : Int) w h (by rw [byteCells_length]; omega) (Nat.le_of_lt h.lt)).mono ?_
  rintro e w' ⟨rfl, h1, h2⟩
  refine hR w' (.inr ?_) h2
  rw [byteCells_append]
  exact h1

theorem bstr_any (b : Nat) (T : List UInt8) (w : World) (h : IsB w b T) (R : Ending → World → Prop)
    (hR : ∀ w', Below b w w' → R (.returned (.string ⟨T.toArray⟩)) w') :
    Calls Tryz.prog 131 #[.pointer (some ⟨b, 0, none⟩)] w R := by
  refine (Tryz.Builder_String_any b b T w h (Nat.le_of_lt h.lt)).mono ?_
  rintro e w' ⟨rfl, h2⟩
  exact hR w' h2
end Go.Proofs.YtdkjcdfkoahfkaaGreatDoor

namespace Go.Proofs.YtdkjcdfkoahfkaaGreatDoor

theorem val_setN (B : Nat) (xs : List Nat) (i z : Nat) (h : i < xs.length) : val B (xs.set i z) + B ^ i * xs.getD i 0 = val B xs + B ^ i * z := by
  induction xs generalizing i with
  | nil => simp at h
  | cons x xs ih =>
    cases i with
    | zero => simp [val]; omega
    | succ i =>
      have := ih i (by simpa using h)
      simp only [List.set_cons_succ, val, List.getD_cons_succ, Nat.pow_succ]
      have h2 : B * (val B (xs.set i z) + B ^ i * xs.getD i 0) = B * (val B xs + B ^ i * z) := by rw [this]
      rw [Nat.mul_add, Nat.mul_add] at h2
      rw [Nat.mul_comm (B ^ i) B, Nat.mul_assoc, Nat.mul_assoc]
      omega

theorem val_take_succ (B : Nat) (xs : List Nat) (k : Nat) (h : k < xs.length) : val B (xs.take (k + 1)) = val B (xs.take k) + B ^ k * xs.getD k 0 := by
  rw [List.take_succ_eq_append_getElem h, val_snoc, List.length_take, Nat.min_eq_left (by omega), getD_eq h]

/-- a round of adding a multiple -/
theorem addp_step (B : Nat) (cur rs ys : List Nat) (off k f c z c' : Nat) (hk : k < ys.length) (hi : off + k < cur.length)
    (hz : z + B * c' = cur.getD (off + k) 0 + ys.getD k 0 * f + c) (h : val B cur + B ^ (off + k) * c = val B rs + B ^ off * (f * val B (ys.take k))) :
    val B (cur.set (off + k) z) + B ^ (off + (k + 1)) * c' = val B rs + B ^ off * (f * val B (ys.take (k + 1))) := by
  have h1 := val_setN B cur (off + k) z hi
  rw [val_take_succ B ys k hk]
  have h2 : B ^ (off + k) * (z + B * c') = B ^ (off + k) * (cur.getD (off + k) 0 + ys.getD k 0 * f + c) := by rw [hz]
  have e1 : B ^ (off + (k + 1)) = B ^ (off + k) * B := by rw [← Nat.add_assoc, Nat.pow_succ]
  have e2 : B ^ (off + k) = B ^ off * B ^ k := Nat.pow_add ..
  generalize cur.getD (off + k) 0 = x at *
  generalize ys.getD k 0 = y at *
  grind

/-- a round of taking a multiple away -/
theorem takep_step (B : Nat) (cur rs ys : List Nat) (off k f c z c' : Nat) (hk : k < ys.length) (hi : off + k < cur.length)
    (hz : z + ys.getD k 0 * f + c = cur.getD (off + k) 0 + B * c') (h : val B cur + B ^ off * (f * val B (ys.take k)) = val B rs + B ^ (off + k) * c) :
    val B (cur.set (off + k) z) + B ^ off * (f * val B (ys.take (k + 1))) = val B rs + B ^ (off + (k + 1)) * c' := by
  have h1 := val_setN B cur (off + k) z hi
  rw [val_take_succ B ys k hk]
  have h2 : B ^ (off + k) * (z + ys.getD k 0 * f + c) = B ^ (off + k) * (cur.getD (off + k) 0 + B * c') := by rw [hz]
  have e1 : B ^ (off + (k + 1)) = B ^ (off + k) * B := by rw [← Nat.add_assoc, Nat.pow_succ]
  have e2 : B ^ (off + k) = B ^ off * B ^ k := Nat.pow_add ..
  generalize cur.getD (off + k) 0 = x at *
  generalize ys.getD k 0 = y at *
  grind

/-- high and low words of a product with something that is carried -/
theorem mul_carry {B x y c : Nat} (hx : x < B) (hy : y < B) (hc : c < B) : (x * y) / B + ((x * y) % B + c) / B < B ∧ ((x * y) % B + c) % B + B * ((x * y) / B + ((x * y) % B + c) / B) = x * y + c := by
  have hB : 0 < B := by omega
  have h1 := Nat.div_add_mod (x * y) B
  have h2 := Nat.div_add_mod ((x * y) % B + c) B
  have h3 : x * y + c < B * B := by
    have : x * y ≤ (B - 1) * (B - 1) := Nat.mul_le_mul (by omega) (by omega)
    have e : (B - 1) * (B - 1) + (B - 1) + (B - 1) + 1 = B * B := by
      obtain ⟨b, rfl⟩ : ∃ b, B = b + 1 := ⟨B - 1, by omega⟩
      simp only [Nat.add_sub_cancel]; grind
    omega
  have e : ((x * y) % B + c) % B + B * ((x * y) / B + ((x * y) % B + c) / B) = x * y + c := by rw [Nat.mul_add]; omega
  refine ⟨?_, e⟩
  apply Nat.lt_of_mul_lt_mul_left (a := B)
  omega

theorem mul_carry2 {B x y c d : Nat} (hx : x < B) (hy : y < B) (hc : c < B) (hd : d < B) :
    (x * y) / B + ((x * y) % B + c) / B + (d + ((x * y) % B + c) % B) / B < B ∧ (d + ((x * y) % B + c) % B) % B + B * ((x * y) / B + ((x * y) % B + c) / B + (d + ((x * y) % B + c) % B) / B) = d + x * y + c := by
  have hB : 0 < B := by omega
  obtain ⟨h1, h2⟩ := mul_carry hx hy hc
  generalize (x * y) / B + ((x * y) % B + c) / B = h at *
  generalize ((x * y) % B + c) % B = l at *
  have h3 := Nat.div_add_mod (d + l) B
  have h4 : d + (x * y + c) < B * B := by
    have : x * y ≤ (B - 1) * (B - 1) := Nat.mul_le_mul (by omega) (by omega)
    have e : (B - 1) * (B - 1) + (B - 1) + (B - 1) + 1 = B * B := by
      obtain ⟨b, rfl⟩ : ∃ b, B = b + 1 := ⟨B - 1, by omega⟩
      simp only [Nat.add_sub_cancel]; grind
    omega
  have e : (d + l) % B + B * (h + (d + l) / B) = d + x * y + c := by rw [Nat.mul_add]; omega
  refine ⟨?_, e⟩
  apply Nat.lt_of_mul_lt_mul_left (a := B)
  omega

theorem take_borrow {B x y c d : Nat} (hx : x < B) (hy : y < B) (hc : c < B) (hd : d < B) :
    (if d < ((x * y) % B + c) % B then
      (x * y) / B + ((x * y) % B + c) / B + 1 < B ∧ (d + B - ((x * y) % B + c) % B) + x * y + c = d + B * ((x * y) / B + ((x * y) % B + c) / B + 1)
     else (d - ((x * y) % B + c) % B) + x * y + c = d + B * ((x * y) / B + ((x * y) % B + c) / B)) := by
  have hB : 0 < B := by omega
  obtain ⟨h1, h2⟩ := mul_carry hx hy hc
  have hm := Nat.mod_lt ((x * y) % B + c) hB
  generalize hh : (x * y) / B + ((x * y) % B + c) / B = h at *
  generalize ((x * y) % B + c) % B = l at *
  split
  · refine ⟨?_, by rw [Nat.mul_add]; omega⟩
    have h3 : x * y + c < B * (B - 1) + 1 := by
      have : x * y ≤ (B - 1) * (B - 1) := Nat.mul_le_mul (by omega) (by omega)
      have e : (B - 1) * (B - 1) + (B - 1) = B * (B - 1) := by
        obtain ⟨b, rfl⟩ : ∃ b, B = b + 1 := ⟨B - 1, by omega⟩
        simp only [Nat.add_sub_cancel]; grind
      omega
    have h4 : B * h < B * (B - 1) := by omega
    have := Nat.lt_of_mul_lt_mul_left h4
    omega
  · omega

/-- Knuth: the guess is not too small -/
theorem knuth_ge (B P R r1 r0 D d : Nat) (hR : R < (r1 * B + r0 + 1) * P) (hD : d * P ≤ D) (hd : 0 < d) : R / D ≤ (r1 * B + r0) / d := by
  by_cases hP : P = 0
  · subst hP; simp at hR
  have hPp : 0 < P := Nat.pos_of_ne_zero hP
  have hdp : 0 < d * P := Nat.mul_pos hd hPp
  have h1 : R / D ≤ R / (d * P) := Nat.div_le_div_left hD hdp
  have h2 : R / (d * P) = R / P / d := by rw [Nat.mul_comm, Nat.div_div_eq_div_mul]
  have h3 : R / P < r1 * B + r0 + 1 := (Nat.div_lt_iff_lt_mul hPp).2 hR
  have h4 : R / P / d ≤ (r1 * B + r0) / d := Nat.div_le_div_right (by omega)
  omega

/-- bits that do not meet -/
theorem or_add (a b s : Nat) (ha : a < 2 ^ s) : a ||| (b * 2 ^ s) = a + b * 2 ^ s := by
  rw [Nat.or_comm, Nat.mul_comm, ← Nat.two_pow_add_eq_or_of_lt ha, Nat.add_comm]

/-- a limb that is shifted, and what goes over -/
theorem shl_parts (B p q l : Nat) (hB : B = p * q) (hp : 0 < p) : l * p % B = (l % q) * p ∧ l * p / B = l / q := by
  subst hB
  constructor
  · rw [Nat.mul_comm p q, Nat.mul_mod_mul_right]
  · rw [Nat.mul_comm p q, Nat.mul_div_mul_right _ _ hp]

/-- a round of shifting up: lo is what went over from the limb before -/
theorem up_step (B p q : Nat) (cur ys : List Nat) (k : Nat) (hB : B = p * q) (hp : 0 < p) (hk : k < ys.length) (hi : k + 1 < cur.length) (hz : cur.getD (k + 1) 0 = 0)
    (h : val B cur = p * val B (ys.take k)) :
    val B ((cur.set k (cur.getD k 0 + (ys.getD k 0 % q) * p)).set (k + 1) (ys.getD k 0 / q)) = p * val B (ys.take (k + 1)) := by
  obtain ⟨h1, h2⟩ := shl_parts B p q (ys.getD k 0) hB hp
  have e := Nat.div_add_mod (ys.getD k 0 * p) B
  rw [h1, h2] at e
  have s1 := val_setN B cur k (cur.getD k 0 + (ys.getD k 0 % q) * p) (by omega)
  have s2 := val_setN B (cur.set k (cur.getD k 0 + (ys.getD k 0 % q) * p)) (k + 1) (ys.getD k 0 / q) (by simp; omega)
  have hz2 : (cur.set k (cur.getD k 0 + (ys.getD k 0 % q) * p)).getD (k + 1) 0 = cur.getD (k + 1) 0 := by
    simp [List.getD]
  rw [hz2, hz, Nat.mul_zero, Nat.add_zero] at s2
  rw [s2, val_take_succ B ys k hk, Nat.pow_succ]
  generalize (cur.set k (cur.getD k 0 + (ys.getD k 0 % q) * p)) = c1 at *
  generalize cur.getD k 0 = x at *
  generalize ys.getD k 0 % q * p = m at *
  generalize ys.getD k 0 / q = d at *
  generalize ys.getD k 0 = y at *
  grind

/-- a round of shifting down, behind the first -/
theorem down_step (B p q : Nat) (cur ys : List Nat) (k r : Nat) (hB : B = p * q) (hk : k + 1 < ys.length) (hi : k + 1 < cur.length) (hz : cur.getD (k + 1) 0 = 0)
    (h : p * val B cur + r = val B (ys.take (k + 1))) :
    p * val B ((cur.set (k + 1) (ys.getD (k + 1) 0 / p)).set k (cur.getD k 0 + (ys.getD (k + 1) 0 % p) * q)) + r = val B (ys.take (k + 1 + 1)) := by
  have e := Nat.div_add_mod (ys.getD (k + 1) 0) p
  have s1 := val_setN B cur (k + 1) (ys.getD (k + 1) 0 / p) hi
  rw [hz, Nat.mul_zero, Nat.add_zero] at s1
  have s2 := val_setN B (cur.set (k + 1) (ys.getD (k + 1) 0 / p)) k (cur.getD k 0 + (ys.getD (k + 1) 0 % p) * q) (by simp; omega)
  have hz2 : (cur.set (k + 1) (ys.getD (k + 1) 0 / p)).getD k 0 = cur.getD k 0 := by
    simp [List.getD]
  rw [hz2] at s2
  rw [val_take_succ B ys (k + 1) hk, Nat.pow_succ]
  rw [Nat.pow_succ] at s1
  generalize ((cur.set (k + 1) (ys.getD (k + 1) 0 / p)).set k (cur.getD k 0 + (ys.getD (k + 1) 0 % p) * q)) = c2 at *
  generalize (cur.set (k + 1) (ys.getD (k + 1) 0 / p)) = c1 at *
  generalize cur.getD k 0 = x at *
  generalize ys.getD (k + 1) 0 % p = m at *
  generalize ys.getD (k + 1) 0 / p = d at *
  generalize ys.getD (k + 1) 0 = y at *
  grind

end Go.Proofs.YtdkjcdfkoahfkaaGreatDoor

namespace Go.Proofs.YtdkjcdfkoahfkaaGreatDoor
open Go Go.RowKit

/-- how many values a limb has -/
def W64 : Nat := 18446744073709551616
theorem W64_eq : W64 = 18446744073709551616 := rfl
theorem W64_two : 2 ≤ W64 := by rw [W64_eq]; omega
theorem wrapu (z : Int) (h0 : 0 ≤ z) (h1 : z ≤ 18446744073709551615) : IntKind.u64.wrap z = z := by rw [IntKind.wrap_u64]; omega

end Go.Proofs.YtdkjcdfkoahfkaaGreatDoor

namespace Go.Proofs.YtdkjcdfkoahfkaaGreatDoor
/-- a half step of a long division: the quotient is at most the guess -/
theorem half_start (b D y1 y0 u n q r : Nat) (hD : D = y1 * b + y0) (hy0 : y0 < b) (hb : b ≤ 2 * y1) (hu : u < D) (hn : n < b) (h : u = q * y1 + r) (hr : r < y1) : (u * b + n) / D ≤ q ∧ q ≤ b + 1 ∧ (u * b + n) / D < b := by
  have hb0 : 0 < b := by omega
  have hy1 : 0 < y1 := by omega
  have hD0 : 0 < D := by omega
  refine ⟨?_, ?_, ?_⟩
  · have h1 : u * b + n < (q + 1) * (y1 * b) := by
      have : u + 1 ≤ (q + 1) * y1 := by rw [h, Nat.add_mul, Nat.one_mul]; omega
      have h2 : (u + 1) * b ≤ (q + 1) * y1 * b := Nat.mul_le_mul_right _ this
      rw [Nat.add_mul, Nat.one_mul, Nat.mul_assoc] at h2
      omega
    have h2 : (q + 1) * (y1 * b) ≤ (q + 1) * D := Nat.mul_le_mul_left _ (by omega)
    have := (Nat.div_lt_iff_lt_mul hD0).2 (show u * b + n < (q + 1) * D by omega)
    omega
  · rcases Nat.lt_or_ge q (b + 2) with hq | hq
    · omega
    · exfalso
      have h1 : (b + 2) * y1 ≤ q * y1 := Nat.mul_le_mul_right _ hq
      have e : (b + 2) * y1 = y1 * b + 2 * y1 := by rw [Nat.add_mul, Nat.mul_comm b]
      omega
  · rw [Nat.div_lt_iff_lt_mul hD0]
    have : (u + 1) * b ≤ D * b := Nat.mul_le_mul_right _ hu
    rw [Nat.add_mul, Nat.mul_comm D] at this
    omega

theorem half_val (b D y1 y0 u q r : Nat) (hD : D = y1 * b + y0) (h : u = q * y1 + r) : q * D + r * b = u * b + q * y0 := by
  rw [hD, h]; grind

/-- the guess is too great -/
theorem half_dec (b D y1 y0 u n q r : Nat) (hD : D = y1 * b + y0) (hD0 : 0 < D) (h : u = q * y1 + r) (hQb : (u * b + n) / D < b) (hq : (u * b + n) / D ≤ q) (hc : b ≤ q ∨ b * r + n < q * y0) :
    1 ≤ q ∧ (u * b + n) / D ≤ q - 1 ∧ u = (q - 1) * y1 + (r + y1) := by
  have hlt : (u * b + n) / D < q := by
    rcases hc with hc | hc
    · omega
    · rw [Nat.div_lt_iff_lt_mul hD0]
      have := half_val b D y1 y0 u q r hD h
      rw [Nat.mul_comm r] at this
      omega
  generalize (u * b + n) / D = Q at *
  refine ⟨by omega, by omega, ?_⟩
  obtain ⟨p, rfl⟩ : ∃ p, q = p + 1 := ⟨q - 1, by omega⟩
  rw [h, Nat.add_sub_cancel, Nat.add_mul, Nat.one_mul]; omega

/-- the guess is right -/
theorem half_stop (b D y1 y0 u n q r : Nat) (hD : D = y1 * b + y0) (hD0 : 0 < D) (h : u = q * y1 + r) (hq : (u * b + n) / D ≤ q) (hc : q * y0 ≤ b * r + n) : q = (u * b + n) / D := by
  have := half_val b D y1 y0 u q r hD h
  rw [Nat.mul_comm r] at this
  have h2 := (Nat.le_div_iff_mul_le hD0).2 (show q * D ≤ u * b + n by omega)
  omega

theorem half_break (b D y1 y0 u n q r : Nat) (hD : D = y1 * b + y0) (hD0 : 0 < D) (hy0 : y0 < b) (h : u = q * y1 + r) (hq : (u * b + n) / D ≤ q) (hqb : q ≤ b) (hr : b ≤ r) : q = (u * b + n) / D := by
  refine half_stop b D y1 y0 u n q r hD hD0 h hq ?_
  have h1 : q * y0 ≤ b * y0 := Nat.mul_le_mul_right _ hqb
  have h2 : b * y0 ≤ b * r := Nat.mul_le_mul_left _ (by omega)
  omega

/-- two half steps make a step -/
theorem two_halves (b D u n1 n0 : Nat) (hD : 0 < D) : (u * (b * b) + (n1 * b + n0)) / D = (u * b + n1) / D * b + ((u * b + n1) % D * b + n0) / D ∧ (u * (b * b) + (n1 * b + n0)) % D = ((u * b + n1) % D * b + n0) % D := by
  have e : u * (b * b) + (n1 * b + n0) = ((u * b + n1) % D * b + n0) + D * ((u * b + n1) / D * b) := by
    have := Nat.div_add_mod (u * b + n1) D
    generalize (u * b + n1) / D = q at *
    generalize (u * b + n1) % D = r at *
    grind
  rw [e]
  refine ⟨?_, ?_⟩
  · rw [Nat.add_mul_div_left _ _ hD]; omega
  · rw [Nat.add_mul_mod_self_left]

/-- what is left of a subtraction that wraps -/
theorem sub_wrap (A P : Int) (N D : Nat) (M : Int) (q : Nat) (hA : A % M = (N : Int) % M) (hP : P % M = ((q * D : Nat) : Int) % M) (hq : q = N / D) (hD : ((D : Nat) : Int) ≤ M) (hD0 : 0 < D) : (A - P) % M = ((N % D : Nat) : Int) := by
  have h1 : (A - P) % M = (((N : Int)) - ((q * D : Nat) : Int)) % M := by rw [Int.sub_emod, hA, hP, ← Int.sub_emod]
  have h2 := Nat.div_add_mod N D
  have h3 := Nat.mod_lt N hD0
  rw [h1, hq]
  have e : (N : Int) - ((N / D * D : Nat) : Int) = ((N % D : Nat) : Int) := by
    rw [Nat.mul_comm (N / D) D]
    omega
  rw [e, Int.emod_eq_of_lt (by omega) (by omega)]

/-- shifting a number and a divisor alike -/
theorem shift_div (N D p : Nat) (hp : 0 < p) : N * p / (D * p) = N / D ∧ N * p % (D * p) / p = N % D := by
  refine ⟨Nat.mul_div_mul_right _ _ hp, ?_⟩
  rw [Nat.mul_mod_mul_right, Nat.mul_div_cancel _ hp]
end Go.Proofs.YtdkjcdfkoahfkaaGreatDoor

namespace Go.Proofs.YtdkjcdfkoahfkaaGreatDoor
open Go Go.RowKit

set_option maxRecDepth 100000 in
set_option maxHeartbeats 1000000 in
theorem div64_small (lo y : Nat) (w : World) (hlo : lo < W64) (hlt : 0 < y) (R : Ending → World → Prop)
    (hR : ∀ n, R (.returned (.tuple #[.int .u64 ((lo / y : Nat) : Int), .int .u64 ((lo % y : Nat) : Int)])) (w.drewN n)) :
    Calls Tryz.prog 199 #[.int .u64 0, .int .u64 ((lo : Nat) : Int), .int .u64 ((y : Nat) : Int)] w R := by
  have HR := Lib.hid hR; clear hR
  have e1 : ((y : Int) == 0) = false := by simp; omega
  have e2 : ¬ ((y : Int) ≤ 0) := by omega
  have hq1 : (0 : Int) ≤ (lo : Int) := by omega
  have hq2 : (1 : Int) ≤ (y : Int) := by omega
  have HLO := Lib.hid hlo
  clear hlo
  go_enter Tryz.func199, Tryz.ntmps199
  go_wp2
  go_quiet (fail)
  go_wp2
  first | go_ret | skip
  have hb : (lo : Int) / (y : Int) ≤ 18446744073709551615 := by
    have := Nat.div_le_self lo y
    have hlo := HLO.out
    rw [W64_eq] at hlo
    rw [← Int.natCast_ediv]
    generalize lo / y = z at *
    omega
  have := HR.out nq
  rw [wrapu _ (by rw [← Int.natCast_ediv]; exact Int.natCast_nonneg _) hb]
  simpa using this

theorem bitLenAux_spec : ∀ (f x : Nat), x < 2 ^ f → 0 < x → 1 ≤ Lib.bitLenAux f x ∧ Lib.bitLenAux f x ≤ f ∧ 2 ^ (Lib.bitLenAux f x - 1) ≤ x ∧ x < 2 ^ Lib.bitLenAux f x := by
  intro f
  induction f with
  | zero => intro x hx h0; simp at hx; omega
  | succ f ih =>
    intro x hx h0
    rw [Lib.bitLenAux, if_neg (by omega)]
    by_cases h1 : x / 2 = 0
    · have : x = 1 := by omega
      subst this
      have e : Lib.bitLenAux f (1 / 2) = 0 := by
        show Lib.bitLenAux f 0 = 0
        cases f <;> simp [Lib.bitLenAux]
      rw [e]; simp
    · obtain ⟨a1, a2, a3, a4⟩ := ih (x / 2) (by rw [Nat.pow_succ] at hx; omega) (by omega)
      generalize Lib.bitLenAux f (x / 2) = n at *
      refine ⟨by omega, by omega, ?_, ?_⟩
      · rw [show 1 + n - 1 = (n - 1) + 1 by omega, Nat.pow_succ]; omega
      · rw [Nat.add_comm, Nat.pow_succ]; omega

/-- how far a limb is shifted until its highest bit is 1 -/
theorem lead_spec (y : Nat) (h0 : 0 < y) (hy : y < W64) : ∃ s : Nat, s < 64 ∧ (64 - (Lib.bitLen (y : Int).toNat : Int)) = (s : Int) ∧ 9223372036854775808 ≤ y * 2 ^ s ∧ y * 2 ^ s < W64 := by
  have h64 : (2 : Nat) ^ 64 = W64 := rfl
  obtain ⟨a1, a2, a3, a4⟩ := bitLenAux_spec 64 y (by rw [h64]; exact hy) h0
  rw [Int.toNat_natCast]
  unfold Lib.bitLen
  generalize Lib.bitLenAux 64 y = n at *
  refine ⟨64 - n, by omega, by omega, ?_, ?_⟩
  · have : 2 ^ (n - 1) * 2 ^ (64 - n) ≤ y * 2 ^ (64 - n) := Nat.mul_le_mul_right _ a3
    rw [← Nat.pow_add, show n - 1 + (64 - n) = 63 by omega] at this
    exact this
  · have : y * 2 ^ (64 - n) < 2 ^ n * 2 ^ (64 - n) := Nat.mul_lt_mul_of_pos_right a4 (Nat.pow_pos (by omega))
    rw [← Nat.pow_add, show n + (64 - n) = 64 by omega, h64] at this
    exact this

/-- the parts of a division by a divisor that is shifted -/
theorem wrap_rest (u n D Q v : Nat) (hQ : Q = (u * 4294967296 + n) / D) (hv : v = (u * 4294967296 + n) % D) (hD : D < 18446744073709551616) (hD0 : 0 < D) :
    IntKind.u64.wrap (IntKind.u64.wrap (IntKind.u64.wrap ((u : Int) * 4294967296) + (n : Int)) - IntKind.u64.wrap ((Q : Int) * (D : Int))) = (v : Int) := by
  rw [IntKind.wrap_u64, IntKind.wrap_u64, IntKind.wrap_u64, IntKind.wrap_u64, hv]
  refine sub_wrap _ _ (u * 4294967296 + n) D 18446744073709551616 Q ?_ ?_ hQ (by omega) hD0
  · omega
  · rw [Int.natCast_mul]; exact Int.emod_emod_of_dvd _ (Int.dvd_refl _)

theorem div_norm (hi lo y s : Nat) (hlo : lo < W64) (hlt : hi < y) (hs : s < 64) (h1 : 9223372036854775808 ≤ y * 2 ^ s) (h2 : y * 2 ^ s < W64) :
    ∃ D u n1 n0 y1 y0 : Nat, IntKind.u64.wrap ((y : Int) * 2 ^ s) = (D : Int) ∧ D = y * 2 ^ s ∧ (D : Int) / 4294967296 = (y1 : Int) ∧ bits .and .u64 (D : Int) 4294967295 = (y0 : Int) ∧
      (∃ H : Nat, IntKind.u64.wrap ((hi : Int) * 2 ^ s) = (H : Int) ∧ bits .or .u64 (H : Int) ((lo : Int) / 2 ^ (64 - s)) = (u : Int)) ∧ True ∧
      (∃ L : Nat, IntKind.u64.wrap ((lo : Int) * 2 ^ s) = (L : Int) ∧ (L : Int) / 4294967296 = (n1 : Int) ∧ bits .and .u64 (L : Int) 4294967295 = (n0 : Int)) ∧ True ∧ True ∧
      D = y1 * 4294967296 + y0 ∧ D < 18446744073709551616 ∧ y0 < 4294967296 ∧ 4294967296 ≤ 2 * y1 ∧ u < D ∧ n1 < 4294967296 ∧ n0 < 4294967296 ∧
      (hi * W64 + lo) * 2 ^ s = u * (4294967296 * 4294967296) + (n1 * 4294967296 + n0) := by
  have hp : 0 < 2 ^ s := Nat.pow_pos (by omega)
  have hq : 0 < 2 ^ (64 - s) := Nat.pow_pos (by omega)
  have hpq : 2 ^ s * 2 ^ (64 - s) = W64 := by rw [← Nat.pow_add, show s + (64 - s) = 64 by omega]; rfl
  have hsh : hi * 2 ^ s < W64 := Nat.lt_of_le_of_lt (Nat.mul_le_mul_right _ (Nat.le_of_lt hlt)) h2
  have hlq : lo / 2 ^ (64 - s) < 2 ^ s := by rw [Nat.div_lt_iff_lt_mul hq, hpq]; exact hlo
  have hand : ∀ a : Nat, a < W64 → bits .and .u64 (a : Int) 4294967295 = ((a % 4294967296 : Nat) : Int) := fun a ha => Mul64.maskN a ha
  have hc : ∀ a : Nat, ((a : Int) * 2 ^ s) = ((a * 2 ^ s : Nat) : Int) := fun a => by rw [Int.natCast_mul, Int.natCast_pow]; rfl
  have hdv : (lo : Int) / 2 ^ (64 - s) = ((lo / 2 ^ (64 - s) : Nat) : Int) := by rw [Int.natCast_ediv, Int.natCast_pow]; rfl
  have hor : hi * 2 ^ s ||| lo / 2 ^ (64 - s) = hi * 2 ^ s + lo / 2 ^ (64 - s) := by
    rw [Nat.or_comm, or_add _ _ _ hlq, Nat.add_comm]
  have hpt := shl_parts W64 (2 ^ s) (2 ^ (64 - s)) lo hpq.symm hp
  have hL : lo * 2 ^ s % W64 < W64 := Nat.mod_lt _ (by rw [W64_eq]; omega)
  have hdm := Nat.div_add_mod (lo * 2 ^ s) W64
  rw [hpt.2] at hdm
  have hle : (hi + 1) * 2 ^ s ≤ y * 2 ^ s := Nat.mul_le_mul_right _ hlt
  rw [Nat.add_mul, Nat.one_mul] at hle
  have hlw : lo / 2 ^ (64 - s) < W64 := by omega
  have hmulN : (hi * W64 + lo) * 2 ^ s = hi * 2 ^ s * W64 + lo * 2 ^ s := by rw [Nat.add_mul, Nat.mul_right_comm]
  refine ⟨y * 2 ^ s, hi * 2 ^ s + lo / 2 ^ (64 - s), lo * 2 ^ s % W64 / 4294967296, lo * 2 ^ s % W64 % 4294967296, y * 2 ^ s / 4294967296, y * 2 ^ s % 4294967296, ?_, rfl, ?_, hand _ h2, ⟨hi * 2 ^ s, ?_, ?_⟩, trivial, ⟨lo * 2 ^ s % W64, ?_, ?_, hand _ hL⟩, trivial, trivial, ?_⟩
  · rw [hc]; exact Mul64.wrapN _ h2
  · rw [Mul64.divN]
  · rw [hc]; exact Mul64.wrapN _ hsh
  · rw [hdv]
    have := bits_or_u64_nat (hi * 2 ^ s) (lo / 2 ^ (64 - s)) hsh hlw
    rw [this, hor]
  · rw [hc]; exact Mul64.wrapM _
  · rw [Mul64.divN]
  · rw [hmulN]
    generalize hi * 2 ^ s = H at *
    generalize y * 2 ^ s = D at *
    generalize lo * 2 ^ s = L at *
    generalize lo / 2 ^ (64 - s) = c at *
    generalize 2 ^ s = P at *
    rw [W64_eq] at *
    refine ⟨by omega, by omega, by omega, by omega, by omega, by omega, by omega, by omega⟩

set_option maxRecDepth 100000 in
set_option maxHeartbeats 1000000 in
theorem div64_main (hi lo y : Nat) (w : World) (hh : 0 < hi) (hlo : lo < W64) (hy : y < W64) (hlt : hi < y) (R : Ending → World → Prop)
    (hR : R (.returned (.tuple #[.int .u64 (((hi * W64 + lo) / y : Nat) : Int), .int .u64 (((hi * W64 + lo) % y : Nat) : Int)])) w) :
    Calls Tryz.prog 199 #[.int .u64 ((hi : Nat) : Int), .int .u64 ((lo : Nat) : Int), .int .u64 ((y : Nat) : Int)] w R := by
  have HR := Lib.hid hR; clear hR
  have e1 : ((y : Int) == 0) = false := by simp; omega
  have e2 : ¬ ((y : Int) ≤ (hi : Int)) := by omega
  have e3 : ((hi : Int) == 0) = false := by simp; omega
  obtain ⟨s, hs64, hs, hn1, hn2⟩ := lead_spec y (by omega) hy
  have HS := Lib.hid hs
  have hy2 : (y : Int) ≤ 18446744073709551615 := by rw [W64_eq] at hy; omega
  have hlo2 : (lo : Int) ≤ 18446744073709551615 := by rw [W64_eq] at hlo; omega
  have hhi2 : (hi : Int) ≤ 18446744073709551615 := by omega
  obtain ⟨D, u, n1, n0, y1, y0, hD1, hD2, hy1, hy0, hU1, hU2, hL1, hL2, hL3, hDe, hDle, hy0l, hbn, hul, hn1l, hn0l, hfin⟩ := div_norm hi lo y s hlo hlt hs64 hn1 hn2
  obtain ⟨H, hH1, hH2⟩ := hU1
  obtain ⟨L, hL4, hL5, hL6⟩ := hL1
  have HFIN := Lib.hid hfin
  have HD2 := Lib.hid hD2
  clear hD2 hU2 hL2 hL3
  have HDE := Lib.hid hDe
  have HBN := Lib.hid hbn
  have HUL := Lib.hid hul
  have hy1p : 1 ≤ y1 := by omega
  have hDpos : 0 < D := by omega
  have hub : (u : Int) ≤ 18446744073709551615 := by omega
  have hDb : (D : Int) ≤ 18446744073709551615 := by omega
  obtain ⟨q, hq⟩ : ∃ q, q = u / y1 := ⟨_, rfl⟩
  obtain ⟨r, hr⟩ : ∃ r, r = u % y1 := ⟨_, rfl⟩
  have hqr : u = q * y1 + r := by rw [hq, hr, Nat.mul_comm]; exact (Nat.div_add_mod u y1).symm
  have hrl : r < y1 := by rw [hr]; exact Nat.mod_lt _ hy1p
  have hst := half_start 4294967296 D y1 y0 u n1 q r hDe hy0l hbn hul hn1l hqr hrl
  have hqe : (u : Int) / (y1 : Int) = (q : Int) := by rw [hq]; exact (Int.natCast_ediv u y1).symm
  obtain ⟨p, hp⟩ : ∃ p, p = q * y1 := ⟨_, rfl⟩
  have hpe : (q : Int) * (y1 : Int) = (p : Int) := by rw [hp]; exact (Int.natCast_mul q y1).symm
  have hpu : (p : Int) + (r : Int) = (u : Int) := by omega
  have hre : (u : Int) - (p : Int) = (r : Int) := by omega
  have hqb : (q : Int) ≤ 4294967297 := by omega
  have HQR := Lib.hid hqr
  have HST := Lib.hid hst
  have HRL := Lib.hid hrl
  have hy1b : (y1 : Int) ≤ 4294967295 := by omega
  have hy0b : (y0 : Int) ≤ 4294967295 := by omega
  have hn1b : (n1 : Int) ≤ 4294967295 := by omega
  have hn0b : (n0 : Int) ≤ 4294967295 := by omega
  have hy1i : (1 : Int) ≤ (y1 : Int) := by omega
  have hrb : (r : Int) ≤ 4294967295 := by omega
  have hpb : (p : Int) ≤ (u : Int) := by omega
  clear hlo hy hs hn1 hn2 hDe hDle hy0l hbn hul hn1l hn0l hfin hq hr hqr hst hp hpu hrl hy1p
  go_enter Tryz.func199, Tryz.ntmps199
  go_wp2_with fail
  refine (Tryz.bits_LeadingZeros64 (y : Int) _ (by omega) hy2).mono ?_
  rintro e w1 ⟨rfl, rfl⟩
  rw [HS.out]
  dsimp only
  have hs0 : (0 : Int) ≤ (s : Int) := by omega
  have hs65 : (s : Int) < 64 := by omega
  go_upto_block 0 with fail
  clear e1 e3 hH1 hH2 hL4 hL5 hL6 hD1 hy1 hy0 hqe hpe hre hpb
  obtain ⟨Q, hQ⟩ : ∃ Q, Q = (u * 4294967296 + n1) / D := ⟨_, rfl⟩
  have HQ := Lib.hid hQ
  have hst2 := HST.out
  rw [← hQ] at hst2
  obtain ⟨hq1, hq2, hq3⟩ := hst2
  have hy0n : y0 < 4294967296 := by omega
  clear hQ
  go_cut [15] (fun a wx => a = .int .u64 ((Q : Nat) : Int) ∧ wx = w1)
  case first =>
    go_wp2_with fail
    go_loop [15, 16] (fun a b => ∃ q r : Nat, a = .int .u64 ((q : Nat) : Int) ∧ b = .int .u64 ((r : Nat) : Int) ∧ u = q * y1 + r ∧ Q ≤ q ∧ q ≤ 4294967297 ∧ r < 4294967296) (fun a _ => (intOf a).toNat)
    case atStart => exact ⟨q, r, rfl, rfl, HQR.out, hq1, hq2, by have := HRL.out; omega⟩
    case round =>
      clear hq1 hq2 hqb hrb
      clear HQR HST HRL
      obtain ⟨q, r, rfl, rfl, hqr, hq1, hq2, hr⟩ := hrel
      have HQR := Lib.hid hqr
      clear hqr
      by_cases hbig : 4294967296 ≤ q
      · obtain ⟨hp1, hp2, hp3⟩ := half_dec 4294967296 D y1 y0 u n1 q r HDE.out hDpos HQR.out (by rw [← HQ.out]; exact hq3) (by rw [← HQ.out]; exact hq1) (.inl hbig)
        rw [← HQ.out] at hp2
        have HP3 := Lib.hid hp3
        clear hp3
        have hq5 : (1 : Int) ≤ (q : Int) := by omega
        have hq6 : (q : Int) ≤ 4294967297 := by omega
        have hbigi : (4294967296 : Int) ≤ (q : Int) := by omega
        have HBIG := Lib.hid hbig
        clear hbig
        by_cases hr2 : 4294967296 ≤ r + y1
        · have hr3 : (4294967296 : Int) ≤ (r : Int) + (y1 : Int) := by omega
          have HR2 := Lib.hid hr2
          clear hr2
          go_wp2_with fail
          go_meet
          have hr2 := HR2.out
          have := half_break 4294967296 D y1 y0 u n1 (q - 1) (r + y1) HDE.out hDpos hy0n HP3.out (by rw [← HQ.out]; exact hp2) (by omega) hr2
          rw [← HQ.out] at this
          exact ⟨congrArg (Value.int .u64) (by omega), rfl⟩
        · have hr3 : ¬ (4294967296 : Int) ≤ (r : Int) + (y1 : Int) := by omega
          go_wp2
          go_round
          case rel => exact ⟨q - 1, r + y1, congrArg (Value.int .u64) (by omega), congrArg (Value.int .u64) (by omega), HP3.out, hp2, by omega, by omega⟩
          case measure => simp [intOf]; omega
      · obtain ⟨a, ha⟩ : ∃ a, a = q * y0 := ⟨_, rfl⟩
        have hae : (q : Int) * (y0 : Int) = (a : Int) := by rw [ha]; exact (Int.natCast_mul q y0).symm
        have hal : a ≤ 18446744065119617025 := by rw [ha]; exact Nat.mul_le_mul (by omega : q ≤ 4294967295) (by omega : y0 ≤ 4294967295)
        have hali : (a : Int) ≤ 18446744065119617025 := by omega
        have hqs : ¬ (4294967296 : Int) ≤ (q : Int) := by omega
        have hrs : (r : Int) ≤ 4294967295 := by omega
        have HA := Lib.hid ha
        clear ha
        by_cases hc : 4294967296 * r + n1 < a
        · obtain ⟨hp1, hp2, hp3⟩ := half_dec 4294967296 D y1 y0 u n1 q r HDE.out hDpos HQR.out (by rw [← HQ.out]; exact hq3) (by rw [← HQ.out]; exact hq1) (.inr (by rw [← HA.out]; exact hc))
          rw [← HQ.out] at hp2
          have HP3 := Lib.hid hp3
          clear hp3
          have hci : 4294967296 * (r : Int) + (n1 : Int) < (a : Int) := by omega
          have hq5 : (1 : Int) ≤ (q : Int) := by omega
          by_cases hr2 : 4294967296 ≤ r + y1
          · have hr3 : (4294967296 : Int) ≤ (r : Int) + (y1 : Int) := by omega
            go_wp2_with fail
            go_meet
            have := half_break 4294967296 D y1 y0 u n1 (q - 1) (r + y1) HDE.out hDpos hy0n HP3.out (by rw [← HQ.out]; exact hp2) (by omega) hr2
            rw [← HQ.out] at this
            exact ⟨congrArg (Value.int .u64) (by omega), rfl⟩
          · have hr3 : ¬ (4294967296 : Int) ≤ (r : Int) + (y1 : Int) := by omega
            go_wp2
            go_round
            case rel => exact ⟨q - 1, r + y1, congrArg (Value.int .u64) (by omega), congrArg (Value.int .u64) (by omega), HP3.out, hp2, by omega, by omega⟩
            case measure => simp [intOf]; omega
        · have hci : ¬ 4294967296 * (r : Int) + (n1 : Int) < (a : Int) := by omega
          have := half_stop 4294967296 D y1 y0 u n1 q r HDE.out hDpos HQR.out (by rw [← HQ.out]; exact hq1) (by rw [← HA.out]; omega)
          rw [← HQ.out] at this
          subst this
          go_wp2_with fail
          go_meet
          exact ⟨rfl, rfl⟩
  case rest =>
    obtain ⟨rfl, rfl⟩ := hcut
    clear HQR HST HRL hq1 hq2 hqb hrb
    obtain ⟨v, hv⟩ : ∃ v, v = (u * 4294967296 + n1) % D := ⟨_, rfl⟩
    have hve := wrap_rest u n1 D Q v HQ.out hv (by omega) hDpos
    have hvl : v < D := by rw [hv]; exact Nat.mod_lt _ hDpos
    have HV := Lib.hid hv
    obtain ⟨q', hq⟩ : ∃ q, q = v / y1 := ⟨_, rfl⟩
    obtain ⟨r', hr⟩ : ∃ r, r = v % y1 := ⟨_, rfl⟩
    have hy1p : 1 ≤ y1 := by omega
    have hqr : v = q' * y1 + r' := by rw [hq, hr, Nat.mul_comm]; exact (Nat.div_add_mod v y1).symm
    have hrl : r' < y1 := by rw [hr]; exact Nat.mod_lt _ hy1p
    have hst := half_start 4294967296 D y1 y0 v n0 q' r' HDE.out hy0n HBN.out hvl (by omega) hqr hrl
    have hqe : (v : Int) / (y1 : Int) = (q' : Int) := by rw [hq]; exact (Int.natCast_ediv v y1).symm
    obtain ⟨p', hp⟩ : ∃ p, p = q' * y1 := ⟨_, rfl⟩
    have hpe : (q' : Int) * (y1 : Int) = (p' : Int) := by rw [hp]; exact (Int.natCast_mul q' y1).symm
    have hpu : (p' : Int) + (r' : Int) = (v : Int) := by omega
    have hre : (v : Int) - (p' : Int) = (r' : Int) := by omega
    have hqb' : (q' : Int) ≤ 4294967297 := by omega
    have hrb' : (r' : Int) ≤ 4294967295 := by omega
    have hpb : (p' : Int) ≤ (v : Int) := by omega
    have hvb : (v : Int) ≤ 18446744073709551615 := by omega
    have HQR2 := Lib.hid hqr
    have HRL2 := Lib.hid hrl
    obtain ⟨Q0, hQ⟩ : ∃ Q, Q = (v * 4294967296 + n0) / D := ⟨_, rfl⟩
    have HQ0 := Lib.hid hQ
    rw [← hQ] at hst
    obtain ⟨hq1', hq2', hq3'⟩ := hst
    clear hv hq hr hqr hrl hp hpu hQ hy1p hvl
    go_upto_block 2 with fail
    clear hve hqe hpe hre hpb
    go_cut [18] (fun a wx => a = .int .u64 ((Q0 : Nat) : Int) ∧ wx = wc)
    case first =>
      go_wp2_with fail
      go_loop [18, 16] (fun a b => ∃ q r : Nat, a = .int .u64 ((q : Nat) : Int) ∧ b = .int .u64 ((r : Nat) : Int) ∧ v = q * y1 + r ∧ Q0 ≤ q ∧ q ≤ 4294967297 ∧ r < 4294967296) (fun a _ => (intOf a).toNat)
      case atStart => exact ⟨q', r', rfl, rfl, HQR2.out, hq1', hq2', by have := HRL2.out; omega⟩
      case round =>
        clear hq1' hq2' hqb' hrb'
        clear HQR2 HRL2
        obtain ⟨q, r, rfl, rfl, hqr, hq1, hq2, hr⟩ := hrel
        have HQR := Lib.hid hqr
        clear hqr
        by_cases hbig : 4294967296 ≤ q
        · obtain ⟨hp1, hp2, hp3⟩ := half_dec 4294967296 D y1 y0 v n0 q r HDE.out hDpos HQR.out (by rw [← HQ0.out]; exact hq3') (by rw [← HQ0.out]; exact hq1) (.inl hbig)
          rw [← HQ0.out] at hp2
          have HP3 := Lib.hid hp3
          clear hp3
          have hq5 : (1 : Int) ≤ (q : Int) := by omega
          have hq6 : (q : Int) ≤ 4294967297 := by omega
          have hbigi : (4294967296 : Int) ≤ (q : Int) := by omega
          have HBIG := Lib.hid hbig
          clear hbig
          by_cases hr2 : 4294967296 ≤ r + y1
          · have hr3 : (4294967296 : Int) ≤ (r : Int) + (y1 : Int) := by omega
            have HR2 := Lib.hid hr2
            clear hr2
            go_wp2_with fail
            go_meet
            have hr2 := HR2.out
            have := half_break 4294967296 D y1 y0 v n0 (q - 1) (r + y1) HDE.out hDpos hy0n HP3.out (by rw [← HQ0.out]; exact hp2) (by omega) hr2
            rw [← HQ0.out] at this
            exact ⟨congrArg (Value.int .u64) (by omega), rfl⟩
          · have hr3 : ¬ (4294967296 : Int) ≤ (r : Int) + (y1 : Int) := by omega
            go_wp2
            go_round
            case rel => exact ⟨q - 1, r + y1, congrArg (Value.int .u64) (by omega), congrArg (Value.int .u64) (by omega), HP3.out, hp2, by omega, by omega⟩
            case measure => simp [intOf]; omega
        · obtain ⟨a, ha⟩ : ∃ a, a = q * y0 := ⟨_, rfl⟩
          have hae : (q : Int) * (y0 : Int) = (a : Int) := by rw [ha]; exact (Int.natCast_mul q y0).symm
          have hal : a ≤ 18446744065119617025 := by rw [ha]; exact Nat.mul_le_mul (by omega : q ≤ 4294967295) (by omega : y0 ≤ 4294967295)
          have hali : (a : Int) ≤ 18446744065119617025 := by omega
          have hqs : ¬ (4294967296 : Int) ≤ (q : Int) := by omega
          have hrs : (r : Int) ≤ 4294967295 := by omega
          have HA := Lib.hid ha
          clear ha
          by_cases hc : 4294967296 * r + n0 < a
          · obtain ⟨hp1, hp2, hp3⟩ := half_dec 4294967296 D y1 y0 v n0 q r HDE.out hDpos HQR.out (by rw [← HQ0.out]; exact hq3') (by rw [← HQ0.out]; exact hq1) (.inr (by rw [← HA.out]; exact hc))
            rw [← HQ0.out] at hp2
            have HP3 := Lib.hid hp3
            clear hp3
            have hci : 4294967296 * (r : Int) + (n0 : Int) < (a : Int) := by omega
            have hq5 : (1 : Int) ≤ (q : Int) := by omega
            by_cases hr2 : 4294967296 ≤ r + y1
            · have hr3 : (4294967296 : Int) ≤ (r : Int) + (y1 : Int) := by omega
              go_wp2_with fail
              go_meet
              have := half_break 4294967296 D y1 y0 v n0 (q - 1) (r + y1) HDE.out hDpos hy0n HP3.out (by rw [← HQ0.out]; exact hp2) (by omega) hr2
              rw [← HQ0.out] at this
              exact ⟨congrArg (Value.int .u64) (by omega), rfl⟩
            · have hr3 : ¬ (4294967296 : Int) ≤ (r : Int) + (y1 : Int) := by omega
              go_wp2
              go_round
              case rel => exact ⟨q - 1, r + y1, congrArg (Value.int .u64) (by omega), congrArg (Value.int .u64) (by omega), HP3.out, hp2, by omega, by omega⟩
              case measure => simp [intOf]; omega
          · have hci : ¬ 4294967296 * (r : Int) + (n0 : Int) < (a : Int) := by omega
            have := half_stop 4294967296 D y1 y0 v n0 q r HDE.out hDpos HQR.out (by rw [← HQ0.out]; exact hq1) (by rw [← HA.out]; omega)
            rw [← HQ0.out] at this
            subst this
            go_wp2_with fail
            go_meet
            exact ⟨rfl, rfl⟩
    case rest =>
      obtain ⟨rfl, rfl⟩ := hcut
      clear HQR2 HRL2 hq1' hq2' hqb' hrb'
      obtain ⟨v2, hv2⟩ : ∃ v2, v2 = (v * 4294967296 + n0) % D := ⟨_, rfl⟩
      have hve := wrap_rest v n0 D Q0 v2 HQ0.out hv2 (by omega) hDpos
      have hq4 : (Q : Int) ≤ 4294967295 := by omega
      have hq5 : (Q0 : Int) ≤ 4294967295 := by omega
      have HV2 := Lib.hid hv2
      have hvb2 : (v2 : Int) ≤ 18446744073709551615 := by
        have := Nat.mod_lt (v * 4294967296 + n0) hDpos
        rw [← hv2] at this; omega
      clear hv2 hq3 hq3'
      go_wp2
      first | go_ret | skip
      have hA : Q * 4294967296 + Q0 = (hi * W64 + lo) / y ∧ v2 / 2 ^ s = (hi * W64 + lo) % y := by
        have h1 := two_halves 4294967296 D u n1 n0 hDpos
        rw [← HV.out, ← HQ.out, ← HQ0.out, ← HV2.out, ← HFIN.out, HD2.out] at h1
        have h2 := shift_div (hi * W64 + lo) y (2 ^ s) (Nat.pow_pos (by omega))
        exact ⟨by rw [← h1.1, h2.1], by rw [← h1.2, h2.2]⟩
      have hB : (v2 : Int) / 2 ^ s = ((v2 / 2 ^ s : Nat) : Int) := by rw [Int.natCast_ediv, Int.natCast_pow]; rfl
      show R (.returned (.tuple #[.int .u64 ((Q : Int) * 4294967296 + (Q0 : Int)), .int .u64 ((v2 : Int) / 2 ^ s)])) _
      rw [hB, hA.2, show (Q : Int) * 4294967296 + (Q0 : Int) = ((Q * 4294967296 + Q0 : Nat) : Int) by omega, hA.1]
      exact HR.out
theorem div64_any (hi lo y : Nat) (w : World) (hlo : lo < W64) (hy : y < W64) (hlt : hi < y) (q r : Nat) (hq : q = (hi * W64 + lo) / y) (hr : r = (hi * W64 + lo) % y) (R : Ending → World → Prop)
    (hR : ∀ n, R (.returned (.tuple #[.int .u64 ((q : Nat) : Int), .int .u64 ((r : Nat) : Int)])) (w.drewN n)) :
    Calls Tryz.prog 199 #[.int .u64 ((hi : Nat) : Int), .int .u64 ((lo : Nat) : Int), .int .u64 ((y : Nat) : Int)] w R := by
  by_cases h0 : hi = 0
  · subst h0
    refine div64_small lo y w hlo hlt R fun n => ?_
    have := hR n
    rw [hq, hr, Nat.zero_mul, Nat.zero_add] at this
    exact this
  · refine div64_main hi lo y w (by omega) hlo hy hlt R ?_
    have := hR 0
    rw [hq, hr] at this
    exact this

end Go.Proofs.YtdkjcdfkoahfkaaGreatDoor

namespace Go.Proofs.YtdkjcdfkoahfkaaGreatDoor
open Go Go.RowKit

/-- a value of the program's type of natural numbers -/
def IsN (w : World) (v : Value) (n : Nat) : Prop := Sl .u64 w v (dig W64 n)

theorem IsN.later {w w' : World} {v : Value} {n : Nat} {B : Nat} (h : IsN w v n) (hb : Below B w w') (hB : w.heap.size ≤ B) : IsN w' v n := Sl.later h hb hB

theorem IsN.open {w : World} {v : Value} {n : Nat} (h : IsN w v n) : ∃ ao k cap, v = .slice ao k cap ∧ k = (dig W64 n).length ∧ IsN w (.slice ao k cap) n := by
  obtain ⟨ao, cap, rfl, h2⟩ := h
  exact ⟨ao, _, cap, rfl, rfl, ao, cap, rfl, h2⟩

theorem IsN.drewN {w : World} {v : Value} {n : Nat} (h : IsN w v n) (k : Nat) : IsN (w.drewN k) v n := h

theorem info_u64 : (Tryz.prog.info? 99).map (fun i => (i.zero, i.size, i.bytes)) = some (some (.int .u64 0), 1, 8) := by kernel_rfl

theorem limb_lt (n : Nat) : ∀ d ∈ dig W64 n, d < W64 := dig_lt W64_two n

set_option maxRecDepth 100000 in
theorem nzero_any (v : Value) (n : Nat) (w : World) (h : IsN w v n) (R : Ending → World → Prop) (hR : R (.returned (.bool (decide (n = 0)))) w) :
    Calls Tryz.prog 83 #[v] w R := by
  have HR := Lib.hid hR; clear hR
  obtain ⟨ao, k, cap, rfl, hk, _⟩ := h.open
  clear h
  by_cases h0 : n = 0
  · subst h0
    rw [dig_zero] at hk
    have hk0 : k = 0 := hk
    clear hk
    subst hk0
    rw [decide_eq_true rfl] at HR
    go_enter Tryz.func83, Tryz.ntmps83
    go_wp2
    first | go_ret | skip
    exact HR.out
  · have hk0 : k ≠ 0 := fun e => h0 ((dig_eq_nil W64_two).1 (List.length_eq_zero_iff.1 (hk.symm.trans e)))
    have e : ((k : Int) == 0) = false := by simp; omega
    rw [decide_eq_false h0] at HR
    clear hk
    go_enter Tryz.func83, Tryz.ntmps83
    go_wp2
    first | go_ret | skip
    exact HR.out

theorem dig_one {B : Nat} (hB : 2 ≤ B) (n x : Nat) (h : dig B n = [x]) : n = x := by
  have := val_dig hB n
  rw [h] at this
  simpa [val] using this.symm

set_option maxRecDepth 100000 in
theorem none_any (v : Value) (n : Nat) (w : World) (h : IsN w v n) (R : Ending → World → Prop) (hR : R (.returned (.bool (decide (n = 1)))) w) :
    Calls Tryz.prog 130 #[v] w R := by
  have HR := Lib.hid hR; clear hR
  obtain ⟨ao, k, cap, rfl, hk, hs⟩ := h.open
  by_cases h1 : k = 1
  · subst h1
    obtain ⟨x, hx⟩ := List.length_eq_one_iff.1 hk.symm
    have hnx := dig_one W64_two n x hx
    obtain ⟨b, off, rfl, hb, hc⟩ := Sl.at hs 0 (by omega)
    rw [hx, Nat.add_zero] at hc
    have hc2 : w.cell? ⟨b, off, none⟩ = some (.int .u64 (x : Int)) := hc
    rw [hnx] at HR
    clear hx hc hk hnx h hs
    by_cases hx1 : x = 1
    · subst hx1
      rw [decide_eq_true rfl] at HR
      go_enter Tryz.func130, Tryz.ntmps130
      go_wp2
      first | go_ret | skip
      exact HR.out
    · have e : ((x : Int) == 1) = false := by simp; omega
      rw [decide_eq_false hx1] at HR
      go_enter Tryz.func130, Tryz.ntmps130
      go_wp2
      first | go_ret | skip
      exact HR.out
  · have hn : n ≠ 1 := by
      intro e
      subst e
      rw [dig_small (by omega) (by rw [W64_eq]; omega)] at hk
      exact h1 hk
    have e : ((k : Int) == 1) = false := by simp; omega
    rw [decide_eq_false hn] at HR
    clear hk hs h
    go_enter Tryz.func130, Tryz.ntmps130
    go_wp2
    first | go_ret | skip
    exact HR.out

/-- the block that a slice lies in -/
def blk : Value → Option Nat
  | .slice (some a) _ _ => some a.block
  | _ => none

set_option maxRecDepth 100000 in
/-- limbs without the zeros at their end -/
theorem trimmed_any (v : Value) (xs : List Nat) (w : World) (hs : Sl .u64 w v xs) (hd : ∀ d ∈ xs, d < W64) (hlen : xs.length ≤ 1000000000) (R : Ending → World → Prop)
    (hR : ∀ v', IsN w v' (val W64 xs) → blk v' = blk v → R (.returned v') w) :
    Calls Tryz.prog 144 #[v] w R := by
  have HR := Lib.hid hR; clear hR
  rcases hs.cases with ⟨rfl, ao2, cap2, rfl⟩ | ⟨h0, b, off, cap2, rfl, hcap, hb, hc⟩
  · go_enter Tryz.func144, Tryz.ntmps144
    go_wp2
    go_loop [0] (fun v => v = .slice ao2 0 cap2) (fun _ => 0)
    case atStart => rfl
    case round =>
      subst hrel
      go_wp2
      first | go_ret | skip
      refine HR.out _ ?_ rfl
      show Sl _ _ _ (dig W64 0)
      rw [dig_zero]; exact hs
  · obtain ⟨len, hl⟩ : ∃ len, len = xs.length := ⟨_, rfl⟩
    have HC := Lib.hid (take_cut W64_two xs hd)
    have hcm : len ≤ 1000000000 := by omega
    rw [← hl] at h0 hc hcap
    have Hl := Lib.hid hl
    rw [← hl]
    clear hl hlen hd hs
    have hcm2 : len ≤ cap2 := hcap
    go_enter Tryz.func144, Tryz.ntmps144
    go_wp2
    go_loop [0] (fun v => ∃ k : Nat, k ≤ len ∧ v = .slice (some ⟨b, off, none⟩) k cap2 ∧ cutLen xs k = cutLen xs len) (fun v => match v with | .slice _ n _ => n | _ => 0)
    case atStart => exact ⟨len, Nat.le_refl _, rfl, rfl⟩
    case round =>
      obtain ⟨k, hk, rfl, hcut⟩ := hrel
      have Hcut := Lib.hid hcut; clear hcut
      have hfin : cutLen xs k = k → R (.returned (.slice (some ⟨b, off, none⟩) k cap2)) w := by
        intro e
        refine HR.out _ ?_ rfl
        show Sl _ _ _ (dig W64 (val W64 xs))
        rw [← HC.out, ← Hl.out, ← Hcut.out, e]
        exact Sl.take k (by rw [← Hl.out]; exact hk) (by rw [← Hl.out]; exact hcm2) hb (fun i hi => hc i (by rw [Hl.out]; exact hi))
      have HF := Lib.hid hfin
      clear hfin
      by_cases hk0 : 0 < k
      · obtain ⟨j, rfl⟩ : ∃ j, k = j + 1 := ⟨k - 1, by omega⟩
        have hcell := hc j (by omega)
        obtain ⟨x, hx⟩ : ∃ x, x = xs.getD j 0 := ⟨_, rfl⟩
        rw [← hx] at hcell
        have Hx := Lib.hid hx; clear hx
        have hjc : j ≤ cap2 := by omega
        by_cases hz : x = 0
        · subst hz
          clear hc
          go_wp2
          go_round
          case rel => exact ⟨j, by omega, rfl, by have := Hcut.out; rw [← this, cutLen, if_pos Hx.out.symm]⟩
          case measure => simp
        · have e : (((x : Nat) : Int) == 0) = false := by simp; omega
          have hce : cutLen xs (j + 1) = j + 1 := by rw [cutLen, if_neg (by rw [← Hx.out]; exact hz)]
          have hr := HF.out hce
          clear hce hc
          have HRR := Lib.hid hr
          clear hr
          go_wp2
          first | go_ret | skip
          exact HRR.out
      · obtain rfl : k = 0 := by omega
        have HRR := Lib.hid (HF.out rfl)
        clear hc
        go_wp2
        first | go_ret | skip
        exact HRR.out
end Go.Proofs.YtdkjcdfkoahfkaaGreatDoor

namespace Go.Proofs.YtdkjcdfkoahfkaaGreatDoor
open Go Go.RowKit

/-- of what there was, nothing but block g has turned -/
structure But (g : Nat) (w w' : World) : Prop where
  os : w'.os = w.os
  tape : w'.tape = w.tape
  output : w'.output = w.output
  size : w.heap.size ≤ w'.heap.size
  block : ∀ k, k < w.heap.size → k ≠ g → w'.heap[k]? = w.heap[k]?

theorem But.refl (g : Nat) (w : World) : But g w w := ⟨rfl, rfl, rfl, Nat.le_refl _, fun _ _ _ => rfl⟩
theorem But.trans {g : Nat} {a b c : World} (h : But g a b) (k : But g b c) : But g a c :=
  ⟨k.os.trans h.os, k.tape.trans h.tape, k.output.trans h.output, Nat.le_trans h.size k.size, fun i hi hg => (k.block i (Nat.lt_of_lt_of_le hi h.size) hg).trans (h.block i hi hg)⟩
theorem But.setCell {g : Nat} {a w : World} (h : But g a w) (i : Nat) (u : Value) : But g a (w.setCell ⟨g, i, none⟩ u) :=
  h.trans ⟨rfl, rfl, rfl, by simp [World.setCell], fun _ _ hg => Below.heap_setCell _ _ _ _ hg⟩
theorem But.alloc {g : Nat} {a w : World} (h : But g a w) (o : Obj) : But g a (w.alloc o) :=
  h.trans ⟨rfl, rfl, rfl, by simp, fun _ hi _ => Below.heap_alloc _ _ _ hi⟩
theorem But.drew {g : Nat} {a w : World} (h : But g a w) : But g a w.drew := ⟨h.os, h.tape, h.output, h.size, h.block⟩
theorem But.ofBelow {g : Nat} {w w' : World} (h : Below w.heap.size w w') : But g w w' := ⟨h.os, h.tape, h.output, h.size, fun k hk _ => h.block k hk⟩
/-- a block of the call's own -/
theorem But.below {g B : Nat} {w w' : World} (h : But g w w') (hg : B ≤ g) (hB : B ≤ w.heap.size) : Below B w w' :=
  ⟨h.os, h.tape, h.output, h.size, fun k hk => h.block k (by omega) (by omega)⟩

theorem But.cell {g : Nat} {w w' : World} (h : But g w w') {b o : Nat} (hb : b < w.heap.size) (hg : b ≠ g) : w'.cell? ⟨b, o, none⟩ = w.cell? ⟨b, o, none⟩ :=
  World.cell?_of_block (w := w) (h.block b hb hg)

theorem Arr.but {k : IntKind} {e : TypeId} {w w' : World} {g g' : Nat} {xs : List Nat} (h : Arr k e w g xs) (hb : But g' w w') (hg : g ≠ g') : Arr k e w' g xs := by
  unfold Arr at *; rw [hb.block g (lt_of_block h) hg]; exact h

/-- a slice that does not lie in block g reads as before -/
theorem Sl.but {k : IntKind} {w w' : World} {v : Value} {xs : List Nat} {g : Nat} (h : Sl k w v xs) (hb : But g w w') (hg : 0 < xs.length → blk v ≠ some g) : Sl k w' v xs := by
  obtain ⟨ao, cap, hv, hc, hx⟩ := h
  refine ⟨ao, cap, hv, hc, fun i hi => ?_⟩
  obtain ⟨b, off, h1, h2, h3⟩ := hx i hi
  have hbg : b ≠ g := by
    intro e
    apply hg (by omega)
    rw [hv, h1, ← e]; rfl
  exact ⟨b, off, h1, Nat.lt_of_lt_of_le h2 hb.size, by rw [hb.cell h2 hbg]; exact h3⟩

/-- a slice that was there does not lie in a new block -/
theorem Sl.off {k : IntKind} {w : World} {v : Value} {xs : List Nat} (h : Sl k w v xs) {g : Nat} (hg : w.heap.size ≤ g) : 0 < xs.length → blk v ≠ some g := by
  intro h0
  rcases h.cases with ⟨rfl, _⟩ | ⟨_, b, off, cap, rfl, _, hb, _⟩
  · simp at h0
  · intro e
    simp [blk] at e
    omega

theorem Sl.blk_lt {k : IntKind} {w : World} {v : Value} {xs : List Nat} (h : Sl k w v xs) (hne : xs ≠ []) : ∃ b, blk v = some b ∧ b < w.heap.size := by
  rcases h.cases with ⟨rfl, _⟩ | ⟨_, b, off, cap, rfl, _, hb, _⟩
  · exact absurd rfl hne
  · exact ⟨b, rfl, hb⟩

theorem Sl.drw {k : IntKind} {w : World} {v : Value} {xs : List Nat} (h : Sl k w v xs) : Sl k w.drew v xs := h

/-- Add64 at this program -/
theorem add64_at (x y c : Nat) (hc : c ≤ 1) (s m : Nat) (hs : s = (x + y + c) % W64) (hm : m = (x + y + c) / W64) (w : World) :
    (callFunc 196 #[.int .u64 x, .int .u64 y, .int .u64 c]).run Tryz.prog w = .ok (.value (.tuple #[.int .u64 s, .int .u64 m])) w := by
  subst hs hm
  rw [run_callFunc_extern Tryz.func196 (by kernel_rfl) (by kernel_rfl) (by kernel_rfl) (e := add64Entry) (by kernel_rfl), run_add64 x y c (by omega) (by omega) (by omega) (by omega)]
  simp only [Result.andThen, W64]
  congr 5 <;> omega

theorem add64_0 (x y : Nat) (s m : Nat) (hs : s = (x + y) % W64) (hm : m = (x + y) / W64) (w : World) :
    (callFunc 196 #[.int .u64 x, .int .u64 y, .int .u64 0]).run Tryz.prog w = .ok (.value (.tuple #[.int .u64 s, .int .u64 m])) w :=
  add64_at x y 0 (by omega) s m hs hm w

theorem sub64_at (x y c : Nat) (hc : c ≤ 1) (s m : Nat) (hs : s = (x + W64 - y - c) % W64) (hm : m = if x < y + c then 1 else 0) (w : World) :
    (callFunc 224 #[.int .u64 x, .int .u64 y, .int .u64 c]).run Tryz.prog w = .ok (.value (.tuple #[.int .u64 s, .int .u64 m])) w := by
  subst hs hm
  rw [run_callFunc_extern Tryz.func224 (by kernel_rfl) (by kernel_rfl) (by kernel_rfl) (e := sub64Entry) (by kernel_rfl), run_sub64 x y c hc]
  rfl

theorem sub64_0 (x y : Nat) (s m : Nat) (hs : s = (x + W64 - y) % W64) (hm : m = if x < y then 1 else 0) (w : World) :
    (callFunc 224 #[.int .u64 x, .int .u64 y, .int .u64 0]).run Tryz.prog w = .ok (.value (.tuple #[.int .u64 s, .int .u64 m])) w :=
  sub64_at x y 0 (by omega) s m hs hm w

end Go.Proofs.YtdkjcdfkoahfkaaGreatDoor

namespace Go.Proofs.YtdkjcdfkoahfkaaGreatDoor
open Go Go.RowKit

theorem take_set_out (xs : List Nat) (off i z : Nat) (h : off ≤ i) : (xs.set i z).take off = xs.take off := by
  rw [List.take_set_of_le h]
theorem drop_set_out (xs : List Nat) (m i z : Nat) (h : i < m) : (xs.set i z).drop m = xs.drop m := by
  rw [List.drop_set_of_lt h]
theorem set_ltN {B : Nat} (xs : List Nat) (i z : Nat) (h : ∀ d ∈ xs, d < B) (hz : z < B) : ∀ d ∈ xs.set i z, d < B := by
  intro d hd
  rcases List.mem_or_eq_of_mem_set hd with h1 | h1
  · exact h d h1
  · rw [h1]; exact hz

def AddPRel (w : World) (g off : Nat) (rs ys : List Nat) (f : Nat) (cv iv : Value) (wr : World) : Prop :=
  ∃ (k c : Nat) (cur : List Nat), iv = .int .i64 k ∧ cv = .int .u64 c ∧ k ≤ ys.length ∧ c < W64 ∧ Arr .u64 99 wr g cur ∧ cur.length = rs.length ∧ (∀ d ∈ cur, d < W64) ∧
    cur.take off = rs.take off ∧ cur.drop (off + k) = rs.drop (off + k) ∧ val W64 cur + W64 ^ (off + k) * c = val W64 rs + W64 ^ off * (f * val W64 (ys.take k)) ∧ But g w wr ∧ wr.heap.size = w.heap.size

theorem addp_rel (w wr : World) (g off : Nat) (rs ys cur : List Nat) (f k c y x z c' : Nat) (zc : Int) (hk : k < ys.length) (hoff : off + ys.length ≤ rs.length) (hA : Arr .u64 99 wr g cur)
    (hl : cur.length = rs.length) (hlt : ∀ d ∈ cur, d < W64) (ht : cur.take off = rs.take off) (hd : cur.drop (off + k) = rs.drop (off + k))
    (hv : val W64 cur + W64 ^ (off + k) * c = val W64 rs + W64 ^ off * (f * val W64 (ys.take k))) (hb : But g w wr) (hs : wr.heap.size = w.heap.size)
    (hx : x = cur.getD (off + k) 0) (hy : y = ys.getD k 0) (hz : z + W64 * c' = x + y * f + c) (hzl : z < W64) (hcl : c' < W64) (hzc : zc = (c' : Int)) :
    AddPRel w g off rs ys f (.int .u64 zc) (.int .i64 ((k + 1 : Nat) : Int)) (wr.setCell ⟨g, off + k, none⟩ (.int .u64 z)) := by
  subst hzc
  refine ⟨k + 1, c', cur.set (off + k) z, rfl, rfl, by omega, hcl, hA.set _ _, by simp [hl], set_ltN _ _ _ hlt hzl, by rw [take_set_out _ _ _ _ (by omega)]; exact ht, ?_, ?_, hb.setCell _ _, by simp [hs]⟩
  · rw [drop_set_out _ _ _ _ (by omega)]
    have h2 := congrArg (List.drop 1) hd
    rw [List.drop_drop, List.drop_drop] at h2
    rw [← Nat.add_assoc]; exact h2
  · exact addp_step W64 cur rs ys off k f c z c' hk (by omega) (by rw [← hx, ← hy]; exact hz) hv

set_option maxRecDepth 100000 in
set_option maxHeartbeats 1000000 in
theorem addp_any (g off nl cap : Nat) (rs ys : List Nat) (bv : Value) (f : Nat) (w : World) (hA : Arr .u64 99 w g rs) (hb : Sl .u64 w bv ys) (hne : 0 < ys.length → blk bv ≠ some g) (hoff : off + ys.length ≤ rs.length)
    (hnl : ys.length ≤ nl) (hrs : ∀ d ∈ rs, d < W64) (hys : ∀ d ∈ ys, d < W64) (hf : f < W64) (hlen : rs.length ≤ 1000000000) (R : Ending → World → Prop)
    (hR : ∀ zs c w', Arr .u64 99 w' g zs → zs.length = rs.length → (∀ d ∈ zs, d < W64) → zs.take off = rs.take off → zs.drop (off + ys.length) = rs.drop (off + ys.length) →
      val W64 zs + W64 ^ (off + ys.length) * c = val W64 rs + W64 ^ off * (f * val W64 ys) → c < W64 → But g w w' → w'.heap.size = w.heap.size → R (.returned (.int .u64 ((c : Nat) : Int))) w') :
    Calls Tryz.prog 178 #[.slice (some ⟨g, off, none⟩) nl cap, bv, .int .u64 ((f : Nat) : Int)] w R := by
  have HR := Lib.hid hR; clear hR
  obtain ⟨ao, capb, hbv, hcb, hcell⟩ := hb
  subst hbv
  obtain ⟨n, hn⟩ : ∃ n, n = ys.length := ⟨_, rfl⟩
  have HN := Lib.hid hn
  have hnl2 : n ≤ nl := by omega
  have hn9 : n ≤ 1000000000 := by omega
  have HRS := Lib.hid hrs
  have HYS := Lib.hid hys
  have HOFF := Lib.hid hoff
  have HLEN := Lib.hid hlen
  have HCELL := Lib.hid hcell
  have HNE := Lib.hid hne
  rw [← hn]
  have hf2 : f < 18446744073709551616 := by rw [← W64_eq]; exact hf
  have HF := Lib.hid hf
  have hstart : AddPRel w g off rs ys f (.int .u64 0) (.int .i64 0) w :=
    ⟨0, 0, rs, rfl, rfl, Nat.zero_le _, by rw [W64_eq]; omega, hA, rfl, hrs, rfl, rfl, by simp [val], But.refl _ _, rfl⟩
  have HST := Lib.hid hstart
  clear hn hrs hys hoff hlen hcell hne hcb hf hstart hA hnl
  go_enter Tryz.func178, Tryz.ntmps178
  go_wp2
  go_loopw [7, 15] (fun c i wr => AddPRel w g off rs ys f c i wr) (fun _ i _ => n - (intOf i).toNat)
  case atStart => exact HST.out
  case round =>
    obtain ⟨k, c, cur, rfl, rfl, hk, hc, hA, hl, hlt, ht, hd, hv, hbut, hsz⟩ := hrel
    have HHL := Lib.hid hl
    have HLT := Lib.hid hlt
    have HT := Lib.hid ht
    have HD := Lib.hid hd
    have HV := Lib.hid hv
    have HSZ := Lib.hid hsz
    have HK := Lib.hid hk
    have HC := Lib.hid hc
    clear hl hlt ht hd hv hsz hk hc
    by_cases hkn : k < n
    · have hky : k < ys.length := by rw [← HN.out]; exact hkn
      obtain ⟨b, o, rfl, hb1, hc1⟩ := HCELL.out k hky
      have hbg : b ≠ g := fun e => HNE.out (by omega) (by rw [e]; rfl)
      rw [← hbut.cell (o := o + k) hb1 hbg] at hc1
      have hik : off + k < cur.length := by rw [HHL.out]; have := HOFF.out; omega
      have hc2 := hA.cell (off + k) hik
      have hc3 := hA.frozen (off + k)
      obtain ⟨y, hy⟩ : ∃ y, y = ys.getD k 0 := ⟨_, rfl⟩
      obtain ⟨x, hx⟩ : ∃ x, x = cur.getD (off + k) 0 := ⟨_, rfl⟩
      rw [← hy] at hc1
      rw [← hx] at hc2
      have hyl : y < W64 := by rw [hy]; exact getD_lt (by rw [W64_eq]; omega) _ HYS.out _
      have hxl : x < W64 := by rw [hx]; exact getD_lt (by rw [W64_eq]; omega) _ HLT.out _
      obtain ⟨hmc1, hmc2⟩ := mul_carry2 hyl HF.out HC.out hxl
      obtain ⟨hmd1, _⟩ := mul_carry hyl HF.out HC.out
      obtain ⟨hi, hhi⟩ : ∃ hi, hi = y * f / W64 := ⟨_, rfl⟩
      obtain ⟨lo, hlo⟩ : ∃ lo, lo = y * f % W64 := ⟨_, rfl⟩
      rw [← hhi, ← hlo] at hmc1 hmc2 hmd1
      obtain ⟨s1, hs1⟩ : ∃ s, s = (lo + c) % W64 := ⟨_, rfl⟩
      obtain ⟨m1, hm1⟩ : ∃ s, s = (lo + c) / W64 := ⟨_, rfl⟩
      rw [← hm1] at hmd1
      rw [← hs1, ← hm1] at hmc1 hmc2
      obtain ⟨s2, hs2⟩ : ∃ s, s = (x + s1) % W64 := ⟨_, rfl⟩
      obtain ⟨m2, hm2⟩ : ∃ s, s = (x + s1) / W64 := ⟨_, rfl⟩
      rw [← hm2] at hmc1
      rw [← hs2, ← hm2] at hmc2
      have ea1 := add64_0 lo c s1 m1 hs1 hm1
      have ea2 := add64_0 x s1 s2 m2 hs2 hm2
      have em := Lib.hid (Tryz.bits_Mul64 y f (by rw [← W64_eq]; exact hyl) (by rw [← W64_eq]; exact HF.out))
      have hs2l : s2 < W64 := by rw [hs2]; exact Nat.mod_lt _ (by rw [W64_eq]; omega)
      have hw1 : (hi : Int) + (m1 : Int) ≤ 18446744073709551615 := by rw [W64_eq] at hmd1; omega
      have hw2 : (hi : Int) + (m1 : Int) + (m2 : Int) ≤ 18446744073709551615 := by rw [W64_eq] at hmc1; omega
      have hyl2 : y < 18446744073709551616 := by rw [← W64_eq]; exact hyl
      have hkl : k < nl := by omega
      have HREL := Lib.hid (addp_rel w wr g off rs ys cur f k c y x s2 (hi + m1 + m2) ((hi : Int) + (m1 : Int) + (m2 : Int)) hky HOFF.out hA HHL.out HLT.out HT.out HD.out HV.out hbut HSZ.out hx hy hmc2 hs2l hmc1 (by omega))
      have hhi' := Lib.hid (show y * f / 18446744073709551616 = hi from hhi.symm)
      have hlo' := Lib.hid (show y * f % 18446744073709551616 = lo from hlo.symm)
      clear hhi hlo hs1 hm1 hs2 hm2 hmc1 hmc2 hmd1 hs2l hx hy hyl hxl hA hbut
      go_wp2_with fail
      refine (em.out _).mono ?_
      rintro e w1 ⟨rfl, rfl⟩
      rw [hhi'.out, hlo'.out]
      dsimp only
      go_wp2_with (first | simp only [ea1] | simp only [ea2])
      go_roundw
      case rel => exact HREL.out
      case measure => simp [intOf]; omega
    · obtain rfl : k = n := by have := HK.out; rw [← HN.out] at this; omega
      have HV2 := HV
      go_wp2
      first | go_ret | skip
      refine HR.out cur c wr hA HHL.out HLT.out HT.out (by rw [← HN.out]; exact HD.out) ?_ HC.out hbut HSZ.out
      have := HV.out
      rw [HN.out, List.take_length] at this
      exact this
end Go.Proofs.YtdkjcdfkoahfkaaGreatDoor

namespace Go.Proofs.YtdkjcdfkoahfkaaGreatDoor
open Go Go.RowKit

theorem borrow_parts (x s1 s2 m2 W : Nat) (hx : x < W) (hs : s1 < W) (hs2 : s2 = (x + W - s1) % W) (hm2 : m2 = if x < s1 then 1 else 0) : s2 + s1 = x + W * m2 ∧ m2 ≤ 1 ∧ s2 < W := by
  by_cases h : x < s1
  · rw [if_pos h] at hm2
    rw [Nat.mod_eq_of_lt (by omega)] at hs2
    subst hm2; omega
  · rw [if_neg h] at hm2
    rw [show x + W - s1 = (x - s1) + W by omega, Nat.add_mod_right, Nat.mod_eq_of_lt (by omega)] at hs2
    subst hm2; omega

def TakePRel (w : World) (g off : Nat) (rs ys : List Nat) (f : Nat) (cv iv : Value) (wr : World) : Prop :=
  ∃ (k c : Nat) (cur : List Nat), iv = .int .i64 k ∧ cv = .int .u64 c ∧ k ≤ ys.length ∧ c < W64 ∧ Arr .u64 99 wr g cur ∧ cur.length = rs.length ∧ (∀ d ∈ cur, d < W64) ∧
    cur.take off = rs.take off ∧ cur.drop (off + k) = rs.drop (off + k) ∧ val W64 cur + W64 ^ off * (f * val W64 (ys.take k)) = val W64 rs + W64 ^ (off + k) * c ∧ But g w wr ∧ wr.heap.size = w.heap.size

theorem takep_rel (w wr : World) (g off : Nat) (rs ys cur : List Nat) (f k c y x z c' : Nat) (zc : Int) (hk : k < ys.length) (hoff : off + ys.length ≤ rs.length) (hA : Arr .u64 99 wr g cur)
    (hl : cur.length = rs.length) (hlt : ∀ d ∈ cur, d < W64) (ht : cur.take off = rs.take off) (hd : cur.drop (off + k) = rs.drop (off + k))
    (hv : val W64 cur + W64 ^ off * (f * val W64 (ys.take k)) = val W64 rs + W64 ^ (off + k) * c) (hb : But g w wr) (hs : wr.heap.size = w.heap.size)
    (hx : x = cur.getD (off + k) 0) (hy : y = ys.getD k 0) (hz : z + y * f + c = x + W64 * c') (hzl : z < W64) (hcl : c' < W64) (hzc : zc = (c' : Int)) :
    TakePRel w g off rs ys f (.int .u64 zc) (.int .i64 ((k + 1 : Nat) : Int)) (wr.setCell ⟨g, off + k, none⟩ (.int .u64 z)) := by
  subst hzc
  refine ⟨k + 1, c', cur.set (off + k) z, rfl, rfl, by omega, hcl, hA.set _ _, by simp [hl], set_ltN _ _ _ hlt hzl, by rw [take_set_out _ _ _ _ (by omega)]; exact ht, ?_, ?_, hb.setCell _ _, by simp [hs]⟩
  · rw [drop_set_out _ _ _ _ (by omega)]
    have h2 := congrArg (List.drop 1) hd
    rw [List.drop_drop, List.drop_drop] at h2
    rw [← Nat.add_assoc]; exact h2
  · exact takep_step W64 cur rs ys off k f c z c' hk (by omega) (by rw [← hx, ← hy]; exact hz) hv

set_option maxRecDepth 100000 in
set_option maxHeartbeats 1000000 in
theorem takep_any (g off nl cap : Nat) (rs ys : List Nat) (bv : Value) (f : Nat) (w : World) (hA : Arr .u64 99 w g rs) (hb : Sl .u64 w bv ys) (hne : 0 < ys.length → blk bv ≠ some g) (hoff : off + ys.length ≤ rs.length)
    (hnl : ys.length ≤ nl) (hrs : ∀ d ∈ rs, d < W64) (hys : ∀ d ∈ ys, d < W64) (hf : f < W64) (hlen : rs.length ≤ 1000000000) (R : Ending → World → Prop)
    (hR : ∀ zs c w', Arr .u64 99 w' g zs → zs.length = rs.length → (∀ d ∈ zs, d < W64) → zs.take off = rs.take off → zs.drop (off + ys.length) = rs.drop (off + ys.length) →
      val W64 zs + W64 ^ off * (f * val W64 ys) = val W64 rs + W64 ^ (off + ys.length) * c → c < W64 → But g w w' → w'.heap.size = w.heap.size → R (.returned (.int .u64 ((c : Nat) : Int))) w') :
    Calls Tryz.prog 235 #[.slice (some ⟨g, off, none⟩) nl cap, bv, .int .u64 ((f : Nat) : Int)] w R := by
  have HR := Lib.hid hR; clear hR
  obtain ⟨ao, capb, hbv, hcb, hcell⟩ := hb
  subst hbv
  obtain ⟨n, hn⟩ : ∃ n, n = ys.length := ⟨_, rfl⟩
  have HN := Lib.hid hn
  have hnl2 : n ≤ nl := by omega
  have hn9 : n ≤ 1000000000 := by omega
  have HRS := Lib.hid hrs
  have HYS := Lib.hid hys
  have HOFF := Lib.hid hoff
  have HLEN := Lib.hid hlen
  have HCELL := Lib.hid hcell
  have HNE := Lib.hid hne
  rw [← hn]
  have hf2 : f < 18446744073709551616 := by rw [← W64_eq]; exact hf
  have HF := Lib.hid hf
  have hstart : TakePRel w g off rs ys f (.int .u64 0) (.int .i64 0) w :=
    ⟨0, 0, rs, rfl, rfl, Nat.zero_le _, by rw [W64_eq]; omega, hA, rfl, hrs, rfl, rfl, by simp [val], But.refl _ _, rfl⟩
  have HST := Lib.hid hstart
  clear hn hrs hys hoff hlen hcell hne hcb hf hstart hA hnl
  go_enter Tryz.func235, Tryz.ntmps235
  go_wp2
  go_loopw [7, 15] (fun c i wr => TakePRel w g off rs ys f c i wr) (fun _ i _ => n - (intOf i).toNat)
  case atStart => exact HST.out
  case round =>
    obtain ⟨k, c, cur, rfl, rfl, hk, hc, hA, hl, hlt, ht, hd, hv, hbut, hsz⟩ := hrel
    have HHL := Lib.hid hl
    have HLT := Lib.hid hlt
    have HT := Lib.hid ht
    have HD := Lib.hid hd
    have HV := Lib.hid hv
    have HSZ := Lib.hid hsz
    have HK := Lib.hid hk
    have HC := Lib.hid hc
    clear hl hlt ht hd hv hsz hk hc
    by_cases hkn : k < n
    · have hky : k < ys.length := by rw [← HN.out]; exact hkn
      obtain ⟨b, o, rfl, hb1, hc1⟩ := HCELL.out k hky
      have hbg : b ≠ g := fun e => HNE.out (by omega) (by rw [e]; rfl)
      rw [← hbut.cell (o := o + k) hb1 hbg] at hc1
      have hik : off + k < cur.length := by rw [HHL.out]; have := HOFF.out; omega
      have hc2 := hA.cell (off + k) hik
      have hc3 := hA.frozen (off + k)
      obtain ⟨y, hy⟩ : ∃ y, y = ys.getD k 0 := ⟨_, rfl⟩
      obtain ⟨x, hx⟩ : ∃ x, x = cur.getD (off + k) 0 := ⟨_, rfl⟩
      rw [← hy] at hc1
      rw [← hx] at hc2
      have hyl : y < W64 := by rw [hy]; exact getD_lt (by rw [W64_eq]; omega) _ HYS.out _
      have hxl : x < W64 := by rw [hx]; exact getD_lt (by rw [W64_eq]; omega) _ HLT.out _
      have htb := take_borrow hyl HF.out HC.out hxl
      obtain ⟨hmd1, hmd2⟩ := mul_carry hyl HF.out HC.out
      obtain ⟨hi, hhi⟩ : ∃ hi, hi = y * f / W64 := ⟨_, rfl⟩
      obtain ⟨lo, hlo⟩ : ∃ lo, lo = y * f % W64 := ⟨_, rfl⟩
      rw [← hhi, ← hlo] at htb hmd1 hmd2
      obtain ⟨s1, hs1⟩ : ∃ s, s = (lo + c) % W64 := ⟨_, rfl⟩
      obtain ⟨m1, hm1⟩ : ∃ s, s = (lo + c) / W64 := ⟨_, rfl⟩
      have hs1l : s1 < W64 := by rw [hs1]; exact Nat.mod_lt _ (by rw [W64_eq]; omega)
      rw [← hs1, ← hm1] at htb hmd2
      rw [← hm1] at hmd1
      obtain ⟨s2, hs2⟩ : ∃ s, s = (x + W64 - s1) % W64 := ⟨_, rfl⟩
      obtain ⟨m2, hm2⟩ : ∃ s, s = if x < s1 then 1 else 0 := ⟨_, rfl⟩
      obtain ⟨hb1', hb2', hs2l⟩ := borrow_parts x s1 s2 m2 W64 hxl hs1l hs2 hm2
      have hmc1 : hi + m1 + m2 < W64 := by
        by_cases h : x < s1
        · rw [if_pos h] at htb; omega
        · rw [if_neg h] at hm2; omega
      have hmc2 : s2 + y * f + c = x + W64 * (hi + m1 + m2) := by
        rw [Nat.mul_add W64 (hi + m1)]; omega
      have ea1 := add64_0 lo c s1 m1 hs1 hm1
      have ea2 := sub64_0 x s1 s2 m2 hs2 hm2
      have em := Lib.hid (Tryz.bits_Mul64 y f (by rw [← W64_eq]; exact hyl) (by rw [← W64_eq]; exact HF.out))
      have hw1 : (hi : Int) + (m1 : Int) ≤ 18446744073709551615 := by rw [W64_eq] at hmd1; omega
      have hw2 : (hi : Int) + (m1 : Int) + (m2 : Int) ≤ 18446744073709551615 := by rw [W64_eq] at hmc1; omega
      have hyl2 : y < 18446744073709551616 := by rw [← W64_eq]; exact hyl
      have hkl : k < nl := by omega
      have HREL := Lib.hid (takep_rel w wr g off rs ys cur f k c y x s2 (hi + m1 + m2) ((hi : Int) + (m1 : Int) + (m2 : Int)) hky HOFF.out hA HHL.out HLT.out HT.out HD.out HV.out hbut HSZ.out hx hy hmc2 hs2l hmc1 (by omega))
      have hhi' := Lib.hid (show y * f / 18446744073709551616 = hi from hhi.symm)
      have hlo' := Lib.hid (show y * f % 18446744073709551616 = lo from hlo.symm)
      clear hhi hlo hs1 hm1 hs2 hm2 hmc1 hmc2 hmd1 hmd2 hs2l hx hy hyl hxl hA hbut htb hs1l hb1' hb2'
      go_wp2_with fail
      refine (em.out _).mono ?_
      rintro e w1 ⟨rfl, rfl⟩
      rw [hhi'.out, hlo'.out]
      dsimp only
      go_wp2_with (first | simp only [ea1] | simp only [ea2])
      go_roundw
      case rel => exact HREL.out
      case measure => simp [intOf]; omega
    · obtain rfl : k = n := by have := HK.out; rw [← HN.out] at this; omega
      have HV2 := HV
      go_wp2
      first | go_ret | skip
      refine HR.out cur c wr hA HHL.out HLT.out HT.out (by rw [← HN.out]; exact HD.out) ?_ HC.out hbut HSZ.out
      have := HV.out
      rw [HN.out, List.take_length] at this
      exact this
end Go.Proofs.YtdkjcdfkoahfkaaGreatDoor

namespace Go.Proofs.YtdkjcdfkoahfkaaGreatDoor
open Go Go.RowKit

theorem Arr.drew {k : IntKind} {e : TypeId} {w : World} {g : Nat} {xs : List Nat} (h : Arr k e w g xs) : Arr k e w.drew g xs := h
theorem But.ofDrew {g : Nat} {w w' : World} (h : But g w.drew w') : But g w w' := ⟨h.os, h.tape, h.output, h.size, h.block⟩

theorem val_zeros (B n : Nat) : val B (List.replicate n 0) = 0 := by
  induction n with
  | zero => rfl
  | succ n ih => rw [List.replicate_succ, val, ih]; simp
theorem zeros_lt {B : Nat} (hB : 2 ≤ B) (n : Nat) : ∀ d ∈ List.replicate n 0, d < B := by
  intro d hd
  rw [(List.mem_replicate.1 hd).2]; omega
theorem getD_zeros (n i : Nat) : (List.replicate n 0).getD i 0 = 0 := by
  simp only [List.getD, List.getElem?_replicate]
  split <;> rfl

/-- limbs of the call's own with a value -/
def Limbs (w : World) (g len V : Nat) (wx : World) : Prop :=
  ∃ zs, Arr .u64 99 wx g zs ∧ zs.length = len ∧ (∀ d ∈ zs, d < W64) ∧ val W64 zs = V ∧ Below w.heap.size w wx ∧ wx.heap.size = w.heap.size + 1

theorem timesp_end (w W w1 : World) (n a f e c : Nat) (zs : List Nat) (hz : zs.length = n + 1) (hzl : ∀ d ∈ zs, d < W64) (hd : zs.drop n = ((List.replicate (n + 1) 0).set 0 e).drop n) (he : e < W64)
    (hv : val W64 zs + W64 ^ n * c = val W64 ((List.replicate (n + 1) 0).set 0 e) + (f * a)) (hc : c < W64) (hA : Arr .u64 99 w1 w.heap.size zs) (hb : But w.heap.size W w1) (hbW : Below w.heap.size w W) (hs : w1.heap.size = W.heap.size) (hsW : W.heap.size = w.heap.size + 1)
    (x : Nat) (hx : x = ((List.replicate (n + 1) 0).set 0 e).getD n 0) (hna : n = 0 → a = 0) : x + c < W64 ∧ zs.getD n 0 = x ∧
      Limbs w w.heap.size (n + 1) (a * f + e) (w1.setCell ⟨w.heap.size, n, none⟩ (.int .u64 ((x : Int) + (c : Int)))) := by
  have hv0 : val W64 ((List.replicate (n + 1) 0).set 0 e) = e := by
    have := val_setN W64 (List.replicate (n + 1) 0) 0 e (by simp)
    rw [val_zeros, getD_zeros] at this
    simpa using this
  have hzx : zs.getD n 0 = x := by
    have h1 := congrArg (fun l => l.getD 0 0) hd
    simp only [List.getD_eq_getElem?_getD, List.getElem?_drop, Nat.add_zero] at h1
    rw [hx]; simpa [List.getD_eq_getElem?_getD] using h1
  have hxc : x + c < W64 := by
    by_cases h0 : n = 0
    · subst h0
      have ha := hna rfl
      subst ha
      rw [hv0] at hv
      have hx0 : x = e := by rw [hx]; simp
      have : zs = [x] := by
        obtain ⟨y, rfl⟩ := List.length_eq_one_iff.1 hz
        simp at hzx; rw [hzx]
      rw [this] at hv
      simp [val] at hv
      omega
    · have hx0 : x = 0 := by
        rw [hx]
        simp only [List.getD_eq_getElem?_getD]
        rw [List.getElem?_set_ne (by omega)]
        simpa [List.getD_eq_getElem?_getD] using getD_zeros (n + 1) n
      omega
  refine ⟨hxc, hzx, zs.set n (x + c), hA.setz _ _ _ (by omega), by simp [hz], set_ltN _ _ _ hzl hxc, ?_, (hbW.trans (hb.below (by omega) (by omega))).setCell (by simp) _, by simp [hs, hsW]⟩
  have := val_setN W64 zs n (x + c) (by omega)
  rw [hzx, Nat.mul_add] at this
  rw [hv0] at hv
  have e1 : f * a = a * f := Nat.mul_comm _ _
  omega

set_option maxRecDepth 100000 in
set_option maxHeartbeats 1000000 in
theorem timesp_any (v : Value) (a f e : Nat) (w : World) (h : IsN w v a) (hf : f < W64) (he : e < W64) (hlen : (dig W64 a).length ≤ 100000000) (R : Ending → World → Prop)
    (hR : ∀ v' w', IsN w' v' (a * f + e) → Below w.heap.size w w' → (∀ b, blk v' = some b → w.heap.size ≤ b) → R (.returned v') w') :
    Calls Tryz.prog 206 #[v, .int .u64 ((f : Nat) : Int), .int .u64 ((e : Nat) : Int)] w R := by
  have HR := Lib.hid hR; clear hR
  obtain ⟨ao, n, cap, rfl, hn, hs⟩ := h.open
  have hna : n = 0 → a = 0 := by
    intro h0
    exact (dig_eq_nil W64_two).1 (List.length_eq_zero_iff.1 (hn.symm.trans h0))
  rw [← hn] at hlen
  have HN := Lib.hid hn
  have HNA := Lib.hid hna
  have HF := Lib.hid hf
  have HE := Lib.hid he
  have HS := Lib.hid hs
  have hblk := Sl.off hs (Nat.le_refl w.heap.size)
  have HBLK := Lib.hid hblk
  clear h hn hna hf he hs hblk
  go_enter Tryz.func206, Tryz.ntmps206
  go_wp2_with (at_make; go_must (refine wpList_makez _ rfl (.tmp 10) 80 rfl 99 .u64 8 Tryz.underlying80 info_u64 (by omega) .i64 _ (n + 1) rfl (by omega) (by omega) ?_))
  intro W hA hbW hsW
  have hfz := hA.frozen 0
  have hcz := hA.cell 0 (by simp)
  go_wp2
  obtain ⟨L, hL⟩ : ∃ L, L = W.setCell ⟨w.heap.size, 0, none⟩ (.int .u64 (e : Int)) := ⟨_, rfl⟩
  have hA2 : Arr .u64 99 L w.heap.size ((List.replicate (n + 1) 0).set 0 e) := by rw [hL]; exact hA.set _ _
  have hbL : Below w.heap.size w L := by rw [hL]; exact hbW.setCell (by simp) _
  have hsL : L.heap.size = w.heap.size + 1 := by rw [hL]; simp [hsW]
  have hsl : Sl .u64 L (.slice ao n cap) (dig W64 a) := HS.out.later hbL (Nat.le_refl _)
  rw [← hL]
  clear hA hbW hfz hcz hL hsW
  obtain ⟨x, hx⟩ : ∃ x, x = ((List.replicate (n + 1) 0).set 0 e).getD n 0 := ⟨_, rfl⟩
  have hcx := hA2.cell n (by simp)
  have hfx := hA2.frozen n
  rw [← hx] at hcx
  have hrsl : ∀ d ∈ ((List.replicate (n + 1) 0).set 0 e), d < W64 := set_ltN _ _ _ (zeros_lt W64_two _) HE.out
  have HRS := Lib.hid hrsl
  have HX := Lib.hid hx
  have HSL := Lib.hid hsL
  have hnn : (0 : Int) ≤ (n : Int) := by omega
  have hnn2 : (n : Int) < (n : Int) + 1 := by omega
  clear hrsl hx hsL
  go_cut [] (fun wx => Limbs w w.heap.size (n + 1) (a * f + e) wx)
  case first =>
    go_region_law (go_simp; go_at_call 178; refine addp_any w.heap.size 0 (n + 1) (n + 1) ((List.replicate (n + 1) 0).set 0 e) (dig W64 a) _ f _ hA2.drew (Sl.drw hsl) HBLK.out (by rw [← HN.out]; simp) (by rw [← HN.out]; omega) HRS.out (limb_lt _) HF.out (by simp; omega) _ ?_; intro zs c w1 hz1 hz2 hz3 hz4 hz5 hz6 hz7 hz8 hz9; rw [← HN.out, Nat.zero_add] at hz5 hz6; rw [Nat.pow_zero, Nat.one_mul, val_dig W64_two] at hz6; obtain ⟨ht1, ht2, ht3⟩ := timesp_end w L w1 n a f e c zs (by rw [hz2]; simp) hz3 hz5 HE.out hz6 hz7 hz1 hz8.ofDrew hbL hz9 HSL.out x HX.out HNA.out; have hcy := hz1.cell n (by rw [hz2]; simp); rw [ht2] at hcy; have hfy := hz1.frozen n; have hxc : (x : Int) + (c : Int) ≤ 18446744073709551615 := (by rw [W64_eq] at ht1; omega); have hwr := wrapu ((x : Int) + (c : Int)) (by omega) hxc; have HT3 := Lib.hid ht3; clear hz1 hz2 hz3 hz4 hz5 hz6 hz7 hz8 hz9 ht1 ht2 ht3; dsimp only)
    all_goals (go_wp2_with fail; go_meet; exact HT3.out)
  case rest =>
    clear hcx hfx hA2 hsl hbL
    obtain ⟨zs, hz1, hz2, hz3, hz4, hz5, hz6⟩ := hcut
    have HZ4 := Lib.hid hz4
    have HZ6 := Lib.hid hz6
    have HZ5 := Lib.hid hz5
    have hz2' := Lib.hid hz2
    clear hz4 hz6 hz5 hz2
    go_wp2_with fail
    refine trimmed_any _ zs _ (hz1.sl _ _ (by rw [hz2'.out]) (Nat.le_refl _)) hz3 (by rw [hz2'.out]; omega) _ ?_
    intro v' hv' hb'
    rw [HZ4.out] at hv'
    dsimp only
    go_wp2
    first | go_ret | skip
    refine HR.out _ _ hv' HZ5.out ?_
    intro b hb
    have hb2 : blk v' = some b := hb
    rw [hb'] at hb2
    simp [blk] at hb2
    omega
end Go.Proofs.YtdkjcdfkoahfkaaGreatDoor

namespace Go.Proofs.YtdkjcdfkoahfkaaGreatDoor
open Go Go.RowKit

theorem rem_step (m x W v r : Nat) (hr : r = v % m) : (r * W + x) % m = (x + W * v) % m := by
  rw [hr, Nat.add_comm, Nat.mul_comm, Nat.add_mod, Nat.mul_mod, Nat.mod_mod, ← Nat.mul_mod, ← Nat.add_mod]

set_option maxRecDepth 100000 in
set_option maxHeartbeats 1000000 in
theorem rems_any (v : Value) (a m : Nat) (w : World) (h : IsN w v a) (hm : 0 < m) (hmw : m < W64) (hlen : (dig W64 a).length ≤ 1000000000) (R : Ending → World → Prop)
    (hR : ∀ w', Below w.heap.size w w' → w'.heap.size = w.heap.size → R (.returned (.int .u64 ((a % m : Nat) : Int))) w') :
    Calls Tryz.prog 140 #[v, .int .u64 ((m : Nat) : Int)] w R := by
  have HR := Lib.hid hR; clear hR
  obtain ⟨ao, n, cap, rfl, hn, hs⟩ := h.open
  obtain ⟨xs, hxs⟩ : ∃ xs, xs = dig W64 a := ⟨_, rfl⟩
  have hvx : val W64 xs = a := by rw [hxs]; exact val_dig W64_two _
  have hx : ∀ d ∈ xs, d < W64 := by rw [hxs]; exact limb_lt _
  unfold IsN at hs
  rw [← hn] at hlen
  rw [← hxs] at hs hn
  have HN := Lib.hid hn
  have HVX := Lib.hid hvx
  have HX := Lib.hid hx
  have HS := Lib.hid hs
  have HMW := Lib.hid hmw
  clear h hn hxs hvx hx hs hmw
  go_enter Tryz.func140, Tryz.ntmps140
  go_wp2
  go_loopw [5, 6] (fun r i wr => ∃ k z : Nat, i = .int .i64 ((k : Int) - 1) ∧ k ≤ n ∧ r = .int .u64 ((z : Nat) : Int) ∧ z = val W64 (xs.drop k) % m ∧ Below w.heap.size w wr ∧ wr.heap.size = w.heap.size) (fun _ i _ => (intOf i + 1).toNat)
  case atStart => exact ⟨n, 0, rfl, Nat.le_refl _, rfl, by rw [HN.out, List.drop_length]; simp [val], Below.refl _ _, rfl⟩
  case round =>
    obtain ⟨k, z, rfl, hk, rfl, hz, hbel, hsz⟩ := hrel
    have HZ := Lib.hid hz
    have HSZ := Lib.hid hsz
    clear hz hsz
    by_cases hk0 : k = 0
    · subst hk0
      have hfin : z = a % m := by rw [HZ.out, List.drop_zero, HVX.out]
      have HF := Lib.hid hfin
      have HB := Lib.hid hbel
      clear hfin hbel
      go_wp2
      first | go_ret | skip
      have := HR.out _ HB.out HSZ.out
      rw [← HF.out] at this
      exact this
    · obtain ⟨j, rfl⟩ : ∃ j, k = j + 1 := ⟨k - 1, by omega⟩
      obtain ⟨b, o, rfl, hb1, hc1⟩ := Sl.at HS.out j (by omega)
      rw [← hbel.cell (p := ⟨b, o + j, none⟩) hb1] at hc1
      obtain ⟨x, hxe⟩ : ∃ x, x = xs.getD j 0 := ⟨_, rfl⟩
      rw [← hxe] at hc1
      have hxl : x < W64 := by rw [hxe]; exact getD_lt (by rw [W64_eq]; omega) _ HX.out _
      have es : ((j + 1 : Nat) : Int) - 1 = (j : Int) := by omega
      rw [es]
      have hzm : z < m := by rw [HZ.out]; exact Nat.mod_lt _ hm
      have hstep : (z * W64 + x) % m = val W64 (xs.drop j) % m := by
        rw [rem_step m x W64 (val W64 (xs.drop (j + 1))) z HZ.out, hxe, ← val_drop W64 xs j (by rw [← HN.out]; omega)]
      have HST := Lib.hid hstep
      have HXL := Lib.hid hxl
      have HB := Lib.hid hbel
      have hjn : (j : Int) < (n : Int) := by omega
      clear hxe hxl es hstep hbel
      go_wp2_with fail
      refine div64_any z x m _ HXL.out HMW.out hzm _ _ rfl rfl _ ?_
      intro nd
      rw [HST.out]
      dsimp only
      go_wp2
      go_roundw
      case rel => exact ⟨j, _, rfl, by omega, rfl, rfl, below_draws HB.out _, HSZ.out⟩
      case measure => simp [intOf]

def DivSRel (w : World) (g n m : Nat) (xs : List Nat) (rv iv : Value) (wr : World) : Prop :=
  ∃ (k z : Nat) (qs : List Nat), iv = .int .i64 ((k : Int) - 1) ∧ k ≤ n ∧ rv = .int .u64 ((z : Nat) : Int) ∧ z < m ∧ Arr .u64 99 wr g qs ∧ qs.length = n ∧ (∀ d ∈ qs, d < W64) ∧
    val W64 (qs.drop k) * m + z = val W64 (xs.drop k) ∧ Below w.heap.size w wr ∧ wr.heap.size = w.heap.size + 1

theorem drop_set_at (xs : List Nat) (i z : Nat) (h : i < xs.length) : (xs.set i z).drop i = z :: xs.drop (i + 1) := by
  rw [List.drop_eq_getElem_cons (by simpa using h), List.getElem_set_self, drop_set_out _ _ _ _ (by omega)]

theorem divs_rel (w wr : World) (g n m j z x q r : Nat) (xs qs : List Nat) (hj : j < n) (hxn : n = xs.length) (hA : Arr .u64 99 wr g qs) (hl : qs.length = n) (hlt : ∀ d ∈ qs, d < W64)
    (hv : val W64 (qs.drop (j + 1)) * m + z = val W64 (xs.drop (j + 1))) (hb : Below w.heap.size w wr) (hs : wr.heap.size = w.heap.size + 1) (hg : w.heap.size ≤ g) (hx : x = xs.getD j 0)
    (hm : 0 < m) (hzm : z < m) (hxl : x < W64) (hq : q = (z * W64 + x) / m) (hr : r = (z * W64 + x) % m) (nd : Nat) :
    DivSRel w g n m xs (.int .u64 ((r : Nat) : Int)) (.int .i64 ((j : Int) - 1)) ((wr.drewN nd).setCell ⟨g, j, none⟩ (.int .u64 ((q : Nat) : Int))) := by
  have hql : q < W64 := by
    rw [hq, Nat.div_lt_iff_lt_mul hm]
    have : (z + 1) * W64 ≤ m * W64 := Nat.mul_le_mul_right _ hzm
    rw [Nat.add_mul, Nat.one_mul] at this
    rw [Nat.mul_comm W64]
    omega
  refine ⟨j, r, qs.set j q, rfl, by omega, rfl, by rw [hr]; exact Nat.mod_lt _ hm, (hA.drewN nd).set _ _, by simp [hl], set_ltN _ _ _ hlt hql, ?_, (below_draws hb nd).setCell hg _, by simp [hs]⟩
  rw [drop_set_at _ _ _ (by omega), val_cons_pos, val_drop W64 xs j (by omega), ← hx]
  have hdm := Nat.div_add_mod (z * W64 + x) m
  rw [← hq, ← hr] at hdm
  generalize val W64 (qs.drop (j + 1)) = A at *
  generalize val W64 (xs.drop (j + 1)) = X at *
  grind

set_option maxRecDepth 100000 in
set_option maxHeartbeats 1000000 in
theorem divs_own (v : Value) (a m : Nat) (w : World) (h : IsN w v a) (hm : 0 < m) (hmw : m < W64) (hlen : (dig W64 a).length ≤ 100000000) (R : Ending → World → Prop)
    (hR : ∀ v' w', IsN w' v' (a / m) → Below w.heap.size w w' → (∀ b, blk v' = some b → w.heap.size ≤ b) → R (.returned (.tuple #[v', .int .u64 ((a % m : Nat) : Int)])) w') :
    Calls Tryz.prog 181 #[v, .int .u64 ((m : Nat) : Int)] w R := by
  have HR := Lib.hid hR; clear hR
  obtain ⟨ao, n, cap, rfl, hn, hs⟩ := h.open
  obtain ⟨xs, hxs⟩ : ∃ xs, xs = dig W64 a := ⟨_, rfl⟩
  have hvx : val W64 xs = a := by rw [hxs]; exact val_dig W64_two _
  have hx : ∀ d ∈ xs, d < W64 := by rw [hxs]; exact limb_lt _
  unfold IsN at hs
  rw [← hn] at hlen
  rw [← hxs] at hs hn
  have HN := Lib.hid hn
  have HVX := Lib.hid hvx
  have HX := Lib.hid hx
  have HS := Lib.hid hs
  have HMW := Lib.hid hmw
  clear h hn hxs hvx hx hs hmw
  go_enter Tryz.func181, Tryz.ntmps181
  go_wp2_with (at_make; go_must (refine wpList_makez _ rfl (.tmp 10) 80 rfl 99 .u64 8 Tryz.underlying80 info_u64 (by omega) .i64 _ n rfl (by omega) (by omega) ?_))
  intro W hA hbW hsW
  have hst : DivSRel w w.heap.size n m xs (.int .u64 0) (.int .i64 ((n : Int) - 1)) W :=
    ⟨n, 0, _, rfl, Nat.le_refl _, rfl, hm, hA, by simp, zeros_lt W64_two _, by rw [List.drop_eq_nil_of_le (by simp), HN.out, List.drop_length]; simp [val], hbW, hsW⟩
  have HST := Lib.hid hst
  clear hA hbW hsW hst
  go_wp2
  go_loopw [7, 8] (fun r i wr => DivSRel w w.heap.size n m xs r i wr) (fun _ i _ => (intOf i + 1).toNat)
  case atStart => exact HST.out
  case round =>
    clear HST
    obtain ⟨k, z, qs, rfl, hk, rfl, hzm, hA, hl, hlt, hv, hbel, hsz⟩ := hrel
    have HL := Lib.hid hl
    have HLT := Lib.hid hlt
    have HV := Lib.hid hv
    have HSZ := Lib.hid hsz
    have HB := Lib.hid hbel
    clear hl hlt hv hsz
    by_cases hk0 : k = 0
    · subst hk0
      have hv0 := HV.out
      rw [List.drop_zero, List.drop_zero, HVX.out] at hv0
      have hq : val W64 qs = a / m ∧ z = a % m := by
        have h1 : a / m = val W64 qs := by
          rw [← hv0, Nat.mul_comm, Nat.mul_add_div hm, Nat.div_eq_of_lt hzm, Nat.add_zero]
        have h2 : a % m = z := by
          rw [← hv0, Nat.mul_comm, Nat.mul_add_mod, Nat.mod_eq_of_lt hzm]
        exact ⟨h1.symm, h2.symm⟩
      have HQ := Lib.hid hq
      clear hv0 hq hbel
      go_wp2_with fail
      refine trimmed_any _ qs _ (hA.sl _ _ (by rw [HL.out]) (Nat.le_refl _)) HLT.out (by rw [HL.out]; omega) _ ?_
      intro v' hv' hbv
      rw [HQ.out.1] at hv'
      have HBV : Hid (∀ b, blk v' = some b → w.heap.size ≤ b) := Lib.hid (by
        intro b e; rw [hbv] at e; simp only [blk, Option.some.injEq] at e; omega)
      clear hbv
      dsimp only
      go_wp2
      first | go_ret | skip
      have := HR.out _ _ hv' HB.out HBV.out
      rw [← HQ.out.2] at this
      exact this
    · obtain ⟨j, rfl⟩ : ∃ j, k = j + 1 := ⟨k - 1, by omega⟩
      obtain ⟨b, o, rfl, hb1, hc1⟩ := Sl.at HS.out j (by omega)
      rw [← hbel.cell (p := ⟨b, o + j, none⟩) hb1] at hc1
      obtain ⟨x, hxe⟩ : ∃ x, x = xs.getD j 0 := ⟨_, rfl⟩
      rw [← hxe] at hc1
      have hxl : x < W64 := by rw [hxe]; exact getD_lt (by rw [W64_eq]; omega) _ HX.out _
      have es : ((j + 1 : Nat) : Int) - 1 = (j : Int) := by omega
      rw [es]
      obtain ⟨q, hq⟩ : ∃ q, q = (z * W64 + x) / m := ⟨_, rfl⟩
      obtain ⟨r, hr⟩ : ∃ r, r = (z * W64 + x) % m := ⟨_, rfl⟩
      have HREL := Lib.hid (divs_rel w wr w.heap.size n m j z x q r xs qs (by omega) HN.out hA HL.out HLT.out HV.out HB.out HSZ.out (Nat.le_refl _) hxe hm hzm hxl hq hr)
      have HQ := Lib.hid hq
      have HRR := Lib.hid hr
      have HXL := Lib.hid hxl
      have hcj := hA.cell j (by rw [HL.out]; omega)
      have hfj := hA.frozen j
      have hjn : (j : Int) < (n : Int) := by omega
      clear hxe hxl es hbel hq hr hA
      go_wp2_with fail
      refine div64_any z x m _ HXL.out HMW.out hzm q r HQ.out HRR.out _ ?_
      intro nd
      dsimp only
      go_wp2
      go_roundw
      case rel => exact HREL.out nd
      case measure => simp [intOf]

theorem divs_any (v : Value) (a m : Nat) (w : World) (h : IsN w v a) (hm : 0 < m) (hmw : m < W64) (hlen : (dig W64 a).length ≤ 100000000) (R : Ending → World → Prop)
    (hR : ∀ v' w', IsN w' v' (a / m) → Below w.heap.size w w' → R (.returned (.tuple #[v', .int .u64 ((a % m : Nat) : Int)])) w') :
    Calls Tryz.prog 181 #[v, .int .u64 ((m : Nat) : Int)] w R :=
  divs_own v a m w h hm hmw hlen R fun v' w' h1 h2 _ => hR v' w' h1 h2
end Go.Proofs.YtdkjcdfkoahfkaaGreatDoor

namespace Go.Proofs.YtdkjcdfkoahfkaaGreatDoor
open Go Go.RowKit

/-- copy of numbers to the head of a block that is known whole -/
theorem wpList_copy_nums {P : Program} {w : World} {ops : Array Oper} {rest : List Oper} {o : Oper} {a : Act} {Q : Exit → Act → World → Prop} (hgd : o.guard = none) (d s : Operand) (dT sT : TypeId)
    (ho : o.op = .call { callee := .builtin .copy, args := #[d, s], argTypes := #[dT, sT] }) (elem : TypeId) (hu : P.underlying dT = some (.slice elem)) (hsz : (P.info? elem).map (·.size) = some 1)
    (k : IntKind) (e : TypeId) (g dl dcap : Nat) (rs ys : List Nat) (hA : Arr k e w g rs) (hd : a.eval d = .slice (some ⟨g, 0, none⟩) dl dcap) (sv : Value) (hs : a.eval s = sv) (hS : Sl k w sv ys)
    (hle : ys.length ≤ dl) (hdl : dl ≤ rs.length)
    (h : ∀ w', Arr k e w' g (ys ++ rs.drop ys.length) → But g w w' → w'.heap.size = w.heap.size → wpList P ops Q rest (a.put o.dst (goInt ys.length)) w') :
    wpList P ops Q (o :: rest) a w := by
  obtain ⟨ao, cap, rfl, hc, hx⟩ := hS
  by_cases h0 : ys.length = 0
  · obtain rfl : ys = [] := List.eq_nil_of_length_eq_zero h0
    refine wpList_copy_nothing hgd d s dT sT ho elem hu hsz _ ao dl dcap _ cap hd hs (by simp [Nat.min_def]) ?_
    exact h w (by simpa using hA) (But.refl _ _) rfl
  · obtain ⟨b, off, rfl, _, _⟩ := hx 0 (by omega)
    have hcs : ∀ j v, (nums k ys)[j]? = some v → w.cell? ((⟨b, off, none⟩ : Addr).add j) = some v := by
      intro j v hj
      have hjl : j < ys.length := by
        have := (List.getElem?_eq_some_iff.1 hj).1
        simpa [nums] using this
      obtain ⟨b2, off2, e2, _, h3⟩ := hx j hjl
      cases e2
      rw [nums_get k ys j hjl] at hj
      rw [← Option.some.inj hj]
      have ea : (⟨b, off, none⟩ : Addr).add j = ⟨b, off + j, none⟩ := by
        by_cases hj0 : j = 0
        · subst hj0; rfl
        · simp [Addr.add, hj0]
      rw [ea]; exact h3
    refine wpList_copy_own hgd d s dT sT ho elem hu hsz g 0 dl dcap ⟨b, off, none⟩ ys.length cap hd hs (nums k rs).toArray e hA (nums k ys) (by rw [nums_length]; exact (Nat.min_eq_left hle).symm) hcs (by rw [nums_length]; simp [nums_length]; omega)
      (by intro v hv; obtain ⟨x, _, rfl⟩ := List.mem_map.1 hv; rfl) ?_
    rw [nums_length]
    refine h _ ?_ ⟨rfl, rfl, rfl, by simp [World.setRow], fun i hi hg => setRow_other w g i _ hg⟩ (by simp [World.setRow])
    unfold Arr
    rw [setRow_heap w g _ _ e _ hA]
    simp [nums, List.map_drop]

/-- a round of a difference -/
theorem minus_step (W : Nat) (cur xs ys : List Nat) (k x y c s m : Nat) (hk : k < cur.length) (hx : cur.getD k 0 = x) (hy : y = ys.getD k 0) (hs : s + y + c = x + W * m)
    (hv : val W cur + val W (ys.take k) = val W xs + W ^ k * c) : val W (cur.set k s) + val W (ys.take (k + 1)) = val W xs + W ^ (k + 1) * m := by
  have h1 := val_setN W cur k s hk
  rw [hx] at h1
  have h2 : val W (ys.take (k + 1)) = val W (ys.take k) + W ^ k * y := by
    by_cases h : k < ys.length
    · rw [val_take_succ W ys k h, hy]
    · rw [List.take_of_length_le (by omega), List.take_of_length_le (by omega), hy]
      simp [List.getD, List.getElem?_eq_none (by omega : ys.length ≤ k)]
  rw [h2, Nat.pow_succ]
  generalize val W (cur.set k s) = A at *
  generalize W ^ k = P at *
  grind

def MinusRel (w : World) (g n : Nat) (xs ys : List Nat) (cv iv : Value) (wr : World) : Prop :=
  ∃ (k c : Nat) (cur : List Nat), iv = .int .i64 ((k : Nat) : Int) ∧ cv = .int .u64 ((c : Nat) : Int) ∧ k ≤ n ∧ c ≤ 1 ∧ Arr .u64 99 wr g cur ∧ cur.length = n ∧ (∀ d ∈ cur, d < W64) ∧
    cur.drop k = xs.drop k ∧ val W64 cur + val W64 (ys.take k) = val W64 xs + W64 ^ k * c ∧ Below w.heap.size w wr ∧ wr.heap.size = w.heap.size + 1

theorem sub_parts (x y c s m : Nat) (hx : x < W64) (hy : y < W64) (hc : c ≤ 1) (hs : s = (x + W64 - y - c) % W64) (hm : m = if x < y + c then 1 else 0) : s + y + c = x + W64 * m ∧ m ≤ 1 ∧ s < W64 := by
  rw [W64_eq] at *
  by_cases h : x < y + c
  · rw [if_pos h] at hm; subst hm; omega
  · rw [if_neg h] at hm; subst hm; omega

theorem minus_rel (w wr : World) (g n k c x y s m : Nat) (xs ys cur : List Nat) (hk : k < n) (hxl : xs.length = n) (hA : Arr .u64 99 wr g cur) (hl : cur.length = n) (hlt : ∀ d ∈ cur, d < W64)
    (hd : cur.drop k = xs.drop k) (hv : val W64 cur + val W64 (ys.take k) = val W64 xs + W64 ^ k * c) (hb : Below w.heap.size w wr) (hs : wr.heap.size = w.heap.size + 1) (hg : w.heap.size ≤ g)
    (hx : cur.getD k 0 = x) (hy : y = ys.getD k 0) (hsm : s + y + c = x + W64 * m) (hm : m ≤ 1) (hsl : s < W64) :
    MinusRel w g n xs ys (.int .u64 ((m : Nat) : Int)) (.int .i64 ((k + 1 : Nat) : Int)) (wr.setCell ⟨g, k, none⟩ (.int .u64 ((s : Nat) : Int))) := by
  refine ⟨k + 1, m, cur.set k s, rfl, rfl, by omega, hm, hA.set _ _, by simp [hl], set_ltN _ _ _ hlt hsl, ?_, minus_step W64 cur xs ys k x y c s m (by omega) hx hy hsm hv, hb.setCell hg _, by simp [hs]⟩
  rw [drop_set_out _ _ _ _ (by omega)]
  have h2 := congrArg (List.drop 1) hd
  rw [List.drop_drop, List.drop_drop] at h2
  exact h2

set_option maxRecDepth 100000 in
set_option maxHeartbeats 1000000 in
theorem minus_any (va vb : Value) (a b : Nat) (w : World) (ha : IsN w va a) (hb : IsN w vb b) (hle : b ≤ a) (hlen : (dig W64 a).length ≤ 100000000) (R : Ending → World → Prop)
    (hR : ∀ v' w', IsN w' v' (a - b) → Below w.heap.size w w' → R (.returned v') w') :
    Calls Tryz.prog 177 #[va, vb] w R := by
  have HR := Lib.hid hR; clear hR
  obtain ⟨ao, n, cap, rfl, hn, hsa⟩ := ha.open
  obtain ⟨bo, nb, capb, rfl, hnb, hsb⟩ := hb.open
  have hnn : nb ≤ n := by
    rw [hn, hnb]
    exact dig_length_le W64_two _ _ (Nat.lt_of_le_of_lt hle (lt_pow_dig W64_two a))
  obtain ⟨xs, hxs⟩ : ∃ xs, xs = dig W64 a := ⟨_, rfl⟩
  obtain ⟨ys, hys⟩ : ∃ ys, ys = dig W64 b := ⟨_, rfl⟩
  have hvx : val W64 xs = a := by rw [hxs]; exact val_dig W64_two _
  have hvy : val W64 ys = b := by rw [hys]; exact val_dig W64_two _
  have hx : ∀ d ∈ xs, d < W64 := by rw [hxs]; exact limb_lt _
  have hy : ∀ d ∈ ys, d < W64 := by rw [hys]; exact limb_lt _
  unfold IsN at hsa hsb
  rw [← hn] at hlen
  rw [← hxs] at hsa hn
  rw [← hys] at hsb hnb
  have HN := Lib.hid hn
  have HNB := Lib.hid hnb
  have HVX := Lib.hid hvx
  have HVY := Lib.hid hvy
  have HX := Lib.hid hx
  have HY := Lib.hid hy
  have HSA := Lib.hid hsa
  have HSB := Lib.hid hsb
  have HLE := Lib.hid hle
  clear ha hb hn hnb hxs hys hvx hvy hx hy hsa hsb hle
  go_enter Tryz.func177, Tryz.ntmps177
  go_wp2_with (at_make; go_must (refine wpList_makez _ rfl (.tmp 10) 80 rfl 99 .u64 8 Tryz.underlying80 info_u64 (by omega) .i64 _ n rfl (by omega) (by omega) ?_))
  intro W hA hbW hsW
  go_wp2_with (with_reducible refine wpList_copy_nums rfl (.tmp 12) (.tmp 13) 80 81 rfl 99 Tryz.underlying80 (by kernel_rfl) .u64 99 w.heap.size n n (List.replicate n 0) xs hA rfl (.slice ao n cap) rfl (HSA.out.later hbW (Nat.le_refl _)) (by rw [← HN.out]; exact Nat.le_refl _) (by simp) ?_)
  intro W2 hA2 hbut2 hsz2
  have hst : MinusRel w w.heap.size n xs ys (.int .u64 0) (.int .i64 0) W2 := by
    refine ⟨0, 0, xs, rfl, rfl, Nat.zero_le _, Nat.zero_le _, ?_, HN.out.symm, HX.out, rfl, by simp [val], hbW.trans (hbut2.below (Nat.le_refl _) (by omega)), by omega⟩
    have := hA2
    rwa [← HN.out, Nat.sub_self, List.replicate_zero, List.append_nil] at this
  have HST := Lib.hid hst
  clear hst hA hbW hsW hA2 hbut2 hsz2
  go_wp2
  go_loopw [6, 17] (fun c i wr => MinusRel w w.heap.size n xs ys c i wr) (fun _ i _ => n - (intOf i).toNat)
  case atStart => exact HST.out
  case round =>
    clear HST
    obtain ⟨k, c, cur, rfl, rfl, hk, hc, hA, hl, hlt, hd, hv, hbel, hsz⟩ := hrel
    have HL := Lib.hid hl
    have HLT := Lib.hid hlt
    have HD := Lib.hid hd
    have HV := Lib.hid hv
    have HB := Lib.hid hbel
    have HSZ := Lib.hid hsz
    clear hl hlt hd hv hsz
    by_cases hkn : k < n
    · obtain ⟨x, hx⟩ : ∃ x, x = cur.getD k 0 := ⟨_, rfl⟩
      obtain ⟨y, hy⟩ : ∃ y, y = ys.getD k 0 := ⟨_, rfl⟩
      have hck := hA.cell k (by rw [HL.out]; exact hkn)
      have hfk := hA.frozen k
      rw [← hx] at hck
      have hxl : x < W64 := by rw [hx]; exact getD_lt (by rw [W64_eq]; omega) _ HLT.out _
      have hyl : y < W64 := by rw [hy]; exact getD_lt (by rw [W64_eq]; omega) _ HY.out _
      obtain ⟨s, hs⟩ : ∃ s, s = (x + W64 - y - c) % W64 := ⟨_, rfl⟩
      obtain ⟨m, hm⟩ : ∃ m, m = if x < y + c then 1 else 0 := ⟨_, rfl⟩
      obtain ⟨h1, h2, h3⟩ := sub_parts x y c s m hxl hyl hc hs hm
      have HREL := Lib.hid (minus_rel w wr w.heap.size n k c x y s m xs ys cur hkn HN.out.symm hA HL.out HLT.out HD.out HV.out HB.out HSZ.out (Nat.le_refl _) hx.symm hy h1 h2 h3)
      have ea := sub64_at x y c hc s m hs hm
      have Hy := Lib.hid hy
      have hkn2 : (k : Int) < (n : Int) := by omega
      clear hx hy hxl hyl hs hm h1 h2 h3 hA
      by_cases hkb : k < nb
      · obtain ⟨b, o, rfl, hb1, hc1⟩ := Sl.at HSB.out k hkb
        rw [← hbel.cell (p := ⟨b, o + k, none⟩) hb1, ← Hy.out] at hc1
        have hkb2 : (k : Int) < (nb : Int) := by omega
        clear hbel
        go_wp2_with (simp only [ea])
        go_roundw
        case rel => exact HREL.out
        case measure => simp [intOf]; omega
      · have hkb2 : ¬ (k : Int) < (nb : Int) := by omega
        have hy0 : y = 0 := by rw [Hy.out]; simp [List.getD, List.getElem?_eq_none (by rw [← HNB.out]; omega : ys.length ≤ k)]
        clear hbel
        subst hy0
        have ea0 := ea
        rw [show ((0 : Nat) : Int) = 0 from rfl] at ea0
        clear ea
        go_wp2_with (simp only [ea0])
        go_roundw
        case rel => exact HREL.out
        case measure => simp [intOf]; omega
    · obtain rfl : k = n := by omega
      have hfin : val W64 cur = a - b := by
        have h1 := HV.out
        rw [List.take_of_length_le (by rw [← HNB.out]; exact hnn), HVX.out, HVY.out] at h1
        have h2 := val_lt cur HLT.out
        rw [HL.out] at h2
        have h3 := HLE.out
        rcases (by omega : c = 0 ∨ c = 1) with h | h
        · rw [h, Nat.mul_zero] at h1; omega
        · rw [h, Nat.mul_one] at h1; omega
      have HF := Lib.hid hfin
      clear hfin hbel
      go_wp2_with fail
      refine trimmed_any _ cur _ (hA.sl _ _ (by rw [HL.out]) (Nat.le_refl _)) HLT.out (by rw [HL.out]; omega) _ ?_
      intro v' hv' _
      rw [HF.out] at hv'
      dsimp only
      go_wp2
      first | go_ret | skip
      exact HR.out _ _ hv' HB.out
end Go.Proofs.YtdkjcdfkoahfkaaGreatDoor

namespace Go.Proofs.YtdkjcdfkoahfkaaGreatDoor
open Go Go.RowKit

theorem pow_split (s : Nat) (h : s ≤ 64) : 2 ^ s * 2 ^ (64 - s) = W64 := by
  rw [← Nat.pow_add, show s + (64 - s) = 64 by omega]; rfl

theorem or_lt (p q c a : Nat) (hpq : p * q = W64) (hc : c < p) (hp : 0 < q) : c + a % q * p < W64 := by
  have h1 : a % q + 1 ≤ q := Nat.mod_lt _ hp
  have h2 : (a % q + 1) * p ≤ q * p := Nat.mul_le_mul_right _ h1
  rw [Nat.add_mul, Nat.one_mul, Nat.mul_comm q p, hpq] at h2
  omega

/-- a limb that is shifted up by t bits, laid to c -/
theorem shl_or (x c t : Nat) (ht : t ≤ 64) (hx : x < W64) (hc : c < 2 ^ t) : ∃ h : Nat, IntKind.u64.wrap ((x : Int) * 2 ^ t) = (h : Int) ∧ bits .or .u64 (c : Int) (h : Int) = ((c + x % 2 ^ (64 - t) * 2 ^ t : Nat) : Int) ∧ c + x % 2 ^ (64 - t) * 2 ^ t < W64 := by
  have hp : 0 < 2 ^ t := Nat.pow_pos (by omega)
  have hq : 0 < 2 ^ (64 - t) := Nat.pow_pos (by omega)
  have hpq := pow_split t ht
  have hpt := shl_parts W64 (2 ^ t) (2 ^ (64 - t)) x hpq.symm hp
  have hlt := or_lt (2 ^ t) (2 ^ (64 - t)) c x hpq hc hq
  have hcw : c < W64 := by omega
  have hhw : x * 2 ^ t % W64 < W64 := Nat.mod_lt _ (by rw [W64_eq]; omega)
  refine ⟨x * 2 ^ t % W64, ?_, ?_, hlt⟩
  · rw [show ((x : Int) * 2 ^ t) = ((x * 2 ^ t : Nat) : Int) by rw [Int.natCast_mul, Int.natCast_pow]; rfl]
    exact Mul64.wrapM _
  · have := bits_or_u64_nat c (x * 2 ^ t % W64) hcw hhw
    rw [this, hpt.1, or_add _ _ _ hc]

theorem shr_nat (x t : Nat) : (x : Int) / 2 ^ t = ((x / 2 ^ t : Nat) : Int) := by rw [Int.natCast_ediv, Int.natCast_pow]; rfl

theorem shr_lt (x s : Nat) (hs : s ≤ 64) (hx : x < W64) : x / 2 ^ (64 - s) < 2 ^ s := by
  rw [Nat.div_lt_iff_lt_mul (Nat.pow_pos (by omega)), pow_split s hs]; exact hx
theorem shr_lt2 (x s : Nat) (hs : s ≤ 64) (hx : x < W64) : x / 2 ^ s < 2 ^ (64 - s) := by
  rw [Nat.div_lt_iff_lt_mul (Nat.pow_pos (by omega)), Nat.mul_comm, pow_split s hs]; exact hx

def UpRel (w : World) (g n s : Nat) (xs : List Nat) (iv : Value) (wr : World) : Prop :=
  ∃ (k : Nat) (cur : List Nat), iv = .int .i64 ((k : Nat) : Int) ∧ k ≤ n ∧ Arr .u64 99 wr g cur ∧ cur.length = n + 1 ∧ (∀ d ∈ cur, d < W64) ∧ cur.getD k 0 < 2 ^ s ∧ (∀ i, k < i → cur.getD i 0 = 0) ∧
    val W64 cur = 2 ^ s * val W64 (xs.take k) ∧ Below w.heap.size w wr ∧ wr.heap.size = w.heap.size + 1

theorem getD_set_ne (xs : List Nat) (i j z : Nat) (h : i ≠ j) : (xs.set i z).getD j 0 = xs.getD j 0 := by
  simp only [List.getD_eq_getElem?_getD]
  rw [List.getElem?_set_ne h]
theorem getD_set_eq (xs : List Nat) (i z : Nat) (h : i < xs.length) : (xs.set i z).getD i 0 = z := by
  simp only [List.getD_eq_getElem?_getD]
  rw [List.getElem?_set_self h]; rfl

theorem up_rel (w wr : World) (g n s k x c : Nat) (xs cur : List Nat) (hk : k < n) (hxl : n = xs.length) (hs : s ≤ 64) (hA : Arr .u64 99 wr g cur) (hl : cur.length = n + 1) (hlt : ∀ d ∈ cur, d < W64)
    (hz : ∀ i, k < i → cur.getD i 0 = 0) (hv : val W64 cur = 2 ^ s * val W64 (xs.take k)) (hb : Below w.heap.size w wr) (hsz : wr.heap.size = w.heap.size + 1) (hg : w.heap.size ≤ g) (hx : x = xs.getD k 0) (hc : c = cur.getD k 0)
    (hxw : x < W64) (z : Nat) (hzz : z = c + x % 2 ^ (64 - s) * 2 ^ s) (d : Nat) (hdd : d = x / 2 ^ (64 - s)) (hh : z < W64) :
    UpRel w g n s xs (.int .i64 ((k + 1 : Nat) : Int)) (((wr.setCell ⟨g, k, none⟩ (.int .u64 ((z : Nat) : Int))).drew).setCell ⟨g, k + 1, none⟩ (.int .u64 ((d : Nat) : Int))) := by
  subst hzz hdd
  have hd := shr_lt x s hs hxw
  have hp : 2 ^ s ≤ W64 := by rw [← pow_split s hs]; exact Nat.le_mul_of_pos_right _ (Nat.pow_pos (by omega))
  refine ⟨k + 1, _, rfl, by omega, (hA.set k _).drew.set (k + 1) _, by simp [hl], set_ltN _ _ _ (set_ltN _ _ _ hlt hh) (by omega), ?_, ?_, ?_, (hb.setCell hg _).drew.setCell hg _, by simp [hsz]⟩
  · rw [getD_set_eq _ _ _ (by simp; omega)]; exact hd
  · intro i hi
    rw [getD_set_ne _ _ _ _ (by omega), getD_set_ne _ _ _ _ (by omega)]
    exact hz i (by omega)
  · have := up_step W64 (2 ^ s) (2 ^ (64 - s)) cur xs k (pow_split s hs).symm (Nat.pow_pos (by omega)) (by omega) (by omega) (hz (k + 1) (by omega)) hv
    rw [← hx, ← hc] at this
    exact this

set_option maxRecDepth 100000 in
set_option maxHeartbeats 1000000 in
theorem up_any (v : Value) (a s : Nat) (w : World) (h : IsN w v a) (hs64 : s < 64) (hlen : (dig W64 a).length ≤ 100000000) (R : Ending → World → Prop)
    (hR : ∀ cur w', Arr .u64 99 w' w.heap.size cur → cur.length = (dig W64 a).length + 1 → (∀ d ∈ cur, d < W64) → val W64 cur = 2 ^ s * a → Below w.heap.size w w' → w'.heap.size = w.heap.size + 1 →
      R (.returned (.slice (some ⟨w.heap.size, 0, none⟩) ((dig W64 a).length + 1) ((dig W64 a).length + 1))) w') :
    Calls Tryz.prog 193 #[v, .int .i64 ((s : Nat) : Int)] w R := by
  have HR := Lib.hid hR; clear hR
  obtain ⟨ao, n, cap, rfl, hn, hsl⟩ := h.open
  obtain ⟨xs, hxs⟩ : ∃ xs, xs = dig W64 a := ⟨_, rfl⟩
  have hvx : val W64 xs = a := by rw [hxs]; exact val_dig W64_two _
  have hx : ∀ d ∈ xs, d < W64 := by rw [hxs]; exact limb_lt _
  unfold IsN at hsl
  rw [← hn] at hlen HR
  rw [← hxs] at hsl hn
  have HN := Lib.hid hn
  have HVX := Lib.hid hvx
  have HX := Lib.hid hx
  have HS := Lib.hid hsl
  have hs0 : (0 : Int) ≤ (s : Int) := by omega
  have hs65 : (s : Int) < 64 := by omega
  clear h hn hxs hvx hx hsl
  go_enter Tryz.func193, Tryz.ntmps193
  go_wp2_with (at_make; go_must (refine wpList_makez _ rfl (.tmp 10) 80 rfl 99 .u64 8 Tryz.underlying80 info_u64 (by omega) .i64 _ (n + 1) rfl (by omega) (by omega) ?_))
  intro W hA hbW hsW
  have hst : UpRel w w.heap.size n s xs (.int .i64 0) W :=
    ⟨0, _, rfl, Nat.zero_le _, hA, by simp, zeros_lt W64_two _, by rw [getD_zeros]; exact Nat.pow_pos (by omega), fun i _ => getD_zeros _ _, by rw [val_zeros]; simp [val], hbW, hsW⟩
  have HST := Lib.hid hst
  clear hst hA hbW hsW
  go_wp2
  go_loopw [14] (fun i wr => UpRel w w.heap.size n s xs i wr) (fun i _ => n - (intOf i).toNat)
  case atStart => exact HST.out
  case round =>
    clear HST
    obtain ⟨k, cur, rfl, hk, hA, hl, hlt, hck, hz, hv, hbel, hsz⟩ := hrel
    have HL := Lib.hid hl
    have HLT := Lib.hid hlt
    have HCK := Lib.hid hck
    have HZ := Lib.hid hz
    have HV := Lib.hid hv
    have HB := Lib.hid hbel
    have HSZ := Lib.hid hsz
    clear hl hlt hck hz hv hsz
    by_cases hkn : k < n
    · obtain ⟨b, o, rfl, hb1, hc1⟩ := Sl.at HS.out k hkn
      rw [← hbel.cell (p := ⟨b, o + k, none⟩) hb1] at hc1
      obtain ⟨x, hx⟩ : ∃ x, x = xs.getD k 0 := ⟨_, rfl⟩
      rw [← hx] at hc1
      obtain ⟨c, hc⟩ : ∃ c, c = cur.getD k 0 := ⟨_, rfl⟩
      have hcl : c < 2 ^ s := by rw [hc]; exact HCK.out
      have hc2 := hA.cell k (by rw [HL.out]; omega)
      have hf2 := hA.frozen k
      have hf3 := hA.frozen (k + 1)
      have hc3 := hA.cell (k + 1) (by rw [HL.out]; omega)
      rw [← hc] at hc2
      rw [HZ.out (k + 1) (by omega)] at hc3
      have hxl : x < W64 := by rw [hx]; exact getD_lt (by rw [W64_eq]; omega) _ HX.out _
      obtain ⟨h, hh1, hh2, hh3⟩ := shl_or x c s (by omega) hxl hcl
      obtain ⟨z, hzz⟩ : ∃ z, z = c + x % 2 ^ (64 - s) * 2 ^ s := ⟨_, rfl⟩
      obtain ⟨d, hdd⟩ : ∃ d, d = x / 2 ^ (64 - s) := ⟨_, rfl⟩
      have hsr := shr_nat x (64 - s)
      rw [← hdd] at hsr
      rw [← hzz] at hh2 hh3
      have hcn : (0 : Int) ≤ 64 - (s : Int) := by omega
      have hcn2 : ¬ (64 - (s : Int) < 0) := by omega
      have hcn3 : (64 - (s : Int)).toNat = 64 - s := by omega
      have hkn2 : (k : Int) < (n : Int) := by omega
      have hki : (0 : Int) ≤ (k : Int) := by omega
      have hkn3 : (k : Int) < (n : Int) + 1 := by omega
      have HXL := Lib.hid hxl
      have HXE := Lib.hid hx
      have HCE := Lib.hid hc
      have HH3 := Lib.hid hh3
      have HREL := Lib.hid (up_rel w wr w.heap.size n s k x c xs cur hkn HN.out (by omega) hA HL.out HLT.out HZ.out HV.out HB.out HSZ.out (Nat.le_refl _) hx hc hxl z hzz d hdd hh3)
      clear hx hc hcl hbel hxl hh3 hA hzz hdd
      go_wp2
      go_region
      all_goals
        go_wp2
        go_roundw
        case rel => exact HREL.out
        case measure => simp [intOf]; omega
    · obtain rfl : k = n := by omega
      clear hbel
      go_wp2
      first | go_ret | skip
      refine HR.out cur wr hA HL.out HLT.out ?_ HB.out HSZ.out
      rw [HV.out, List.take_of_length_le (by rw [← HN.out]; exact Nat.le_refl _), HVX.out]
end Go.Proofs.YtdkjcdfkoahfkaaGreatDoor

namespace Go.Proofs.YtdkjcdfkoahfkaaGreatDoor
open Go Go.RowKit

def DownRel (w : World) (g n s : Nat) (xs : List Nat) (iv : Value) (wr : World) : Prop :=
  ∃ (k r : Nat) (cur : List Nat), iv = .int .i64 ((k : Nat) : Int) ∧ k ≤ n ∧ Arr .u64 99 wr g cur ∧ cur.length = n ∧ (∀ d ∈ cur, d < W64) ∧ (∀ i, k ≤ i → cur.getD i 0 = 0) ∧
    cur.getD (k - 1) 0 < 2 ^ (64 - s) ∧ r < 2 ^ s ∧ 2 ^ s * val W64 cur + r = val W64 (xs.take k) ∧ Below w.heap.size w wr ∧ wr.heap.size = w.heap.size + 1

theorem down_rel0 (w wr : World) (g n s x d : Nat) (xs cur : List Nat) (hk : 0 < n) (hxl : n = xs.length) (hs : s ≤ 64) (hA : Arr .u64 99 wr g cur) (hl : cur.length = n) (hlt : ∀ d ∈ cur, d < W64)
    (hz : ∀ i, 0 ≤ i → cur.getD i 0 = 0) (r : Nat) (hv : 2 ^ s * val W64 cur + r = val W64 (xs.take 0)) (hb : Below w.heap.size w wr) (hsz : wr.heap.size = w.heap.size + 1) (hg : w.heap.size ≤ g) (hx : x = xs.getD 0 0)
    (hxw : x < W64) (hdd : d = x / 2 ^ s) :
    DownRel w g n s xs (.int .i64 ((1 : Nat) : Int)) (wr.setCell ⟨g, 0, none⟩ (.int .u64 ((d : Nat) : Int))).drew := by
  have hd := shr_lt2 x s hs hxw
  rw [← hdd] at hd
  have hq : 2 ^ (64 - s) ≤ W64 := by rw [← pow_split s hs]; exact Nat.le_mul_of_pos_left _ (Nat.pow_pos (by omega))
  have h1 := val_setN W64 cur 0 d (by omega)
  rw [hz 0 (Nat.le_refl _), Nat.pow_zero] at h1
  have h2 : val W64 cur = 0 ∧ r = 0 := by
    rw [List.take_zero] at hv
    simp only [val] at hv
    have hp : 0 < 2 ^ s := Nat.pow_pos (by omega)
    rcases Nat.eq_zero_or_pos (val W64 cur) with h | h
    · rw [h] at hv; exact ⟨h, by omega⟩
    · have := Nat.mul_pos hp h; omega
  refine ⟨1, x % 2 ^ s, _, rfl, hk, (hA.set 0 _).drew, by simp [hl], set_ltN _ _ _ hlt (by omega), ?_, ?_, Nat.mod_lt _ (Nat.pow_pos (by omega)), ?_, (hb.setCell hg _).drew, by simp [hsz]⟩
  · intro i hi
    rw [getD_set_ne _ _ _ _ (by omega)]
    exact hz i (by omega)
  · rw [getD_set_eq _ _ _ (by omega)]; exact hd
  · rw [val_take_succ W64 xs 0 (by omega), ← hx, List.take_zero]
    have := Nat.div_add_mod x (2 ^ s)
    simp only [val, Nat.pow_zero, Nat.one_mul, Nat.zero_add]
    rw [← hdd] at this
    rw [h2.1] at h1
    have e : val W64 (cur.set 0 d) = d := by omega
    rw [e]; exact this

theorem down_rel (w wr : World) (g n s k x c z d : Nat) (xs cur : List Nat) (hk : k + 1 < n) (hxl : n = xs.length) (hs : s ≤ 64) (hA : Arr .u64 99 wr g cur) (hl : cur.length = n) (hlt : ∀ d ∈ cur, d < W64)
    (hz : ∀ i, k + 1 ≤ i → cur.getD i 0 = 0) (r : Nat) (hr : r < 2 ^ s) (hv : 2 ^ s * val W64 cur + r = val W64 (xs.take (k + 1))) (hb : Below w.heap.size w wr) (hsz : wr.heap.size = w.heap.size + 1) (hg : w.heap.size ≤ g)
    (hx : x = xs.getD (k + 1) 0) (hc : c = cur.getD k 0) (hxw : x < W64) (hdd : d = x / 2 ^ s) (hzz : z = c + x % 2 ^ s * 2 ^ (64 - s)) (hh : z < W64) :
    DownRel w g n s xs (.int .i64 ((k + 1 + 1 : Nat) : Int)) (((wr.setCell ⟨g, k + 1, none⟩ (.int .u64 ((d : Nat) : Int))).drew).setCell ⟨g, k, none⟩ (.int .u64 ((z : Nat) : Int))).drew := by
  have hd := shr_lt2 x s hs hxw
  have hq : 2 ^ (64 - s) ≤ W64 := by rw [← pow_split s hs]; exact Nat.le_mul_of_pos_left _ (Nat.pow_pos (by omega))
  subst hzz hdd
  refine ⟨k + 1 + 1, r, _, rfl, by omega, ((hA.set (k + 1) _).drew.set k _).drew, by simp [hl], set_ltN _ _ _ (set_ltN _ _ _ hlt (by omega)) hh, ?_, ?_, hr, ?_, ((hb.setCell hg _).drew.setCell hg _).drew, by simp [hsz]⟩
  · intro i hi
    rw [getD_set_ne _ _ _ _ (by omega), getD_set_ne _ _ _ _ (by omega)]
    exact hz i (by omega)
  · rw [Nat.add_sub_cancel, getD_set_ne _ _ _ _ (by omega), getD_set_eq _ _ _ (by omega)]; exact hd
  · have := down_step W64 (2 ^ s) (2 ^ (64 - s)) cur xs k r (pow_split s hs).symm (by omega) (by omega) (hz (k + 1) (Nat.le_refl _)) hv
    rw [← hx, ← hc] at this
    exact this

set_option maxRecDepth 100000 in
set_option maxHeartbeats 1000000 in
theorem down_any (v : Value) (xs : List Nat) (s : Nat) (w : World) (h : Sl .u64 w v xs) (hx : ∀ d ∈ xs, d < W64) (hs64 : s < 64) (hlen : xs.length ≤ 100000000) (R : Ending → World → Prop)
    (hR : ∀ cur w', Arr .u64 99 w' w.heap.size cur → cur.length = xs.length → (∀ d ∈ cur, d < W64) → val W64 cur = val W64 xs / 2 ^ s → Below w.heap.size w w' → w'.heap.size = w.heap.size + 1 →
      R (.returned (.slice (some ⟨w.heap.size, 0, none⟩) xs.length xs.length)) w') :
    Calls Tryz.prog 195 #[v, .int .i64 ((s : Nat) : Int)] w R := by
  have HR := Lib.hid hR; clear hR
  obtain ⟨ao, cap, rfl, hrest⟩ := h
  have hsl : Sl .u64 w (.slice ao xs.length cap) xs := ⟨ao, cap, rfl, hrest⟩
  clear hrest
  obtain ⟨n, hn⟩ : ∃ n, n = xs.length := ⟨_, rfl⟩
  rw [← hn] at hlen HR hsl ⊢
  have HN := Lib.hid hn
  have HX := Lib.hid hx
  have HS := Lib.hid hsl
  have hs0 : (0 : Int) ≤ (s : Int) := by omega
  have hs65 : (s : Int) < 64 := by omega
  clear hn hx hsl
  go_enter Tryz.func195, Tryz.ntmps195
  go_wp2_with (at_make; go_must (refine wpList_makez _ rfl (.tmp 9) 80 rfl 99 .u64 8 Tryz.underlying80 info_u64 (by omega) .i64 _ n rfl (by omega) (by omega) ?_))
  intro W hA hbW hsW
  have hst : DownRel w w.heap.size n s xs (.int .i64 0) W :=
    ⟨0, 0, _, rfl, Nat.zero_le _, hA, by simp, zeros_lt W64_two _, fun i _ => getD_zeros _ _, by rw [getD_zeros]; exact Nat.pow_pos (by omega), Nat.pow_pos (by omega), by rw [val_zeros]; simp [val], hbW, hsW⟩
  have HST := Lib.hid hst
  clear hst hA hbW hsW
  go_wp2
  go_loopw [13] (fun i wr => DownRel w w.heap.size n s xs i wr) (fun i _ => n - (intOf i).toNat)
  case atStart => exact HST.out
  case round =>
    clear HST
    obtain ⟨k, r, cur, rfl, hk, hA, hl, hlt, hz, hck, hr, hv, hbel, hsz⟩ := hrel
    have HL := Lib.hid hl
    have HLT := Lib.hid hlt
    have HCK := Lib.hid hck
    have HZ := Lib.hid hz
    have HRR := Lib.hid hr
    have HV := Lib.hid hv
    have HB := Lib.hid hbel
    have HSZ := Lib.hid hsz
    clear hl hlt hck hz hv hsz hr
    by_cases hkn : k < n
    · obtain ⟨b, o, rfl, hb1, hc1⟩ := Sl.at HS.out k hkn
      rw [← hbel.cell (p := ⟨b, o + k, none⟩) hb1] at hc1
      obtain ⟨x, hx⟩ : ∃ x, x = xs.getD k 0 := ⟨_, rfl⟩
      rw [← hx] at hc1
      have hxl : x < W64 := by rw [hx]; exact getD_lt (by rw [W64_eq]; omega) _ HX.out _
      obtain ⟨d, hdd⟩ : ∃ d, d = x / 2 ^ s := ⟨_, rfl⟩
      have hdl : d < W64 := by rw [hdd]; exact Nat.lt_of_le_of_lt (Nat.div_le_self _ _) hxl
      have hsr := shr_nat x s
      rw [← hdd] at hsr
      have hor0 : bits .or .u64 0 (d : Int) = (d : Int) := by
        have := bits_or_u64_nat 0 d (by omega) hdl
        rw [Nat.zero_or] at this
        exact this
      have hkn2 : (k : Int) < (n : Int) := by omega
      have hki : (0 : Int) ≤ (k : Int) := by omega
      have hcn : (0 : Int) ≤ 64 - (s : Int) := by omega
      have hcn2 : ¬ (64 - (s : Int) < 0) := by omega
      have hcn3 : (64 - (s : Int)).toNat = 64 - s := by omega
      have hf2 := hA.frozen k
      have hc2 := hA.cell k (by rw [HL.out]; omega)
      rw [HZ.out k (Nat.le_refl _)] at hc2
      by_cases hk0 : k = 0
      · subst hk0
        have HREL := Lib.hid (down_rel0 w wr w.heap.size n s x d xs cur hkn HN.out (by omega) hA HL.out HLT.out HZ.out r HV.out HB.out HSZ.out (Nat.le_refl _) hx hxl hdd)
        clear hx hxl hdd hdl hbel hA
        rw [Nat.add_zero] at hc1
        go_wp2
        go_region
        all_goals
          go_wp2
          go_roundw
          case rel => exact HREL.out
          case measure => simp [intOf]; omega
      · obtain ⟨j, rfl⟩ : ∃ j, k = j + 1 := ⟨k - 1, by omega⟩
        obtain ⟨c, hc⟩ : ∃ c, c = cur.getD j 0 := ⟨_, rfl⟩
        have hcl : c < 2 ^ (64 - s) := by rw [hc]; exact HCK.out
        have hc4 := hA.cell j (by rw [HL.out]; omega)
        have hf4 := hA.frozen j
        rw [← hc] at hc4
        obtain ⟨h, hh1, hh2, hh3⟩ := shl_or x c (64 - s) (by omega) hxl hcl
        rw [show 64 - (64 - s) = s by omega] at hh2 hh3
        obtain ⟨z, hzz⟩ : ∃ z, z = c + x % 2 ^ s * 2 ^ (64 - s) := ⟨_, rfl⟩
        rw [← hzz] at hh2 hh3
        have HREL := Lib.hid (down_rel w wr w.heap.size n s j x c z d xs cur hkn HN.out (by omega) hA HL.out HLT.out HZ.out r HRR.out HV.out HB.out HSZ.out (Nat.le_refl _) hx hc hxl hdd hzz hh3)
        have hjp : ((j + 1 : Nat) : Int) - 1 = (j : Int) := by omega
        have hjb : (j : Int) + 1 < (n : Int) := by omega
        clear hx hxl hdd hdl hbel hA hc hcl hzz hh3 hjp hk0 hkn
        go_wp2
        go_region
        all_goals
          go_wp2
          go_region
          all_goals
            go_wp2
            go_roundw
            case rel => exact HREL.out
            case measure => simp [intOf]; omega
    · obtain rfl : k = n := by omega
      clear hbel
      go_wp2
      first | go_ret | skip
      refine HR.out cur wr hA HL.out HLT.out ?_ HB.out HSZ.out
      have := HV.out
      rw [List.take_of_length_le (by rw [← HN.out]; exact Nat.le_refl _)] at this
      rw [← this, Nat.mul_add_div (Nat.pow_pos (by omega)), Nat.div_eq_of_lt HRR.out, Nat.add_zero]
end Go.Proofs.YtdkjcdfkoahfkaaGreatDoor

namespace Go.Proofs.YtdkjcdfkoahfkaaGreatDoor
open Go Go.RowKit

/-- the value of n + 1 limbs from a place on -/
def win (xs : List Nat) (off n : Nat) : Nat := val W64 ((xs.drop off).take (n + 1))

theorem val_win (xs : List Nat) (off n : Nat) (h : off + n + 1 ≤ xs.length) : val W64 xs = val W64 (xs.take off) + W64 ^ off * (win xs off n + W64 ^ (n + 1) * val W64 (xs.drop (off + n + 1))) := by
  rw [val_take_drop W64 xs off (by omega), val_take_drop W64 (xs.drop off) (n + 1) (by rw [List.length_drop]; omega), List.drop_drop]
  rfl

theorem win_lt (xs : List Nat) (off n : Nat) (h : off + n + 1 ≤ xs.length) (hx : ∀ d ∈ xs, d < W64) : win xs off n < W64 ^ (n + 1) := by
  have := val_lt (B := W64) ((xs.drop off).take (n + 1)) (fun d hd => hx d (List.mem_of_mem_drop (List.mem_of_mem_take hd)))
  rw [List.length_take, List.length_drop, Nat.min_eq_left (by omega)] at this
  exact this

theorem win_eq (cur rs : List Nat) (off n G D m : Nat) (hl : cur.length = rs.length) (h : off + n + 1 ≤ rs.length) (ht : cur.take off = rs.take off) (hd : cur.drop (off + n + 1) = rs.drop (off + n + 1))
    (hv : val W64 cur + W64 ^ off * (G * D) = val W64 rs + W64 ^ (off + n + 1) * m) : win cur off n + G * D = win rs off n + W64 ^ (n + 1) * m := by
  rw [val_win cur off n (by omega), val_win rs off n h, ht, hd, Nat.add_assoc off n 1, Nat.pow_add W64 off] at hv
  have hp : 0 < W64 ^ off := Nat.pow_pos (by rw [W64_eq]; omega)
  apply Nat.eq_of_mul_eq_mul_left hp
  generalize W64 ^ off = P at *
  generalize W64 ^ (n + 1) = Q at *
  generalize win cur off n = A at *
  generalize win rs off n = B at *
  grind

theorem pow_pos' (n : Nat) : 0 < W64 ^ n := Nat.pow_pos (by rw [W64_eq]; omega)

/-- the highest limbs of a window bound it -/
theorem win_top (xs : List Nat) (off n : Nat) (hn : 1 ≤ n) (h : off + n + 1 ≤ xs.length) (hx : ∀ d ∈ xs, d < W64) :
    win xs off n < (xs.getD (off + n) 0 * W64 + xs.getD (off + n - 1) 0 + 1) * W64 ^ (n - 1) := by
  obtain ⟨k, rfl⟩ : ∃ k, n = k + 1 := ⟨n - 1, by omega⟩
  have e : ∀ i, i < k + 2 → (xs.drop off).getD i 0 = xs.getD (off + i) 0 := by
    intro i _
    simp only [List.getD_eq_getElem?_getD, List.getElem?_drop]
  unfold win
  rw [val_take_succ W64 (xs.drop off) (k + 1) (by rw [List.length_drop]; omega), val_take_succ W64 (xs.drop off) k (by rw [List.length_drop]; omega), e _ (by omega), e _ (by omega)]
  have h1 := val_lt (B := W64) ((xs.drop off).take k) (fun d hd => hx d (List.mem_of_mem_drop (List.mem_of_mem_take hd)))
  rw [List.length_take, List.length_drop, Nat.min_eq_left (by omega)] at h1
  rw [show off + (k + 1) - 1 = off + k by omega, Nat.add_sub_cancel, Nat.pow_succ]
  generalize W64 ^ k = P at *
  generalize val W64 ((xs.drop off).take k) = v at *
  generalize xs.getD (off + k) 0 = a at *
  generalize xs.getD (off + (k + 1)) 0 = b at *
  have : (b * W64 + a + 1) * P = P * W64 * b + P * a + P := by grind
  rw [this]
  have e2 : P * W64 * b + P * a = P * a + P * W64 * b := Nat.add_comm _ _
  omega

theorem top_le (ds : List Nat) (n : Nat) (hn : ds.length = n + 1) : ds.getD n 0 * W64 ^ n ≤ val W64 ds := by
  have := val_take_succ W64 ds n (by omega)
  rw [List.take_of_length_le (by omega)] at this
  rw [this, Nat.mul_comm]; omega

/-- what holds while a multiple is given back -/
def TMRel (w : World) (g off n : Nat) (rs ds : List Nat) (q : Nat) (gv mv : Value) (wr : World) : Prop :=
  ∃ (G m : Nat) (cur : List Nat), gv = .int .u64 ((G : Nat) : Int) ∧ mv = .int .u64 ((m : Nat) : Int) ∧ m ≤ 1 ∧ q ≤ G ∧ G < W64 ∧ Arr .u64 99 wr g cur ∧ cur.length = rs.length ∧ (∀ d ∈ cur, d < W64) ∧
    cur.take off = rs.take off ∧ cur.drop (off + n + 1) = rs.drop (off + n + 1) ∧ val W64 cur + W64 ^ off * (G * val W64 ds) = val W64 rs + W64 ^ (off + n + 1) * m ∧ But g w wr ∧ wr.heap.size = w.heap.size

theorem drop_one {xs ys : List Nat} {m : Nat} (h : xs.drop m = ys.drop m) : xs.drop (m + 1) = ys.drop (m + 1) := by
  have h2 := congrArg (List.drop 1) h
  rw [List.drop_drop, List.drop_drop] at h2
  exact h2
theorem getD_of_drop {xs ys : List Nat} {m : Nat} (h : xs.drop m = ys.drop m) : xs.getD m 0 = ys.getD m 0 := by
  have h1 := congrArg (fun l => l.getD 0 0) h
  simp only [List.getD_eq_getElem?_getD, List.getElem?_drop, Nat.add_zero] at h1
  simpa [List.getD_eq_getElem?_getD] using h1

/-- behind the first taking away -/
theorem tm_first (w w1 : World) (g off n q G c s m x : Nat) (rs ds zs : List Nat) (hw : off + n + 1 ≤ rs.length) (hds : ds.length = n) (hA : Arr .u64 99 w1 g zs) (hl : zs.length = rs.length) (hlt : ∀ d ∈ zs, d < W64)
    (ht : zs.take off = rs.take off) (hd : zs.drop (off + ds.length) = rs.drop (off + ds.length)) (hv : val W64 zs + W64 ^ off * (G * val W64 ds) = val W64 rs + W64 ^ (off + ds.length) * c) (hb : But g w w1) (hsz : w1.heap.size = w.heap.size)
    (hq : q ≤ G) (hG : G < W64) (hx : x = rs.getD (off + n) 0) (hs : s + c = x + W64 * m) (hm : m ≤ 1) (hsl : s < W64) :
    TMRel w g off n rs ds q (.int .u64 ((G : Nat) : Int)) (.int .u64 ((m : Nat) : Int)) (w1.setCell ⟨g, off + n, none⟩ (.int .u64 ((s : Nat) : Int))) := by
  rw [hds] at hd hv
  have hzx : zs.getD (off + n) 0 = x := by rw [hx]; exact getD_of_drop hd
  have h1 := val_setN W64 zs (off + n) s (by omega)
  rw [hzx] at h1
  refine ⟨G, m, zs.set (off + n) s, rfl, rfl, hm, hq, hG, hA.set _ _, by simp [hl], set_ltN _ _ _ hlt hsl, by rw [take_set_out _ _ _ _ (by omega)]; exact ht, by rw [drop_set_out _ _ _ _ (by omega)]; exact drop_one hd, ?_, hb.setCell _ _, by simp [hsz]⟩
  rw [Nat.pow_succ]
  generalize W64 ^ (off + n) = P at *
  have h2 : P * (s + c) = P * (x + W64 * m) := by rw [hs]
  rw [Nat.mul_add, Nat.mul_add, ← Nat.mul_assoc] at h2
  omega

theorem tm_more (cur rs ds : List Nat) (off n q G : Nat) (hl : cur.length = rs.length) (hw : off + n + 1 ≤ rs.length) (hlt : ∀ d ∈ cur, d < W64) (ht : cur.take off = rs.take off) (hd : cur.drop (off + n + 1) = rs.drop (off + n + 1))
    (hv : val W64 cur + W64 ^ off * (G * val W64 ds) = val W64 rs + W64 ^ (off + n + 1) * 1) (hq : q = win rs off n / val W64 ds) (hD : 0 < val W64 ds) : q + 1 ≤ G := by
  have h1 := win_eq cur rs off n G (val W64 ds) 1 hl hw ht hd hv
  have h2 := win_lt cur off n (by omega) hlt
  rw [Nat.mul_one] at h1
  have : q < G := by
    rw [hq, Nat.div_lt_iff_lt_mul hD]; omega
  omega

theorem tm_done (cur rs ds : List Nat) (off n q G : Nat) (hl : cur.length = rs.length) (hw : off + n + 1 ≤ rs.length) (ht : cur.take off = rs.take off) (hd : cur.drop (off + n + 1) = rs.drop (off + n + 1))
    (hv : val W64 cur + W64 ^ off * (G * val W64 ds) = val W64 rs + W64 ^ (off + n + 1) * 0) (hq : q = win rs off n / val W64 ds) (hD : 0 < val W64 ds) (hqG : q ≤ G) : G = q := by
  have h1 := win_eq cur rs off n G (val W64 ds) 0 hl hw ht hd hv
  have : G ≤ q := by
    rw [hq, Nat.le_div_iff_mul_le hD]; omega
  omega

/-- behind a giving back -/
theorem tm_back (w wr w1 : World) (g off n q G c s m x : Nat) (rs ds cur zs : List Nat) (hw : off + n + 1 ≤ rs.length) (hds : ds.length = n) (hcl : cur.length = rs.length) (hct : cur.take off = rs.take off) (hcd : cur.drop (off + n + 1) = rs.drop (off + n + 1))
    (hcv : val W64 cur + W64 ^ off * (G * val W64 ds) = val W64 rs + W64 ^ (off + n + 1) * 1) (hcb : But g w wr) (hcs : wr.heap.size = w.heap.size)
    (hA : Arr .u64 99 w1 g zs) (hl : zs.length = cur.length) (hlt : ∀ d ∈ zs, d < W64)
    (ht : zs.take off = cur.take off) (hd : zs.drop (off + ds.length) = cur.drop (off + ds.length)) (hv : val W64 zs + W64 ^ (off + ds.length) * c = val W64 cur + W64 ^ off * (1 * val W64 ds)) (hb : But g wr w1) (hsz : w1.heap.size = wr.heap.size)
    (hq : q + 1 ≤ G) (hG : G < W64) (hx : x = cur.getD (off + n) 0) (hs : s + W64 * m = x + c) (hm : m ≤ 1) (hsl : s < W64) (zg zm : Int) (hzg : zg = (G : Int) - 1) (hzm : zm = 1 - (m : Int)) :
    TMRel w g off n rs ds q (.int .u64 zg) (.int .u64 zm) (w1.setCell ⟨g, off + n, none⟩ (.int .u64 ((s : Nat) : Int))) := by
  rw [hds] at hd hv
  have hzx : zs.getD (off + n) 0 = x := by rw [hx]; exact getD_of_drop hd
  have h1 := val_setN W64 zs (off + n) s (by omega)
  rw [hzx] at h1
  refine ⟨G - 1, 1 - m, zs.set (off + n) s, congrArg _ (by omega), congrArg _ (by omega), by omega, by omega, by omega, hA.set _ _, by simp [hl, hcl], set_ltN _ _ _ hlt hsl, by rw [take_set_out _ _ _ _ (by omega), ht]; exact hct,
    by rw [drop_set_out _ _ _ _ (by omega), drop_one hd]; exact hcd, ?_, (hcb.trans hb).setCell _ _, by simp [hsz, hcs]⟩
  obtain ⟨H, rfl⟩ : ∃ H, G = H + 1 := ⟨G - 1, by omega⟩
  rw [Nat.add_sub_cancel]
  rw [Nat.pow_succ] at hcv ⊢
  generalize W64 ^ (off + n) = P at *
  have h2 : P * (s + W64 * m) = P * (x + c) := by rw [hs]
  rw [Nat.mul_add, Nat.mul_add, ← Nat.mul_assoc] at h2
  rw [Nat.one_mul] at hv
  rw [Nat.add_mul, Nat.one_mul, Nat.mul_add] at hcv
  rcases (by omega : m = 0 ∨ m = 1) with h | h
  · subst h; simp only [Nat.mul_zero, Nat.sub_zero] at *; omega
  · subst h; simp only [Nat.mul_one, Nat.sub_self, Nat.mul_zero] at *; omega
end Go.Proofs.YtdkjcdfkoahfkaaGreatDoor
