/- Contracts of functions of the program and of the model: TermM, StepM, StepI, L3Go, RecV, In, TermS, RecW. -/
import Derived.Test.YtegdcmcfeaohhaaGreatDoorPk8
import Derived.Deep.RegionLaw
import Derived.Deep.RegionHeld3
import Derived.Test.YtegdcmcfeaohhaaGreatDoorProg
set_option linter.all false
set_option linter.unusedVariables false
set_option linter.unusedSimpArgs false
set_option linter.unnecessarySimpa false
set_option linter.deprecated false
namespace Go.Proofs.YtegdcmcfeaohhaaGreatDoor
open Go Go.RowKit

/-- the first products of a recurrence's next term -/
def partQ (cs ts : List Rat) : Nat → Rat
  | 0 => 0
  | j + 1 => partQ cs ts j + atQ cs j * atQ ts (ts.length - 1 - j)
/-- the first terms of a recurrence -/
def termsQ (ss cs : List Rat) : Nat → List Rat
  | 0 => []
  | n + 1 => termsQ ss cs n ++ [if n < ss.length then atQ ss n else partQ cs (termsQ ss cs n) cs.length]
theorem termsQ_len (ss cs : List Rat) : ∀ n, (termsQ ss cs n).length = n
  | 0 => rfl
  | n + 1 => by rw [termsQ, List.length_append, termsQ_len ss cs n]; rfl
theorem termsQ_start {ss cs : List Rat} {n : Nat} {q : Rat} (h : ss[n]? = some q) : termsQ ss cs (n + 1) = termsQ ss cs n ++ [q] := by
  rw [termsQ, if_pos (List.getElem?_eq_some_iff.1 h).1, atQ_some h]
theorem termsQ_next {ss cs : List Rat} {n : Nat} (h : ¬ n < ss.length) : termsQ ss cs (n + 1) = termsQ ss cs n ++ [partQ cs (termsQ ss cs n) cs.length] := by
  rw [termsQ, if_neg h]
theorem partQ_succ {cs ts : List Rat} {j : Nat} {c t : Rat} (hc : cs[j]? = some c) (ht : ts[ts.length - 1 - j]? = some t) : partQ cs ts (j + 1) = partQ cs ts j + c * t := by
  rw [partQ, atQ_some hc, atQ_some ht]

/-- a fraction with some denominator and a bound of what is above it -/
def Fr (K X : Nat) (q : Rat) : Prop := K ≠ 0 ∧ ∃ z : Int, z.natAbs ≤ X ∧ q = mkRat z K
theorem Fr.mono {K X Y : Nat} {q : Rat} (h : Fr K X q) (hX : X ≤ Y) : Fr K Y q := by
  obtain ⟨h0, z, h1, h2⟩ := h; exact ⟨h0, z, Nat.le_trans h1 hX, h2⟩
theorem Fr.of (q : Rat) : Fr q.den q.num.natAbs q := ⟨q.den_nz, q.num, Nat.le_refl _, (Rat.mkRat_self q).symm⟩
theorem Fr.zero {K : Nat} (h : K ≠ 0) : Fr K 0 0 := ⟨h, 0, Nat.le_refl _, by rw [Rat.zero_mkRat]⟩
theorem Fr.mul {K X M Y : Nat} {a b : Rat} (ha : Fr K X a) (hb : Fr M Y b) : Fr (K * M) (X * Y) (a * b) := by
  obtain ⟨h0, z, h1, rfl⟩ := ha
  obtain ⟨k0, y, k1, rfl⟩ := hb
  exact ⟨Nat.mul_ne_zero h0 k0, z * y, by rw [Int.natAbs_mul]; exact Nat.mul_le_mul h1 k1, by rw [Rat.mkRat_mul_mkRat]⟩
theorem Fr.up {K X : Nat} {a : Rat} (ha : Fr K X a) {c : Nat} (hc : c ≠ 0) : Fr (K * c) (X * c) a := by
  obtain ⟨h0, z, h1, rfl⟩ := ha
  exact ⟨Nat.mul_ne_zero h0 hc, z * c, by rw [Int.natAbs_mul, Int.natAbs_natCast]; exact Nat.mul_le_mul_right _ h1, by rw [Rat.mkRat_mul_right hc]⟩
theorem Fr.add {K X Y : Nat} {a b : Rat} (ha : Fr K X a) (hb : Fr K Y b) : Fr K (X + Y) (a + b) := by
  obtain ⟨h0, z, h1, rfl⟩ := ha
  obtain ⟨k0, y, k1, rfl⟩ := hb
  refine ⟨h0, z + y, Nat.le_trans (Int.natAbs_add_le z y) (Nat.add_le_add h1 k1), ?_⟩
  rw [Rat.mkRat_add_mkRat _ _ h0 h0, ← Int.add_mul, Rat.mkRat_mul_right h0]
theorem Fr.bd {K X : Nat} {q : Rat} (h : Fr K X q) {N : Nat} (h1 : X < 10 ^ N) (h2 : K < 10 ^ N) : Bd N q := by
  obtain ⟨h0, z, hz, e⟩ := h
  have e2 : mkRat z K = ⟨q.num, q.den, q.den_nz, q.reduced⟩ := e.symm
  obtain ⟨m, hm, k1, k2⟩ := Rat.mkRat_num_den h0 e2
  have hm1 : 1 ≤ m := Nat.pos_of_ne_zero hm
  constructor
  · have : q.num.natAbs ≤ z.natAbs := by
      rw [k1, Int.natAbs_mul, Int.natAbs_natCast]
      exact Nat.le_mul_of_pos_right _ hm1
    omega
  · have : q.den ≤ K := by rw [k2]; exact Nat.le_mul_of_pos_right _ hm1
    omega
theorem Fr.into {q : Rat} {D C : Nat} (hD : D ≠ 0) (hd : q.den ∣ D) (hC : q.num.natAbs ≤ C) : Fr D (C * D) q := by
  obtain ⟨e, rfl⟩ := hd
  have he : e ≠ 0 := fun h => hD (by rw [h, Nat.mul_zero])
  refine ((Fr.of q).up he).mono (Nat.mul_le_mul hC ?_)
  exact Nat.le_mul_of_pos_left _ (Nat.pos_of_ne_zero q.den_nz)

/-- the product of denominators -/
def prodDen : List Rat → Nat
  | [] => 1
  | q :: l => q.den * prodDen l
theorem prodDen_ne : ∀ l, prodDen l ≠ 0
  | [] => by simp [prodDen]
  | q :: l => by rw [prodDen]; exact Nat.mul_ne_zero q.den_nz (prodDen_ne l)
theorem prodDen_dvd {q : Rat} : ∀ {l : List Rat}, q ∈ l → q.den ∣ prodDen l
  | p :: l, h => by
    rw [prodDen]
    rcases List.mem_cons.1 h with rfl | h
    · exact Nat.dvd_mul_right _ _
    · exact Nat.dvd_trans (prodDen_dvd h) (Nat.dvd_mul_left _ _)
theorem prodDen_le : ∀ {l : List Rat}, AllBd 60 l → prodDen l ≤ 10 ^ (60 * l.length)
  | [], _ => by simp [prodDen]
  | q :: l, h => by
    have h1 : q.den < 10 ^ 60 := (h 0 q rfl).2
    have h2 := prodDen_le (l := l) (fun k p hk => h (k + 1) p hk)
    rw [prodDen, List.length_cons, Nat.mul_succ, Nat.pow_add, Nat.mul_comm (10 ^ (60 * l.length))]
    exact Nat.mul_le_mul (Nat.le_of_lt h1) h2

def tA (n : Nat) : Nat := 10 ^ (60 + 61 * n)
theorem tA_succ (n : Nat) : tA (n + 1) = 10 * (10 ^ 60 * tA n) := by
  unfold tA
  rw [← Nat.pow_add, show (10 : Nat) * 10 ^ (60 + (60 + 61 * n)) = 10 ^ (60 + (60 + 61 * n) + 1) by rw [Nat.pow_succ, Nat.mul_comm]]
  congr 1
  omega
theorem tA_mono {m n : Nat} (h : m ≤ n) : tA m ≤ tA n := Nat.pow_le_pow_right (by omega) (by omega)

theorem part_fr {ss cs ts : List Rat} {n : Nat} (hts : ts.length = n + 1) (hcs : cs.length ≤ n + 1) (hc : AllBd 60 cs) (ht : ∀ m t, ts[m]? = some t → Fr (prodDen cs ^ m * prodDen ss) (tA m * (prodDen cs ^ m * prodDen ss)) t) :
    ∀ j, j ≤ cs.length → Fr (prodDen cs ^ (n + 1) * prodDen ss) (j * (10 ^ 60 * tA n * (prodDen cs ^ (n + 1) * prodDen ss))) (partQ cs ts j)
  | 0, _ => by
    rw [Nat.zero_mul]
    exact Fr.zero (Nat.mul_ne_zero (fun h => prodDen_ne cs (by exact (Nat.pow_eq_zero.1 h).1)) (prodDen_ne ss))
  | j + 1, hj => by
    have ih := part_fr hts hcs hc ht j (by omega)
    obtain ⟨c, hcj⟩ : ∃ c, cs[j]? = some c := ⟨_, List.getElem?_eq_getElem (by omega)⟩
    obtain ⟨t, htj⟩ : ∃ t, ts[ts.length - 1 - j]? = some t := ⟨_, List.getElem?_eq_getElem (by omega)⟩
    rw [partQ_succ hcj htj]
    have h1 := Fr.into (C := 10 ^ 60) (prodDen_ne cs) (prodDen_dvd (List.mem_of_getElem? hcj)) (Nat.le_of_lt (hc j c hcj).1)
    have h2 := ht _ t htj
    have em : ts.length - 1 - j = n - j := by omega
    rw [em] at h2
    have h3 := (h1.mul h2).up (c := prodDen cs ^ j) (fun h => prodDen_ne cs (by exact (Nat.pow_eq_zero.1 h).1))
    have e1 : prodDen cs * (prodDen cs ^ (n - j) * prodDen ss) * prodDen cs ^ j = prodDen cs ^ (n + 1) * prodDen ss := by
      have : prodDen cs ^ (n + 1) = prodDen cs * (prodDen cs ^ (n - j) * prodDen cs ^ j) := by
        rw [← Nat.pow_add, show n - j + j = n by omega, Nat.pow_succ, Nat.mul_comm]
      rw [this]
      ac_rfl
    have e2 : 10 ^ 60 * prodDen cs * (tA (n - j) * (prodDen cs ^ (n - j) * prodDen ss)) * prodDen cs ^ j = 10 ^ 60 * tA (n - j) * (prodDen cs ^ (n + 1) * prodDen ss) := by
      rw [← e1]; ac_rfl
    rw [e1, e2] at h3
    have h4 := ih.add (h3.mono (Nat.mul_le_mul_right _ (Nat.mul_le_mul_left _ (tA_mono (show n - j ≤ n by omega)))))
    rw [show (j + 1) * (10 ^ 60 * tA n * (prodDen cs ^ (n + 1) * prodDen ss)) = j * (10 ^ 60 * tA n * (prodDen cs ^ (n + 1) * prodDen ss)) + 10 ^ 60 * tA n * (prodDen cs ^ (n + 1) * prodDen ss) by rw [Nat.succ_mul]]
    exact h4

theorem terms_fr {ss cs : List Rat} (hl : ss.length = cs.length) (h8 : cs.length ≤ 8) (hs : AllBd 60 ss) (hc : AllBd 60 cs) :
    ∀ n m t, (termsQ ss cs n)[m]? = some t → Fr (prodDen cs ^ m * prodDen ss) (tA m * (prodDen cs ^ m * prodDen ss)) t
  | 0, m, t, h => by simp [termsQ] at h
  | n + 1, m, t, h => by
    have ih := terms_fr hl h8 hs hc n
    have hlen := termsQ_len ss cs n
    have hp : prodDen cs ^ n ≠ 0 := fun h => prodDen_ne cs (by exact (Nat.pow_eq_zero.1 h).1)
    rw [termsQ] at h
    rcases get_snoc h with ⟨_, h1⟩ | ⟨h1, h2⟩
    · exact ih m t h1
    · rw [hlen] at h1
      subst h1
      by_cases hn : m < ss.length
      · rw [if_pos hn] at h2
        obtain ⟨q, hq⟩ : ∃ q, ss[m]? = some q := ⟨_, List.getElem?_eq_getElem hn⟩
        rw [atQ_some hq] at h2
        subst h2
        have h3 := (Fr.into (C := 10 ^ 60) (prodDen_ne ss) (prodDen_dvd (List.mem_of_getElem? hq)) (Nat.le_of_lt (hs m q hq).1)).up hp
        rw [Nat.mul_comm (prodDen ss), show 10 ^ 60 * prodDen ss * prodDen cs ^ m = 10 ^ 60 * (prodDen cs ^ m * prodDen ss) by ac_rfl] at h3
        exact h3.mono (Nat.mul_le_mul_right _ (Nat.pow_le_pow_right (by omega) (by omega)))
      · rw [if_neg hn] at h2
        subst h2
        rcases Nat.eq_zero_or_pos m with h0 | h0
        · subst h0
          have hc0 : cs.length = 0 := by omega
          rw [hc0]
          exact (Fr.zero (Nat.mul_ne_zero hp (prodDen_ne ss))).mono (Nat.zero_le _)
        · obtain ⟨k, rfl⟩ : ∃ k, m = k + 1 := ⟨m - 1, by omega⟩
          have h3 := part_fr (ss := ss) hlen (by omega) hc (fun m t h => ih m t h) cs.length (Nat.le_refl _)
          refine h3.mono ?_
          rw [tA_succ, show cs.length * (10 ^ 60 * tA k * (prodDen cs ^ (k + 1) * prodDen ss)) = cs.length * (10 ^ 60 * tA k) * (prodDen cs ^ (k + 1) * prodDen ss) by ac_rfl]
          exact Nat.mul_le_mul_right _ (Nat.mul_le_mul_right _ (by omega))

theorem terms_pow {ss cs : List Rat} (hl : ss.length = cs.length) (h8 : cs.length ≤ 8) (hs : AllBd 60 ss) (hc : AllBd 60 cs) {m : Nat} (hm : m ≤ 40) {N : Nat} (hN : N = 22200) :
    tA m * (prodDen cs ^ m * prodDen ss) < 10 ^ N ∧ prodDen cs ^ m * prodDen ss < 10 ^ N := by
  obtain ⟨e, he⟩ : ∃ e : Nat, e = 480 := ⟨_, rfl⟩
  have h1 : prodDen cs ≤ 10 ^ e := Nat.le_trans (prodDen_le hc) (Nat.pow_le_pow_right (by omega) (by omega))
  have h2 : prodDen ss ≤ 10 ^ e := Nat.le_trans (prodDen_le hs) (Nat.pow_le_pow_right (by omega) (by omega))
  have h3 : prodDen cs ^ m ≤ 10 ^ (e * m) := by rw [Nat.pow_mul]; exact Nat.pow_le_pow_left h1 m
  have h4 : prodDen cs ^ m * prodDen ss ≤ 10 ^ (e * m + e) := by rw [Nat.pow_add]; exact Nat.mul_le_mul h3 h2
  have h6 : e * m ≤ 480 * 40 := by rw [he]; exact Nat.mul_le_mul_left _ hm
  constructor
  · have h5 : tA m * (prodDen cs ^ m * prodDen ss) ≤ 10 ^ (60 + 61 * m + (e * m + e)) := by rw [Nat.pow_add]; exact Nat.mul_le_mul (Nat.le_refl _) h4
    exact Nat.lt_of_le_of_lt h5 (Nat.pow_lt_pow_right (by omega) (by omega))
  · exact Nat.lt_of_le_of_lt h4 (Nat.pow_lt_pow_right (by omega) (by omega))
theorem terms_bd {ss cs : List Rat} (hl : ss.length = cs.length) (h8 : cs.length ≤ 8) (hs : AllBd 60 ss) (hc : AllBd 60 cs) {n : Nat} (hn : n ≤ 40) : AllBd 22200 (termsQ ss cs n) := by
  intro m t h
  have hm : m < n := by rw [← termsQ_len ss cs n]; exact (List.getElem?_eq_some_iff.1 h).1
  obtain ⟨N, hN⟩ : ∃ N, N = 22200 := ⟨_, rfl⟩
  obtain ⟨k1, k2⟩ := terms_pow hl h8 hs hc (m := m) (by omega) hN
  rw [← hN]
  exact (terms_fr hl h8 hs hc n m t h).bd k1 k2
theorem part_bd {ss cs : List Rat} (hl : ss.length = cs.length) (h8 : cs.length ≤ 8) (hs : AllBd 60 ss) (hc : AllBd 60 cs) {n : Nat} (hn : n ≤ 40) (hns : ss.length ≤ n) {j : Nat} (hj : j ≤ cs.length) : Bd 22200 (partQ cs (termsQ ss cs n) j) := by
  rcases Nat.eq_zero_or_pos n with h0 | h0
  · have : j = 0 := by omega
    subst this
    exact Bd.zero.mono (by omega)
  · obtain ⟨k, rfl⟩ : ∃ k, n = k + 1 := ⟨n - 1, by omega⟩
    have h3 := part_fr (ss := ss) (termsQ_len ss cs (k + 1)) (by omega) hc (fun m t h => terms_fr hl h8 hs hc (k + 1) m t h) j hj
    obtain ⟨N, hN⟩ : ∃ N, N = 22200 := ⟨_, rfl⟩
    obtain ⟨k1, k2⟩ := terms_pow hl h8 hs hc (m := k + 1) hn hN
    rw [← hN]
    refine (h3.mono ?_).bd k1 k2
    rw [tA_succ, show j * (10 ^ 60 * tA k * (prodDen cs ^ (k + 1) * prodDen ss)) = j * (10 ^ 60 * tA k) * (prodDen cs ^ (k + 1) * prodDen ss) by ac_rfl]
    exact Nat.mul_le_mul_right _ (Nat.mul_le_mul_right _ (by omega))
end Go.Proofs.YtegdcmcfeaohhaaGreatDoor

namespace Go.Proofs.YtegdcmcfeaohhaaGreatDoor
open Go Go.RowKit

theorem IsR.keep {w w' : World} {v : Value} {q : Rat} {g : Nat} (h : IsR w v q) (hb : But g w w') (hg : NoInt w g) : IsR w' v q := by
  obtain ⟨s1, s2, e, h1, h2⟩ := h
  exact ⟨s1, s2, e, h1.keep hb hg, h2.keep hb hg⟩
theorem OwE.but {α : Type} {sz : Nat} {E : World → List Value → α → Prop} (hE : Elem sz E) {e : TypeId} {w w' : World} {B g : Nat} {v : Value} {xs : List α} (h : OwE sz E e w B v xs) (hb : But g w w') (hn : NoInt w g) (hne : v.ownBlock ≠ some g) : OwE sz E e w' B v xs := by
  rcases h with h | ⟨b, cap, cur, rfl, h2, h3, h4, h5, h6, h7, h8⟩
  · exact .inl h
  · have hlt : b < w.heap.size := (Array.getElem?_eq_some_iff.1 h3).1
    exact .inr ⟨b, cap, cur, rfl, h2, by rw [hb.block b hlt (fun e => hne (by rw [e]; rfl))]; exact h3, h4, h5, h6, h7, fun i x hi => hE.keep (h8 i x hi) hb hn⟩

/-- all blocks below one but a single one stand as before -/
structure FrB (B t : Nat) (w w' : World) : Prop where
  os : w'.os = w.os
  tape : w'.tape = w.tape
  output : w'.output = w.output
  size : w.heap.size ≤ w'.heap.size
  block : ∀ k, k < B → k ≠ t → w'.heap[k]? = w.heap[k]?
theorem FrB.of {B t : Nat} {w w' : World} (h : Below B w w') : FrB B t w w' := ⟨h.os, h.tape, h.output, h.size, fun k hk _ => h.block k hk⟩
theorem FrB.trans {B t : Nat} {a b c : World} (h : FrB B t a b) (k : FrB B t b c) : FrB B t a c :=
  ⟨k.os.trans h.os, k.tape.trans h.tape, k.output.trans h.output, Nat.le_trans h.size k.size, fun i h1 h2 => (k.block i h1 h2).trans (h.block i h1 h2)⟩
theorem FrB.but {B t : Nat} {w w' : World} (h : But t w w') (hB : B ≤ w.heap.size) : FrB B t w w' := ⟨h.os, h.tape, h.output, h.size, fun k h1 h2 => h.block k (by omega) h2⟩
theorem FrB.below {B t A : Nat} {w w' : World} (h : FrB B t w w') (hA : A ≤ B) (ht : A ≤ t) : Below A w w' := ⟨h.os, h.tape, h.output, h.size, fun k hk => h.block k (by omega) (by omega)⟩

/-- the state: what was given lies in a box, the terms so far in a list of the walk's own -/
def StR (w0 w : World) (B : Nat) (s1 s2 : Value) (ss cs : List Rat) (n : Nat) : Prop :=
  w0.heap.size + 2 ≤ B ∧ B ≤ w.heap.size ∧ Box2 w w0.heap.size s1 s2 97 ∧ Below w0.heap.size w0 w ∧
    ∃ a m c, w.heap[w0.heap.size + 1]? = some (.cells #[.slice a m c] 63 (0, 0)) ∧ OwE 3 ER 70 w B (.slice a m c) (termsQ ss cs n)

theorem FrB.box2 {B t : Nat} {w w' : World} (h : FrB B t w w') {b : Nat} {x y : Value} {ty : TypeId} (hx : Box2 w b x y ty) (hb : b < B) (hne : b ≠ t) : Box2 w' b x y ty := by
  have := h.block b hb hne
  unfold Box2 at *
  rw [this]; exact hx

theorem StR.later {w0 w w' : World} {B : Nat} {s1 s2 : Value} {ss cs : List Rat} {n : Nat} (h : StR w0 w B s1 s2 ss cs n) (hb : Below w.heap.size w w') : StR w0 w' B s1 s2 ss cs n := by
  obtain ⟨h1, h2, h3, h4, a, m, c, h5, h6⟩ := h
  exact ⟨h1, Nat.le_trans h2 hb.size, h3.later hb (lt_of_block h3), h4.trans (hb.mono (by have := h4.size; omega)), a, m, c, by rw [hb.block _ (Array.getElem?_eq_some_iff.1 h5).1]; exact h5, h6.later elemR hb (Nat.le_refl _)⟩

def stepEnd (w9 : World) (t r : Nat) (l x0 x1 x2 : Value) : World :=
  (((w9.setCell ⟨t, 0, none⟩ l).setCell ⟨r, 0, none⟩ x0).setCell ⟨r, 1, none⟩ x1).setCell ⟨r, 2, none⟩ x2

set_option maxRecDepth 100000 in
theorem step_end {w0 w X w9 : World} {B n : Nat} {s1 s2 y1 y2 : Value} {ss cs ts : List Rat} {a ao : Option Addr} {m c n9 c9 : Nat} {g0 : Bool} {q : Rat}
    (hB1 : w0.heap.size + 2 ≤ B) (hB2 : B ≤ w.heap.size) (hbx : Box2 w w0.heap.size s1 s2 97) (hb0 : Below w0.heap.size w0 w)
    (hbt : w.heap[w0.heap.size + 1]? = some (.cells #[.slice a m c] 63 (0, 0)))
    (how : OwE 3 ER 70 X B (.slice a m c) ts) (hlt : ∀ g, (Value.slice a m c).ownBlock = some g → g < w.heap.size)
    (hbX : Below w.heap.size w X) (hrb : Box3 X w.heap.size (.bool false) (.slice none 0 0) (.slice none 0 0) 70)
    (hgr : X.grownBy w9 (Value.slice a m c).ownBlock) (hb9 : Below B X w9)
    (h9 : OwE 3 ER 70 w9 B (.slice ao n9 c9) (termsQ ss cs (n + 1)))
    (hq : IsR X (.agg #[.bool g0, y1, y2]) q) (hy1 : notInt y1 = true) (hy2 : notInt y2 = true) :
    StR w0 (stepEnd w9 (w0.heap.size + 1) w.heap.size (.slice ao n9 c9) (.bool g0) y1 y2) B s1 s2 ss cs (n + 1) ∧
      IsR (stepEnd w9 (w0.heap.size + 1) w.heap.size (.slice ao n9 c9) (.bool g0) y1 y2) (.agg #[.bool g0, y1, y2]) q ∧
      FrB B (w0.heap.size + 1) w (stepEnd w9 (w0.heap.size + 1) w.heap.size (.slice ao n9 c9) (.bool g0) y1 y2) := by
  have hX : w.heap.size ≤ X.heap.size := hbX.size
  have h9s : X.heap.size ≤ w9.heap.size := hb9.size
  have hrlt : w.heap.size < X.heap.size := lt_of_block hrb
  have hob : ∀ g, (Value.slice a m c).ownBlock = some g → B ≤ g := how.base
  obtain ⟨g1, g2, g3, g4, g5⟩ := hgr
  have hr9 : w9.heap[w.heap.size]? = some (.cells #[.bool false, .slice none 0 0, .slice none 0 0] 70 (0, 0)) := by
    rw [g5 w.heap.size hrlt (fun e => by have := hlt _ e.symm; omega)]; exact hrb
  have ht9 : w9.heap[w0.heap.size + 1]? = some (.cells #[.slice a m c] 63 (0, 0)) := by
    rw [hb9.block _ (by omega), hbX.block _ (by omega)]; exact hbt
  have hne : (Value.slice ao n9 c9).ownBlock ≠ some w.heap.size := by
    intro e
    rcases h9 with ⟨e2, _⟩ | ⟨g, cap, cur, ev, p1, p2, p3, p4, p5, p6, p7⟩
    · rw [e2] at e; cases e
    · rw [ev] at e
      obtain rfl : g = w.heap.size := by simpa [Value.ownBlock] using e
      rw [hr9] at p2
      simp only [Option.some.injEq, Obj.cells.injEq] at p2
      obtain ⟨rfl, _⟩ := p2
      obtain ⟨x, hx⟩ : ∃ x, (termsQ ss cs (n + 1))[0]? = some x := ⟨_, List.getElem?_eq_getElem (by rw [termsQ_len]; omega)⟩
      obtain ⟨b1, m1, d1, b2, m2, d2, k1, _, k3⟩ := p7 0 x hx
      simp at k1
      obtain ⟨_, _, rfl, rfl, rfl⟩ := k1
      obtain ⟨_, _, k4, _⟩ := k3
      have : (dig W64 x.den).length = 0 := by injection k4 with _ k5; omega
      rw [dig_pos (by rw [W64_eq]; omega) x.den_nz] at this
      simp at this
  have hnet : (Value.slice ao n9 c9).ownBlock ≠ some (w0.heap.size + 1) := fun e => by have := h9.base _ e; omega
  have nt : NoInt w9 (w0.heap.size + 1) := NoInt.of ht9 (by intro u hu; simp at hu; subst hu; rfl)
  have nr : NoInt w9 w.heap.size := NoInt.of hr9 (by intro u hu; simp at hu; rcases hu with rfl | rfl | rfl <;> rfl)
  -- the number at w9
  have hq9 : IsR w9 (.agg #[.bool g0, y1, y2]) q := by
    cases ho : (Value.slice a m c).ownBlock with
    | none => rw [ho] at g5; exact hq.later (B := X.heap.size) ⟨g1, g2, g3, g4, fun k hk => g5 k hk (by simp)⟩ (Nat.le_refl _)
    | some g => rw [ho] at g5; exact hq.keep (g := g) ⟨g1, g2, g3, g4, fun k hk hk2 => g5 k hk (by simpa using hk2)⟩ (how.noInt g ho)
  have b1 : But (w0.heap.size + 1) w9 (w9.setCell ⟨w0.heap.size + 1, 0, none⟩ (.slice ao n9 c9)) := (But.refl _ _).setCell _ _
  obtain ⟨V, hV⟩ : ∃ V, V = w9.setCell ⟨w0.heap.size + 1, 0, none⟩ (.slice ao n9 c9) := ⟨_, rfl⟩
  have hVs : V.heap.size = w9.heap.size := by rw [hV]; simp
  rw [← hV] at b1
  have nrV : NoInt V w.heap.size := by rw [hV]; exact nr.set _ _ rfl
  have b2 : But w.heap.size V (stepEnd w9 (w0.heap.size + 1) w.heap.size (.slice ao n9 c9) (.bool g0) y1 y2) := by
    unfold stepEnd; rw [← hV]; exact (((But.refl _ _).setCell _ _).setCell _ _).setCell _ _
  have hVt : V.heap[w0.heap.size + 1]? = some (.cells #[.slice ao n9 c9] 63 (0, 0)) := by
    rw [hV]
    have hlt9 : w0.heap.size + 1 < w9.heap.size := (Array.getElem?_eq_some_iff.1 ht9).1
    simp only [World.setCell, Array.getElem?_modify, ht9]
    rfl
  have F : FrB B (w0.heap.size + 1) w (stepEnd w9 (w0.heap.size + 1) w.heap.size (.slice ao n9 c9) (.bool g0) y1 y2) :=
    (((FrB.of (hbX.mono hB2)).trans (FrB.of hb9)).trans (FrB.but b1 (by omega))).trans (FrB.of (b2.below hB2 (by omega)))
  refine ⟨⟨hB1, ?_, F.box2 hbx (by omega) (by omega), hb0.trans (F.below (by omega) (by omega)), ao, n9, c9, ?_, ?_⟩, (hq9.keep b1 nt).keep b2 nrV, F⟩
  · exact Nat.le_trans hB2 F.size
  · rw [b2.block _ (by rw [hVs]; omega) (by omega)]; exact hVt
  · exact (h9.but elemR b1 nt hnet).but elemR b2 nrV hne
theorem grown_box3 {X w9 : World} {o : Option Nat} {b : Nat} {x y z : Value} {t : TypeId} (hg : X.grownBy w9 o) (h : Box3 X b x y z t) (hne : ∀ g, o = some g → g < b) : Box3 w9 b x y z t := by
  have := hg.block b (lt_of_block h) (fun e => by have := hne b e.symm; omega)
  unfold Box3 at *
  rw [this]; exact h
theorem one_cells {w : World} {b : Nat} {v : Value} {t : TypeId} (h : w.heap[b]? = some (.cells #[v] t (0, 0))) : w.cell? ⟨b, 0, none⟩ = some v ∧ w.frozen? ⟨b, 0, none⟩ = false := by
  simp [World.cell?, World.frozen?, h]
end Go.Proofs.YtegdcmcfeaohhaaGreatDoor

namespace Go.Proofs.YtegdcmcfeaohhaaGreatDoor
open Go Go.RowKit

def StepSum (w2 : World) (cs ts : List Rat) (i : Value) (wr : World) : Prop :=
  ∃ k m1 a5 n5 c5 a6 n6 c6, i = .int .i64 ((k : Nat) : Int) ∧ k ≤ cs.length ∧ Box3 wr w2.heap.size (.bool m1) (.slice a5 n5 c5) (.slice a6 n6 c6) 70 ∧ IsR wr (.agg #[.bool m1, .slice a5 n5 c5, .slice a6 n6 c6]) (partQ cs ts k) ∧ Below w2.heap.size w2 wr

set_option maxRecDepth 100000 in
set_option maxHeartbeats 8000000 in
theorem step_any (w0 w : World) (B : Nat) (s1 s2 : Value) (ss cs : List Rat) (n : Nat) (h : StR w0 w B s1 s2 ss cs n) (h1 : RsL w0 s1 ss) (h2 : RsL w0 s2 cs) (hl : ss.length = cs.length) (h8 : cs.length ≤ 8) (hb1 : AllBd 60 ss) (hb2 : AllBd 60 cs) (hn : n < 40) (R : Ending → World → Prop)
    (hR : ∀ v q w', termsQ ss cs (n + 1) = termsQ ss cs n ++ [q] → IsR w' v q → StR w0 w' B s1 s2 ss cs (n + 1) → FrB B (w0.heap.size + 1) w w' → R (.returned v) w') :
    Calls Tryz.prog 124 #[.pointer (some ⟨w0.heap.size + 1, 0, none⟩), .pointer (some ⟨w0.heap.size, 0, none⟩)] w R := by
  have HR := Lib.hid hR; clear hR
  obtain ⟨hB1, hB2, hbx, hb0, a, m, c, hbt, how⟩ := h
  obtain ⟨a1, n1, c1, rfl, hn1, _, hs1⟩ := SlE.open h1
  obtain ⟨a2, n2, c2, rfl, hn2, _, hs2⟩ := SlE.open h2
  obtain ⟨ts, hts⟩ : ∃ ts, ts = termsQ ss cs n := ⟨_, rfl⟩
  have HTL : Hid (ts.length = n) := Lib.hid (by rw [hts, termsQ_len])
  have HTBn : Hid (AllBd 22200 ts) := Lib.hid (by rw [hts]; exact terms_bd hl h8 hb1 hb2 (by omega))
  have HPBn : Hid (ss.length ≤ n → ∀ j, j ≤ cs.length → Bd 22200 (partQ cs ts j)) := Lib.hid (fun hs j hj => by rw [hts]; exact part_bd hl h8 hb1 hb2 (by omega) hs hj)
  have HNX : Hid (∀ q, ss[n]? = some q → termsQ ss cs (n + 1) = ts ++ [q]) := Lib.hid (fun q hq => by rw [hts]; exact termsQ_start hq)
  have HNY : Hid (¬ n < ss.length → termsQ ss cs (n + 1) = ts ++ [partQ cs ts cs.length]) := Lib.hid (fun hq => by rw [hts]; exact termsQ_next hq)
  rw [← hts] at how
  have HTS := Lib.hid hts
  obtain ⟨a9, n9, c9, e9, hnm⟩ := how.shape
  cases e9
  have hmn : m = n := by rw [hnm]; exact HTL.out
  subst hmn
  have HS1 := Lib.hid hs1
  have HS2 := Lib.hid hs2
  have HN := Lib.hid (And.intro hn1 (And.intro hn2 (And.intro hl h8)))
  have HBD := Lib.hid (And.intro hb1 hb2)
  have HNN := Lib.hid hn
  have HBB := Lib.hid (And.intro hB1 hB2)
  have HBX := Lib.hid hbx
  have HB0 := Lib.hid hb0
  have HBT := Lib.hid hbt
  have HOW := Lib.hid how
  have HLT := Lib.hid how.own_lt
  obtain ⟨L, hL⟩ : ∃ L, L = w.alloc (.cells #[.bool false, .slice none 0 0, .slice none 0 0] 70) := ⟨_, rfl⟩
  have HBL : Hid (Below w.heap.size w L) := Lib.hid (by rw [hL]; exact (Below.refl _ _).alloc (Nat.le_refl _) _)
  have HRB : Hid (Box3 L w.heap.size (.bool false) (.slice none 0 0) (.slice none 0 0) 70) := Lib.hid (by rw [hL]; exact Box3.made _ _ _ _ _)
  have HL := Lib.hid hL
  have HLS : Hid (L.heap.size = w.heap.size + 1) := Lib.hid (by rw [hL]; simp)
  have hT : ∀ w', Below w.heap.size w w' → w'.cell? ⟨w0.heap.size + 1, 0, none⟩ = some (.slice a m c) := fun w' hb => by
    have := hb.block (w0.heap.size + 1) (by omega)
    simp only [World.cell?, this, hbt]; rfl
  have HT := Lib.hid hT
  have hA := HT.out L HBL.out
  clear h1 h2 hn1 hn2 hs1 hs2 hl h8 hb1 hb2 hbx hb0 hbt how hT hts hnm
  rw [HL.out] at hA
  go_enter Tryz.func124, Tryz.ntmps124
  go_wp2_with fail
  rw [← HL.out]
  clear hA
  refine ratioOf_any _ 0 _ (IsI.nil _) _ ?_
  intro v2 w2 hr2 hb2
  obtain ⟨m0, a5, n5, c5, a6, n6, c6, hm0, rfl, _, _⟩ := hr2.parts
  have HR2 := Lib.hid hr2
  have HB2 := Lib.hid (HBL.out.trans (hb2.mono HBL.out.size))
  have HX2 := Lib.hid (HBX.out.later HB2.out (lt_of_block HBX.out))
  have HRB2 := Lib.hid (HRB.out.later hb2 (lt_of_block HRB.out))
  have hE1 : ¬ w0.heap.size = w2.heap.size := by have := HB2.out.size; have := HBB.out; omega
  have hE2 : ¬ w0.heap.size + 1 = w2.heap.size := by have := HB2.out.size; have := HBB.out; omega
  have hE3 : ¬ w.heap.size = w2.heap.size := by have := lt_of_block HRB2.out; omega
  have hE4 : ¬ w0.heap.size + 1 = w.heap.size := by have := HBB.out; omega
  have hE5 : ¬ w0.heap.size + 1 = w2.heap.size + 1 := by have := HB2.out.size; have := HBB.out; omega
  have hE6 : ¬ w2.heap.size = w0.heap.size + 1 := fun e => hE2 e.symm
  have hE7 : ¬ w.heap.size = w0.heap.size + 1 := fun e => hE4 e.symm
  have HE := Lib.hid (And.intro hE1 (And.intro hE2 (And.intro hE3 (And.intro hE4 hE5))))
  clear hr2 hm0
  by_cases hns : m < n1
  · obtain ⟨q, hq⟩ : ∃ q, ss[m]? = some q := ⟨_, List.getElem?_eq_getElem (by rw [← HN.out.1]; exact hns)⟩
    have HM2 := Lib.hid (HNX.out q hq)
    obtain ⟨b, off, cc, rfl, hb, hcell, hE⟩ := HS1.out.at m q hq
    obtain ⟨x1, y1, z1, x2, y2, z2, hcs, hi1, hi2⟩ := hE
    obtain ⟨ng, hng⟩ : ∃ ng, ng = decide (q.num < 0) := ⟨_, rfl⟩
    rw [← hng] at hcs
    have hB02 := HB0.out.trans (HB2.out.mono HB0.out.size)
    obtain ⟨V, hV⟩ : ∃ V, V = w2.alloc (.cells #[.bool ng, .slice x1 y1 z1, .slice x2 y2 z2] 70) := ⟨_, rfl⟩
    have hbV : Below w2.heap.size w2 V := by rw [hV]; exact (Below.refl _ _).alloc (Nat.le_refl _) _
    have HV := Lib.hid hV
    have HVS : Hid (V.heap.size = w2.heap.size + 1) := Lib.hid (by rw [hV]; simp)
    have hd0 : (w2.alloc (.cells #[.bool m0, .slice a5 n5 c5, .slice a6 n6 c6] 70)).cell? ⟨b, off + m * 3, none⟩ = some (.bool ng) := by rw [((hB02.trans (((Below.refl w2.heap.size w2).alloc (Nat.le_refl _) _).mono hB02.size))).cell (p := ⟨b, off + m * 3, none⟩) hb]; exact hcell 0 _ (by rw [hcs]; rfl)
    have hd1 : (w2.alloc (.cells #[.bool m0, .slice a5 n5 c5, .slice a6 n6 c6] 70)).cell? ⟨b, off + m * 3 + 1, none⟩ = some (.slice x1 y1 z1) := by rw [((hB02.trans (((Below.refl w2.heap.size w2).alloc (Nat.le_refl _) _).mono hB02.size))).cell (p := ⟨b, off + m * 3 + 1, none⟩) hb]; exact hcell 1 _ (by rw [hcs]; rfl)
    have hd2 : (w2.alloc (.cells #[.bool m0, .slice a5 n5 c5, .slice a6 n6 c6] 70)).cell? ⟨b, off + m * 3 + 2, none⟩ = some (.slice x2 y2 z2) := by rw [((hB02.trans (((Below.refl w2.heap.size w2).alloc (Nat.le_refl _) _).mono hB02.size))).cell (p := ⟨b, off + m * 3 + 2, none⟩) hb]; exact hcell 2 _ (by rw [hcs]; rfl)
    have hbA : Below w2.heap.size w2 (w2.alloc (.cells #[.bool m0, .slice a5 n5 c5, .slice a6 n6 c6] 70)) := (Below.refl _ _).alloc (Nat.le_refl _) _
    obtain ⟨hC0, hC1, _, _⟩ := (HX2.out.later hbA (lt_of_block HX2.out)).cells
    have hT1 := HT.out V (HB2.out.trans (hbV.mono HB2.out.size))
    have HBV := Lib.hid (HB2.out.trans (hbV.mono HB2.out.size))
    have HQV := Lib.hid ((show IsR w0 (.agg #[.bool ng, .slice x1 y1 z1, .slice x2 y2 z2]) q from ⟨_, _, by rw [hng], hi1, hi2⟩).later (HB0.out.trans (HBV.out.mono HB0.out.size)) (Nat.le_refl _))
    have k0 : (0 : Int) ≤ (m : Int) := by omega
    have k1 : (m : Int) < (n1 : Int) := by omega
    have hbb : Below V.heap.size V (V.alloc (.cells #[.bool ng, .slice x1 y1 z1, .slice x2 y2 z2] 70)) := (Below.refl _ _).alloc (Nat.le_refl _) _
    have HBXX := Lib.hid (HBV.out.trans (hbb.mono HBV.out.size))
    have HQX := Lib.hid (HQV.out.later hbb (Nat.le_refl _))
    have HRBX := Lib.hid ((HRB2.out.later hbV (lt_of_block HRB2.out)).later hbb (by have := lt_of_block HRB2.out; have := hbV.size; omega))
    have HTBX : Hid (Box3 (V.alloc (.cells #[.bool ng, .slice x1 y1 z1, .slice x2 y2 z2] 70)) w2.heap.size (.bool ng) (.slice x1 y1 z1) (.slice x2 y2 z2) 70) := Lib.hid (by
      have k := Box3.made w2 (.bool ng) (.slice x1 y1 z1) (.slice x2 y2 z2) 70
      rw [← hV] at k
      exact k.later hbb (lt_of_block k))
    rw [hV] at hT1 HBXX HQX HRBX HTBX
    clear hq hcell hcs hi1 hi2 hng hb hns hb2 hbA hV hbV hB02 hbb
    dsimp only
    have HOWX : Hid (OwE 3 ER 70 ((w2.alloc (.cells #[.bool ng, .slice x1 y1 z1, .slice x2 y2 z2] 70)).alloc (.cells #[.bool ng, .slice x1 y1 z1, .slice x2 y2 z2] 70)) B (.slice a m c) ts) := Lib.hid (HOW.out.later elemR HBXX.out (Nat.le_refl _))
    have HERX : Hid (ER ((w2.alloc (.cells #[.bool ng, .slice x1 y1 z1, .slice x2 y2 z2] 70)).alloc (.cells #[.bool ng, .slice x1 y1 z1, .slice x2 y2 z2] 70)) [.bool ng, .slice x1 y1 z1, .slice x2 y2 z2] q) := Lib.hid (by
      obtain ⟨r1, r2, re, r3, r4⟩ := HQX.out
      simp only [Value.agg.injEq, Array.mk.injEq, List.cons.injEq, and_true] at re
      obtain ⟨e1, rfl, rfl⟩ := re
      exact ⟨_, _, _, _, _, _, by rw [e1], r3, r4⟩)
    have HCX : Hid (∀ j u, ([.bool ng, .slice x1 y1 z1, .slice x2 y2 z2] : List Value)[j]? = some u → ((w2.alloc (.cells #[.bool ng, .slice x1 y1 z1, .slice x2 y2 z2] 70)).alloc (.cells #[.bool ng, .slice x1 y1 z1, .slice x2 y2 z2] 70)).cell? ⟨w2.heap.size + 1, j, none⟩ = some u) := Lib.hid (cells_alloc (w2.alloc (.cells #[.bool ng, .slice x1 y1 z1, .slice x2 y2 z2] 70)) #[.bool ng, .slice x1 y1 z1, .slice x2 y2 z2] _ (w2.heap.size + 1) (by simp))
    have HLK : Hid (ts.length ≤ 100000000) := Lib.hid (by rw [HTL.out]; have := HNN.out; omega)
    go_wp2_with (at_builtin; go_must (refine wpList_pushE elemR (by omega) rfl _ _ 63 rfl 70 56 zeroR Tryz.underlying63 info_ratio rfl zeroR_ints (by omega) B ts HOWX.out HLK.out (Nat.le_trans HBB.out.2 HBXX.out.size) (w2.heap.size + 1) [.bool ng, .slice x1 y1 z1, .slice x2 y2 z2] q rfl HERX.out HCX.out ?_))
    intro ao n9 c9 w9 hown9 hn9 hgr hb9
    have HOW9 : Hid (OwE 3 ER 70 w9 B (.slice ao n9 c9) (termsQ ss cs (m + 1))) := Lib.hid (by rw [HM2.out]; exact hown9)
    have hrb9 := grown_box3 hgr HRBX.out HLT.out
    have htb9 := grown_box3 hgr HTBX.out (fun g hg => by have := HLT.out g hg; have := HB2.out.size; omega)
    have hbt9 : w9.heap[w0.heap.size + 1]? = some (.cells #[.slice a m c] 63 (0, 0)) := by
      rw [hb9.block _ (by have := HBB.out; omega), HBXX.out.block _ (by have := HBB.out; omega)]; exact HBT.out
    have HEND := Lib.hid (step_end HBB.out.1 HBB.out.2 HBX.out HB0.out HBT.out HOWX.out HLT.out HBXX.out HRBX.out hgr hb9 HOW9.out HQX.out rfl rfl)
    unfold stepEnd at HEND
    obtain ⟨⟨hR0, hR1, hR2⟩, hF0, hF1, hF2⟩ := hrb9.cells
    obtain ⟨⟨hP0, hP1, hP2⟩, _, _, _⟩ := htb9.cells
    obtain ⟨hU0, hU1⟩ := one_cells hbt9
    clear hown9 hn9 hgr hb9 hrb9 htb9 hbt9
    go_wp2
    refine bodyPost_ret_at (by simp [results, Tryz.results124, go_sem, hR0, hR1, hR2, hF0, hF1, hF2, hE3, hE4, hE6, hE7] <;> rfl) rfl ?_
    exact HR.out _ q _ (by rw [← HTS.out]; exact HM2.out) HEND.out.2.1 HEND.out.1 HEND.out.2.2
  · have HNS := Lib.hid (show ss.length ≤ m by have := HN.out.1; omega)
    have k1 : ¬ (m : Int) < (n1 : Int) := by omega
    have HM2 := Lib.hid (HNY.out (by have := HNS.out; omega))
    have HPB := Lib.hid (HPBn.out HNS.out)
    obtain ⟨W, hW⟩ : ∃ W, W = w2.alloc (.cells #[.bool m0, .slice a5 n5 c5, .slice a6 n6 c6] 70) := ⟨_, rfl⟩
    have HW := Lib.hid hW
    have hbW : Below w2.heap.size w2 W := by rw [hW]; exact (Below.refl _ _).alloc (Nat.le_refl _) _
    obtain ⟨hC0, hC1, _, _⟩ := (HX2.out.later hbW (lt_of_block HX2.out)).cells
    have HST : Hid (StepSum w2 cs ts (.int .i64 0) W) := Lib.hid ⟨0, m0, a5, n5, c5, a6, n6, c6, rfl, Nat.zero_le _, by rw [hW]; exact Box3.made _ _ _ _ _, by rw [partQ]; exact HR2.out.later hbW (Nat.le_refl _), hbW⟩
    rw [hW] at hC0 hC1
    clear hns hb2 hW hbW
    dsimp only
    go_wp2
    rw [← HW.out]
    clear hC0 hC1 HW
    go_loopw [24] (fun i wr => StepSum w2 cs ts i wr) (fun i _ => n2 - (intOf i).toNat)
    case atStart => exact HST.out
    case round =>
      clear HST
      obtain ⟨k, m3, a7, n7, c7, a8, n8, c8, rfl, hk, hbox, hq, hbel⟩ := hrel
      have HBOX := Lib.hid hbox
      have HQQ := Lib.hid hq
      have HBW := Lib.hid hbel
      have HBT2 := Lib.hid (HB2.out.trans (hbel.mono HB2.out.size))
      have hT1 := HT.out wr HBT2.out
      by_cases hkn : k = n2
      · have hk2 : ¬ (k : Int) < (n2 : Int) := by omega
        have hke : k = cs.length := by have := HN.out; omega
        rw [hke] at HQQ
        have hbb : Below wr.heap.size wr (wr.alloc (.cells #[.bool m3, .slice a7 n7 c7, .slice a8 n8 c8] 70)) := (Below.refl _ _).alloc (Nat.le_refl _) _
        have HBXX := Lib.hid (HBT2.out.trans (hbb.mono HBT2.out.size))
        have HQX := Lib.hid (HQQ.out.later hbb (Nat.le_refl _))
        have HRBX := Lib.hid ((HRB2.out.later hbel (lt_of_block HRB2.out)).later hbb (by have := lt_of_block HRB2.out; have := hbel.size; omega))
        have HTBX := Lib.hid (HBOX.out.later hbb (lt_of_block HBOX.out))
        obtain ⟨⟨hS0, hS1, hS2⟩, _, _, _⟩ := hbox.cells
        clear hk hbox hq hbel hbb hkn hke
        have HOWX : Hid (OwE 3 ER 70 (wr.alloc (.cells #[.bool m3, .slice a7 n7 c7, .slice a8 n8 c8] 70)) B (.slice a m c) ts) := Lib.hid (HOW.out.later elemR HBXX.out (Nat.le_refl _))
        have HERX : Hid (ER (wr.alloc (.cells #[.bool m3, .slice a7 n7 c7, .slice a8 n8 c8] 70)) [.bool m3, .slice a7 n7 c7, .slice a8 n8 c8] (partQ cs ts cs.length)) := Lib.hid (by
          obtain ⟨r1, r2, re, r3, r4⟩ := HQX.out
          simp only [Value.agg.injEq, Array.mk.injEq, List.cons.injEq, and_true] at re
          obtain ⟨e1, rfl, rfl⟩ := re
          exact ⟨_, _, _, _, _, _, by rw [e1], r3, r4⟩)
        have HCX : Hid (∀ j u, ([.bool m3, .slice a7 n7 c7, .slice a8 n8 c8] : List Value)[j]? = some u → (wr.alloc (.cells #[.bool m3, .slice a7 n7 c7, .slice a8 n8 c8] 70)).cell? ⟨wr.heap.size, j, none⟩ = some u) := Lib.hid (cells_alloc wr #[.bool m3, .slice a7 n7 c7, .slice a8 n8 c8] _ (wr.heap.size) (by simp))
        have HLK : Hid (ts.length ≤ 100000000) := Lib.hid (by rw [HTL.out]; have := HNN.out; omega)
        go_wp2_with (at_builtin; go_must (refine wpList_pushE elemR (by omega) rfl _ _ 63 rfl 70 56 zeroR Tryz.underlying63 info_ratio rfl zeroR_ints (by omega) B ts HOWX.out HLK.out (Nat.le_trans HBB.out.2 HBXX.out.size) (wr.heap.size) [.bool m3, .slice a7 n7 c7, .slice a8 n8 c8] (partQ cs ts cs.length) rfl HERX.out HCX.out ?_))
        intro ao n9 c9 w9 hown9 hn9 hgr hb9
        have HOW9 : Hid (OwE 3 ER 70 w9 B (.slice ao n9 c9) (termsQ ss cs (m + 1))) := Lib.hid (by rw [HM2.out]; exact hown9)
        have hrb9 := grown_box3 hgr HRBX.out HLT.out
        have htb9 := grown_box3 hgr HTBX.out (fun g hg => by have := HLT.out g hg; have := HB2.out.size; omega)
        have hbt9 : w9.heap[w0.heap.size + 1]? = some (.cells #[.slice a m c] 63 (0, 0)) := by
          rw [hb9.block _ (by have := HBB.out; omega), HBXX.out.block _ (by have := HBB.out; omega)]; exact HBT.out
        have HEND := Lib.hid (step_end HBB.out.1 HBB.out.2 HBX.out HB0.out HBT.out HOWX.out HLT.out HBXX.out HRBX.out hgr hb9 HOW9.out HQX.out rfl rfl)
        unfold stepEnd at HEND
        obtain ⟨⟨hR0, hR1, hR2⟩, hF0, hF1, hF2⟩ := hrb9.cells
        obtain ⟨⟨hP0, hP1, hP2⟩, _, _, _⟩ := htb9.cells
        obtain ⟨hU0, hU1⟩ := one_cells hbt9
        clear hown9 hn9 hgr hb9 hrb9 htb9 hbt9
        go_wp2
        refine bodyPost_ret_at (by simp [results, Tryz.results124, go_sem, hR0, hR1, hR2, hF0, hF1, hF2, hE3, hE4, hE6, hE7] <;> rfl) rfl ?_
        exact HR.out _ (partQ cs ts cs.length) _ (by rw [← HTS.out]; exact HM2.out) HEND.out.2.1 HEND.out.1 HEND.out.2.2
      · have hkl : k < cs.length := by have := HN.out; omega
        obtain ⟨q, hq9⟩ : ∃ q, cs[k]? = some q := ⟨_, List.getElem?_eq_getElem hkl⟩
        have hts0 := HTL.out
        obtain ⟨j, hj⟩ : ∃ j, j = m - 1 - k := ⟨_, rfl⟩
        have hjn : j < ts.length := by have := HN.out; have := HNS.out; omega
        obtain ⟨r, hr⟩ : ∃ r, ts[j]? = some r := ⟨_, List.getElem?_eq_getElem hjn⟩
        have HNEW : Hid (partQ cs ts (k + 1) = partQ cs ts k + q * r) := Lib.hid (partQ_succ hq9 (by rw [hts0, ← hj]; exact hr))
        have HBP := Lib.hid (HPB.out k hk)
        have HBQ := Lib.hid (HBD.out.2 k q hq9)
        have HBR := Lib.hid (HTBn.out j r hr)
        obtain ⟨b, off, cc, rfl, hb, hcell, hE⟩ := HS2.out.at k q hq9
        obtain ⟨x1, y1, z1, x2, y2, z2, hcs, hi1, hi2⟩ := hE
        obtain ⟨b2, off2, cs2, rfl, hb2, hcell2, hE2⟩ := HOW.out.sl.at j r hr
        obtain ⟨x3, y3, z3, x4, y4, z4, hcs2, hi3, hi4⟩ := hE2
        obtain ⟨ng, hng⟩ : ∃ ng, ng = decide (q.num < 0) := ⟨_, rfl⟩
        obtain ⟨mg, hmg⟩ : ∃ mg, mg = decide (r.num < 0) := ⟨_, rfl⟩
        rw [← hng] at hcs
        rw [← hmg] at hcs2
        have HB0R := Lib.hid (HB0.out.trans (HBT2.out.mono HB0.out.size))
        have hd0 : wr.cell? ⟨b, off + k * 3, none⟩ = some (.bool ng) := by rw [HB0R.out.cell (p := ⟨b, off + k * 3, none⟩) hb]; exact hcell 0 _ (by rw [hcs]; rfl)
        have hd1 : wr.cell? ⟨b, off + k * 3 + 1, none⟩ = some (.slice x1 y1 z1) := by rw [HB0R.out.cell (p := ⟨b, off + k * 3 + 1, none⟩) hb]; exact hcell 1 _ (by rw [hcs]; rfl)
        have hd2 : wr.cell? ⟨b, off + k * 3 + 2, none⟩ = some (.slice x2 y2 z2) := by rw [HB0R.out.cell (p := ⟨b, off + k * 3 + 2, none⟩) hb]; exact hcell 2 _ (by rw [hcs]; rfl)
        obtain ⟨U, hU⟩ : ∃ U, U = wr.alloc (.cells #[.bool ng, .slice x1 y1 z1, .slice x2 y2 z2] 70) := ⟨_, rfl⟩
        have hbU : Below wr.heap.size wr U := by rw [hU]; exact (Below.refl _ _).alloc (Nat.le_refl _) _
        have HBTU := Lib.hid (HBT2.out.trans (hbU.mono HBT2.out.size))
        have hy0 : U.cell? ⟨b2, off2 + j * 3, none⟩ = some (.bool mg) := by rw [HBTU.out.cell (p := ⟨b2, off2 + j * 3, none⟩) hb2]; exact hcell2 0 _ (by rw [hcs2]; rfl)
        have hy1 : U.cell? ⟨b2, off2 + j * 3 + 1, none⟩ = some (.slice x3 y3 z3) := by rw [HBTU.out.cell (p := ⟨b2, off2 + j * 3 + 1, none⟩) hb2]; exact hcell2 1 _ (by rw [hcs2]; rfl)
        have hy2 : U.cell? ⟨b2, off2 + j * 3 + 2, none⟩ = some (.slice x4 y4 z4) := by rw [HBTU.out.cell (p := ⟨b2, off2 + j * 3 + 2, none⟩) hb2]; exact hcell2 2 _ (by rw [hcs2]; rfl)
        have hT2 := HT.out U HBTU.out
        have hbx2 := Box3.made wr (.bool ng) (.slice x1 y1 z1) (.slice x2 y2 z2) 70
        rw [← hU] at hbx2
        obtain ⟨⟨hv0, hv1, hv2⟩, _, _, _⟩ := hbx2.cells
        have HBOXU := Lib.hid (HBOX.out.later hbU (lt_of_block HBOX.out))
        obtain ⟨⟨hS0, hS1, hS2⟩, _, _, _⟩ := HBOXU.out.cells
        have HXU := Lib.hid (((show IsR w0 (.agg #[.bool ng, .slice x1 y1 z1, .slice x2 y2 z2]) q from ⟨_, _, by rw [hng], hi1, hi2⟩).later HB0R.out (Nat.le_refl _)).later hbU (Nat.le_refl _))
        have HYU := Lib.hid ((show IsR w (.agg #[.bool mg, .slice x3 y3 z3, .slice x4 y4 z4]) r from ⟨_, _, by rw [hmg], hi3, hi4⟩).later HBTU.out (Nat.le_refl _))
        have HQU := Lib.hid (HQQ.out.later hbU (Nat.le_refl _))
        have HGW : Hid (w2.heap.size < U.heap.size) := Lib.hid (lt_of_block HBOXU.out)
        have HBWU := Lib.hid (HBW.out.trans (hbU.mono HBW.out.size))
        have hw2 : IntKind.i64.wrap ((k : Int) + 1) = ((k + 1 : Nat) : Int) := by rw [IntWalk.i64_in _ (by have := HN.out; omega)]; omega
        obtain ⟨nn, hnn⟩ : ∃ nn, nn = (m : Int) - 1 := ⟨_, rfl⟩
        have hw3 : IntKind.i64.wrap ((m : Int) - 1) = nn := by rw [IntWalk.i64_in _ (by have := HNN.out; omega)]; exact hnn.symm
        have hw4 : IntKind.i64.wrap (nn - (k : Int)) = (j : Int) := by have := HNS.out; have := HN.out; rw [IntWalk.i64_in _ (by have := HNN.out; omega)]; omega
        have hk0 : (0 : Int) ≤ (k : Int) := by omega
        have hkn2 : (k : Int) < (n2 : Int) := by have := HN.out; omega
        have hj0 : (0 : Int) ≤ (j : Int) := by omega
        have hj1 : (j : Int) < (m : Int) := by omega
        have HL1 := Lib.hid (HBP.out.len (B := W64) (by rw [W64_eq]; omega))
        have HL2 := Lib.hid (HBQ.out.len (B := W64) (by rw [W64_eq]; omega))
        have HL3 := Lib.hid (HBR.out.len (B := W64) (by rw [W64_eq]; omega))
        have HL4 := Lib.hid ((HBQ.out.mul HBR.out).len (B := W64) (by rw [W64_eq]; omega))
        have HKL := Lib.hid (show k + 1 ≤ cs.length ∧ k < n2 by have := HN.out; omega)
        have HU := Lib.hid hU
        clear hq9 hr hcell hcs hcell2 hcs2 hi1 hi2 hi3 hi4 hng hmg hbel hkn hkl hk hj hjn hnn hbox hq hb hb2 hU hbU hbx2 hts0 hT1
        go_wp2_with fail
        rw [← HU.out]
        clear hd0 hd1 hd2
        go_region_law (first
          | (have hguard := HB5; (try go_simp); go_at_call 125; refine rplus_any _ _ (partQ cs ts k) (q * r) _ (HQU.out.later HB5.out (Nat.le_refl _)) HV5.out (Nat.le_trans HL1.out.1 (by omega)) (Nat.le_trans HL1.out.2 (by omega)) (Nat.le_trans HL4.out.1 (by omega)) (Nat.le_trans HL4.out.2 (by omega)) _ ?_; rw [← HNEW.out]; intro v6 w6 hv6 hb6; obtain ⟨m6, a10, n10, c10, a11, n11, c11, hm6, rfl, _, _⟩ := hv6.parts; have HV6 := Lib.hid hv6; have HB6 := Lib.hid (HB5.out.trans (hb6.mono HB5.out.size)); have k6 := HBOXU.out.later HB6.out HGW.out; obtain ⟨⟨hX0, hX1, hX2⟩, hX3, hX4, hX5⟩ := k6.cells; have HK6 := Lib.hid k6; clear hguard hm6 hv6 hb6 k6; dsimp only)
          | ((try go_simp); go_at_call 105; refine rtimes_any _ _ q r _ (HXU.out.later (by first | exact (Below.refl _ _).drew | exact Below.refl _ _) (Nat.le_refl _)) (HYU.out.later (by first | exact (Below.refl _ _).drew | exact Below.refl _ _) (Nat.le_refl _)) (Nat.le_trans HL2.out.1 (by omega)) (Nat.le_trans HL2.out.2 (by omega)) (Nat.le_trans HL3.out.1 (by omega)) (Nat.le_trans HL3.out.2 (by omega)) _ ?_; intro v5 w5 hv5 hb5; obtain ⟨m5, a12, n12, c12, a13, n13, c13, hm5, rfl, _, _⟩ := hv5.parts; have HV5 := Lib.hid hv5; have HB5 : Hid (Below U.heap.size U w5) := Lib.hid (by first | exact hb5 | exact below_unDrew hb5); have k5 := HBOXU.out.later HB5.out HGW.out; obtain ⟨⟨hW0, hW1, hW2⟩, _, _, _⟩ := k5.cells; clear hm5 hv5 hb5 k5; dsimp only))
        all_goals
          have HNI := Lib.hid (HK6.out.noInt rfl rfl rfl)
          have HREL : Hid (StepSum w2 cs ts (.int .i64 ((k + 1 : Nat) : Int)) (((w6.setCell ⟨w2.heap.size, 0, none⟩ (.bool m6)).setCell ⟨w2.heap.size, 1, none⟩ (.slice a10 n10 c10)).setCell ⟨w2.heap.size, 2, none⟩ (.slice a11 n11 c11))) := Lib.hid
            ⟨k + 1, m6, a10, n10, c10, a11, n11, c11, rfl, HKL.out.1, HK6.out.set012 _ _ _, HV6.out.set3 HNI.out _ _ _ rfl rfl, below_set3 (HBWU.out.trans (HB6.out.mono (Nat.le_of_lt HGW.out))) (Nat.le_refl _) _ _ _⟩
          go_wp2
          go_roundw
          case rel => exact HREL.out
          case measure => simp [intOf]; have := HKL.out; omega
end Go.Proofs.YtegdcmcfeaohhaaGreatDoor

namespace Go.Proofs.YtegdcmcfeaohhaaGreatDoor
open Go Go.RowKit

def GoRel (w : World) (ss cs : List Rat) (c : Nat) (v i : Value) (wr : World) : Prop :=
  ∃ n : Nat, i = .int .i64 (n : Int) ∧ n ≤ c ∧ OwE 4 EQ 58 wr w.heap.size v (termsQ ss cs n) ∧ Below w.heap.size w wr
def GoSum (w2 : World) (ts cs : List Rat) (i : Value) (wr : World) : Prop :=
  ∃ k m1 a5 n5 c5 m2 a6 n6 c6, i = .int .i64 ((k : Nat) : Int) ∧ k ≤ cs.length ∧ Box4 wr w2.heap.size (.bool m1) (.slice a5 n5 c5) (.bool m2) (.slice a6 n6 c6) 58 ∧ IsQ wr (.agg #[.bool m1, .slice a5 n5 c5, .bool m2, .slice a6 n6 c6]) (partQ cs ts k) ∧ Below w2.heap.size w2 wr

set_option maxRecDepth 100000 in
set_option maxHeartbeats 8000000 in
theorem l3go_any (va vb : Value) (ss cs : List Rat) (c : Nat) (w : World) (h1 : SlE 4 EQ w va ss) (h2 : SlE 4 EQ w vb cs) (hl : ss.length = cs.length) (h8 : cs.length ≤ 8) (hb1 : AllBd 60 ss) (hb2 : AllBd 60 cs) (hc : c ≤ 40) (R : Ending → World → Prop)
    (hR : ∀ v' w', OwE 4 EQ 58 w' w.heap.size v' (termsQ ss cs c) → Below w.heap.size w w' → R (.returned v') w') :
    Calls Tryz.prog 123 #[va, vb, .int .i64 (c : Int)] w R := by
  have HR := Lib.hid hR; clear hR
  obtain ⟨a1, n1, c1, rfl, hn1, _, hs1⟩ := h1.open
  obtain ⟨a2, n2, c2, rfl, hn2, _, hs2⟩ := h2.open
  have HN := Lib.hid (And.intro hn1 (And.intro hn2 (And.intro hl (And.intro h8 hc))))
  have hn8 : n1 ≤ 8 ∧ n2 ≤ 8 := by omega
  have HBD := Lib.hid (And.intro hb1 hb2)
  have HA := Lib.hid hs1
  have HB := Lib.hid hs2
  have HTB : Hid (∀ n, n ≤ 40 → AllBd 22200 (termsQ ss cs n)) := Lib.hid (fun n hn => terms_bd hl h8 hb1 hb2 hn)
  have HPB : Hid (∀ n j, n ≤ 40 → ss.length ≤ n → j ≤ cs.length → Bd 22200 (partQ cs (termsQ ss cs n) j)) := Lib.hid (fun n j hn hs hj => part_bd hl h8 hb1 hb2 hn hs hj)
  have HST : Hid (GoRel w ss cs c (.slice (some ⟨w.heap.size, 0, none⟩) 0 0) (.int .i64 0) (w.alloc (.cells #[] 58))) := Lib.hid ⟨0, rfl, Nat.zero_le _, OwE.lit _ _ _ (Nat.le_refl _), (Below.refl _ _).alloc (Nat.le_refl _) _⟩
  clear h1 h2 hn1 hn2 hs1 hs2 hb1 hb2 hl h8
  go_enter Tryz.func123, Tryz.ntmps123
  go_wp2
  go_loopw [7, 8] (fun v i wr => GoRel w ss cs c v i wr) (fun _ i _ => c - (intOf i).toNat)
  case atStart => exact HST.out
  case round =>
    clear HST
    obtain ⟨n, rfl, hn, hown, hbel⟩ := hrel
    have HBE := Lib.hid hbel
    have HOWN := Lib.hid hown
    obtain ⟨a5, n5, c5, rfl, hn5⟩ := hown.shape
    have HN5 : Hid (n5 = n) := Lib.hid (by rw [hn5, termsQ_len])
    clear hown hn5
    by_cases hnc : n = c
    · have c9 : ¬ ((n : Int) < (c : Int)) := by omega
      have HF := Lib.hid (HR.out _ wr (by rw [← hnc]; exact HOWN.out) HBE.out)
      clear hbel hn hnc
      go_wp2
      first | go_ret | skip
      exact HF.out
    · have hnl : n < c := by omega
      have hnl' : (n : Int) < (c : Int) := by omega
      have hw1 : IntKind.i64.wrap ((n : Int) + 1) = ((n + 1 : Nat) : Int) := by rw [IntWalk.i64_in _ (by omega)]; omega
      have HNL := Lib.hid (show n + 1 ≤ c ∧ n < c ∧ n ≤ 40 by have := HN.out.2.2.2.2; omega)
      have HLK : Hid ((termsQ ss cs n).length ≤ 100000000) := Lib.hid (by rw [termsQ_len]; omega)
      by_cases hns : n < n1
      · obtain ⟨q, hq⟩ : ∃ q, ss[n]? = some q := ⟨_, List.getElem?_eq_getElem (by rw [← HN.out.1]; exact hns)⟩
        have HM2 := Lib.hid (termsQ_start (cs := cs) hq)
        obtain ⟨b, off, cc, rfl, hb, hcell, hE⟩ := HA.out.at n q hq
        obtain ⟨x1, y1, z1, x2, y2, z2, hcs, hi1⟩ := hE
        obtain ⟨ng, hng⟩ : ∃ ng, ng = decide (q.num < 0) := ⟨_, rfl⟩
        rw [← hng] at hcs hi1
        have hd0 : wr.cell? ⟨b, off + n * 4, none⟩ = some (.bool ng) := by rw [hbel.cell (p := ⟨b, off + n * 4, none⟩) hb]; exact hcell 0 _ (by rw [hcs]; rfl)
        have hd1 : wr.cell? ⟨b, off + n * 4 + 1, none⟩ = some (.slice x1 y1 z1) := by rw [hbel.cell (p := ⟨b, off + n * 4 + 1, none⟩) hb]; exact hcell 1 _ (by rw [hcs]; rfl)
        have hd2 : wr.cell? ⟨b, off + n * 4 + 2, none⟩ = some (.bool false) := by rw [hbel.cell (p := ⟨b, off + n * 4 + 2, none⟩) hb]; exact hcell 2 _ (by rw [hcs]; rfl)
        have hd3 : wr.cell? ⟨b, off + n * 4 + 3, none⟩ = some (.slice x2 y2 z2) := by rw [hbel.cell (p := ⟨b, off + n * 4 + 3, none⟩) hb]; exact hcell 3 _ (by rw [hcs]; rfl)
        have HEQ := Lib.hid (EQ.of (hi1.later hbel (Nat.le_refl _)))
        have k0 : (0 : Int) ≤ (n : Int) := by omega
        have k1 : (n : Int) < (n1 : Int) := by omega
        clear hq hcell hcs hi1 hng hbel hb hn hnc hnl hns
        go_wp2_with (at_builtin; go_must (refine wpList_pushE elemQ (by omega) rfl _ _ 51 rfl 58 64 zeroQ Tryz.underlying51 info_q rfl zeroQ_ints (by omega) w.heap.size _ (HOWN.out.alloc elemQ _) HLK.out (by have := HBE.out.size; simp; omega) wr.heap.size [.bool ng, .slice x1 y1 z1, .bool false, .slice x2 y2 z2] q rfl (elemQ.below HEQ.out ((Below.refl _ _).alloc (Nat.le_refl _) _) (Nat.le_refl _)) (cells_alloc _ #[.bool ng, .slice x1 y1 z1, .bool false, .slice x2 y2 z2] _ _ rfl) ?_))
        intro ao n9 c9 w9 hown9 hn9 hgr hb9
        have HOW9 : Hid (OwE 4 EQ 58 w9 w.heap.size (.slice ao n9 c9) (termsQ ss cs (n + 1))) := Lib.hid (by rw [HM2.out]; exact hown9)
        have HB9 : Hid (Below w.heap.size w w9) := Lib.hid ((HBE.out.alloc HBE.out.size _).trans hb9)
        clear hown9 hn9 hgr hb9
        go_wp2
        go_roundw
        case rel => exact ⟨n + 1, by first | rfl | go_num, HNL.out.1, HOW9.out, HB9.out⟩
        case measure => simp [intOf]; have := HNL.out; omega
      · have k1 : ¬ (n : Int) < (n1 : Int) := by omega
        have HNS := Lib.hid (show ss.length ≤ n by rw [← HN.out.1]; omega)
        have HM2 := Lib.hid (termsQ_next (ss := ss) (cs := cs) (n := n) (by rw [← HN.out.1]; exact hns))
        obtain ⟨ts, hts⟩ : ∃ ts, ts = termsQ ss cs n := ⟨_, rfl⟩
        have HTL : Hid (ts.length = n) := Lib.hid (by rw [hts, termsQ_len])
        have HTBn : Hid (AllBd 22200 ts) := Lib.hid (by rw [hts]; exact HTB.out n HNL.out.2.2)
        have HPBn : Hid (∀ j, j ≤ cs.length → Bd 22200 (partQ cs ts j)) := Lib.hid (fun j hj => by rw [hts]; exact HPB.out n j HNL.out.2.2 HNS.out hj)
        rw [← hts] at HOWN HLK HM2
        clear hbel hn hnc hnl hns hts
        go_wp2_with fail
        refine int_any 0 _ (by omega) (by omega) _ ?_
        intro v2 w2 hq2 hb2
        obtain ⟨m1, x5, y5, z5, x6, y6, z6, rfl, _, _⟩ := hq2.parts
        obtain ⟨W, hW⟩ : ∃ W, W = w2.alloc (.cells #[.bool m1, .slice x5 y5 z5, .bool false, .slice x6 y6 z6] 58) := ⟨_, rfl⟩
        have HW := Lib.hid hW
        have hbW : Below w2.heap.size w2 W := by rw [hW]; exact (Below.refl _ _).alloc (Nat.le_refl _) _
        have HB2 := Lib.hid (HBE.out.trans (hb2.mono HBE.out.size))
        have HOW2 := Lib.hid (HOWN.out.later elemQ hb2 (Nat.le_refl _))
        have HCS2 := Lib.hid (SlE.later elemQ HB.out HB2.out (Nat.le_refl _))
        have HST : Hid (GoSum w2 ts cs (.int .i64 0) W) := Lib.hid ⟨0, m1, x5, y5, z5, false, x6, y6, z6, rfl, Nat.zero_le _, by rw [hW]; exact Box4.made _ _ _ _ _ _, by rw [partQ]; exact hq2.later hbW (Nat.le_refl _), hbW⟩
        clear hq2 hb2 hW hbW
        dsimp only
        go_wp2_with fail
        rw [← HW.out]
        clear HW
        go_loopw [10] (fun i wr2 => GoSum w2 ts cs i wr2) (fun i _ => n2 - (intOf i).toNat)
        case atStart => exact HST.out
        case round =>
          clear HST
          obtain ⟨k, m3, a7, n7, c7, m4, a8, n8, c8, rfl, hk, hbox, hq, hbel⟩ := hrel
          have HBOX := Lib.hid hbox
          have HQQ := Lib.hid hq
          have HBW := Lib.hid hbel
          have HGW : Hid (w2.heap.size < wr.heap.size) := Lib.hid (lt_of_block hbox)
          obtain ⟨⟨hP0, hP1, hP2, hP3⟩, hF0, hF1, hF2, hF3⟩ := hbox.cells
          have hqp := hq
          obtain ⟨m9, x9, y9, z9, x8, y8, z8, hag, _, _⟩ := hqp.parts
          simp only [Value.agg.injEq, Array.mk.injEq, List.cons.injEq, and_true, Value.bool.injEq, Value.slice.injEq] at hag
          have hm4 : m4 = false := hag.2.2.1
          subst hm4
          clear hqp hag
          by_cases hkn : k = n2
          · have hkc : k = cs.length := by rw [hkn]; exact HN.out.2.1
            have HEQ := Lib.hid (EQ.of hq)
            rw [hkc] at HEQ
            have HOW3 := Lib.hid (HOW2.out.later elemQ HBW.out (Nat.le_refl _))
            have HB3 := Lib.hid (HB2.out.trans (HBW.out.mono HB2.out.size))
            have c9 : ¬ ((k : Int) < (n2 : Int)) := by omega
            clear hk hbox hq hbel hkn hkc
            go_wp2_with (at_builtin; go_must (refine wpList_pushE elemQ (by omega) rfl _ _ 51 rfl 58 64 zeroQ Tryz.underlying51 info_q rfl zeroQ_ints (by omega) w.heap.size _ (HOW3.out.alloc elemQ _) HLK.out (by have := HB3.out.size; simp; omega) wr.heap.size [.bool m3, .slice a7 n7 c7, .bool false, .slice a8 n8 c8] _ rfl (elemQ.below HEQ.out ((Below.refl _ _).alloc (Nat.le_refl _) _) (Nat.le_refl _)) (cells_alloc _ #[.bool m3, .slice a7 n7 c7, .bool false, .slice a8 n8 c8] _ _ rfl) ?_))
            intro ao n9 c9 w9 hown9 hn9 hgr hb9
            have HOW9 : Hid (OwE 4 EQ 58 w9 w.heap.size (.slice ao n9 c9) (termsQ ss cs (n + 1))) := Lib.hid (by rw [HM2.out]; exact hown9)
            have HB9 : Hid (Below w.heap.size w w9) := Lib.hid ((HB3.out.alloc HB3.out.size _).trans hb9)
            clear hown9 hn9 hgr hb9
            go_wp2
            go_roundw
            case rel => exact ⟨n + 1, by first | rfl | go_num, HNL.out.1, HOW9.out, HB9.out⟩
            case measure => simp [intOf]; have := HNL.out; omega
          · have hkl : k < n2 := by have := HN.out.2.1; omega
            obtain ⟨q, hq9⟩ : ∃ q, cs[k]? = some q := ⟨_, List.getElem?_eq_getElem (by rw [← HN.out.2.1]; exact hkl)⟩
            obtain ⟨j, hj⟩ : ∃ j, j = n - 1 - k := ⟨_, rfl⟩
            have hjn : j < n ∧ k < n := by have := HNS.out; have := HN.out; omega
            obtain ⟨r, hr⟩ : ∃ r, ts[j]? = some r := ⟨_, List.getElem?_eq_getElem (by rw [HTL.out]; exact hjn.1)⟩
            have HNEW : Hid (partQ cs ts (k + 1) = partQ cs ts k + q * r) := Lib.hid (partQ_succ hq9 (by rw [HTL.out, ← hj]; exact hr))
            have HBQ := Lib.hid (HBD.out.2 k q hq9)
            have HBR := Lib.hid (HTBn.out j r hr)
            have HBP := Lib.hid (HPBn.out k hk)
            obtain ⟨b, off, cc, rfl, hb, hcell, hE⟩ := HCS2.out.at k q hq9
            obtain ⟨b2, off2, cc2, rfl, hb2, hcell2, hE2⟩ := (HOW2.out.sl).at j r hr
            obtain ⟨x1, y1, z1, x2, y2, z2, hcs, hi1⟩ := hE
            obtain ⟨x3, y3, z3, x4, y4, z4, hcs2, hi3⟩ := hE2
            obtain ⟨ng, hng⟩ : ∃ ng, ng = decide (q.num < 0) := ⟨_, rfl⟩
            obtain ⟨mg, hmg⟩ : ∃ mg, mg = decide (r.num < 0) := ⟨_, rfl⟩
            rw [← hng] at hcs hi1
            rw [← hmg] at hcs2 hi3
            have hd0 : wr.cell? ⟨b, off + k * 4, none⟩ = some (.bool ng) := by rw [hbel.cell (p := ⟨b, off + k * 4, none⟩) hb]; exact hcell 0 _ (by rw [hcs]; rfl)
            have hd1 : wr.cell? ⟨b, off + k * 4 + 1, none⟩ = some (.slice x1 y1 z1) := by rw [hbel.cell (p := ⟨b, off + k * 4 + 1, none⟩) hb]; exact hcell 1 _ (by rw [hcs]; rfl)
            have hd2 : wr.cell? ⟨b, off + k * 4 + 2, none⟩ = some (.bool false) := by rw [hbel.cell (p := ⟨b, off + k * 4 + 2, none⟩) hb]; exact hcell 2 _ (by rw [hcs]; rfl)
            have hd3 : wr.cell? ⟨b, off + k * 4 + 3, none⟩ = some (.slice x2 y2 z2) := by rw [hbel.cell (p := ⟨b, off + k * 4 + 3, none⟩) hb]; exact hcell 3 _ (by rw [hcs]; rfl)
            have hy0 : wr.cell? ⟨b2, off2 + j * 4, none⟩ = some (.bool mg) := by rw [hbel.cell (p := ⟨b2, off2 + j * 4, none⟩) hb2]; exact hcell2 0 _ (by rw [hcs2]; rfl)
            have hy1 : wr.cell? ⟨b2, off2 + j * 4 + 1, none⟩ = some (.slice x3 y3 z3) := by rw [hbel.cell (p := ⟨b2, off2 + j * 4 + 1, none⟩) hb2]; exact hcell2 1 _ (by rw [hcs2]; rfl)
            have hy2 : wr.cell? ⟨b2, off2 + j * 4 + 2, none⟩ = some (.bool false) := by rw [hbel.cell (p := ⟨b2, off2 + j * 4 + 2, none⟩) hb2]; exact hcell2 2 _ (by rw [hcs2]; rfl)
            have hy3 : wr.cell? ⟨b2, off2 + j * 4 + 3, none⟩ = some (.slice x4 y4 z4) := by rw [hbel.cell (p := ⟨b2, off2 + j * 4 + 3, none⟩) hb2]; exact hcell2 3 _ (by rw [hcs2]; rfl)
            have HX := Lib.hid (hi1.later hbel (Nat.le_refl _))
            have HY := Lib.hid (hi3.later hbel (Nat.le_refl _))
            have hw2 : IntKind.i64.wrap ((k : Int) + 1) = ((k + 1 : Nat) : Int) := by rw [IntWalk.i64_in _ (by omega)]; omega
            obtain ⟨nn, hnn⟩ : ∃ nn, nn = (n : Int) - 1 := ⟨_, rfl⟩
            have hw3 : IntKind.i64.wrap ((n : Int) - 1) = nn := by rw [IntWalk.i64_in _ (by have := HNL.out; omega)]; exact hnn.symm
            have hw4 : IntKind.i64.wrap (nn - (k : Int)) = (j : Int) := by rw [IntWalk.i64_in _ (by have := HNL.out; omega)]; omega
            have hk0 : (0 : Int) ≤ (k : Int) := by omega
            have hkn2 : (k : Int) < (n2 : Int) := by omega
            have hj0 : (0 : Int) ≤ (j : Int) := by omega
            have hj1 : (j : Int) < (n5 : Int) := by rw [HN5.out]; omega
            have HL1 := Lib.hid (HBP.out.len (B := 10000) (by omega))
            have HL2 := Lib.hid (HBQ.out.len (B := 10000) (by omega))
            have HL3 := Lib.hid (HBR.out.len (B := 10000) (by omega))
            have HL4 := Lib.hid ((HBQ.out.mul HBR.out).len (B := 10000) (by omega))
            have HKL := Lib.hid (show k + 1 ≤ cs.length ∧ k < n2 by have := HN.out.2.1; omega)
            clear hq9 hr hcell hcs hcell2 hcs2 hi1 hi3 hng hmg hbel hkn hkl hk hj hjn hnn hbox hq hb hb2
            go_wp2_with fail
            go_region_law (first
              | (have hguard := HB5; go_simp; go_at_call 96; refine addQ_any _ _ (partQ cs ts k) (q * r) _ (HQQ.out.later HB5.out (Nat.le_refl _)) HV5.out (Nat.le_trans HL1.out.1 (by omega)) (Nat.le_trans HL1.out.2 (by omega)) (Nat.le_trans HL4.out.1 (by omega)) (Nat.le_trans HL4.out.2 (by omega)) _ ?_; rw [← HNEW.out]; intro v6 w6 hv6 hb6; obtain ⟨m6, a10, n10, c10, a11, n11, c11, rfl, _, _⟩ := hv6.parts; have HV6 := Lib.hid hv6; have HB6 := Lib.hid (HB5.out.trans (hb6.mono HB5.out.size)); have k6 := HBOX.out.later HB6.out HGW.out; obtain ⟨⟨hT0, hT1, hT2, hT3⟩, hT4, hT5, hT6, hT7⟩ := k6.cells; have HK6 := Lib.hid k6; clear hguard hv6 hb6 k6; dsimp only)
              | (go_simp; go_at_call 98; refine mulQ_any _ _ q r _ (HX.out.later (Below.refl _ _).drew (Nat.le_refl _)) (HY.out.later (Below.refl _ _).drew (Nat.le_refl _)) (Nat.le_trans HL2.out.1 (by omega)) (Nat.le_trans HL2.out.2 (by omega)) (Nat.le_trans HL3.out.1 (by omega)) (Nat.le_trans HL3.out.2 (by omega)) _ ?_; intro v5 w5 hv5 hb5; obtain ⟨m5, a12, n12, c12, a13, n13, c13, rfl, _, _⟩ := hv5.parts; have HV5 := Lib.hid hv5; have HB5 : Hid (Below wr.heap.size wr w5) := Lib.hid (below_unDrew hb5); have k5 := HBOX.out.later HB5.out HGW.out; obtain ⟨⟨hS0, hS1, hS2, hS3⟩, _, _, _, _⟩ := k5.cells; clear hv5 hb5 k5; dsimp only))
            all_goals
              have HN6 := HK6.out.noInt rfl rfl rfl rfl
              have HREL : Hid (GoSum w2 ts cs (.int .i64 ((k + 1 : Nat) : Int)) ((((w6.setCell ⟨w2.heap.size, 0, none⟩ (.bool m6)).setCell ⟨w2.heap.size, 1, none⟩ (.slice a10 n10 c10)).setCell ⟨w2.heap.size, 2, none⟩ (.bool false)).setCell ⟨w2.heap.size, 3, none⟩ (.slice a11 n11 c11))) := Lib.hid
                ⟨k + 1, m6, a10, n10, c10, false, a11, n11, c11, rfl, HKL.out.1, HK6.out.set4 _ _ _ _, HV6.out.set4 HN6 _ _ _ _ rfl rfl rfl,
                  ((((HBW.out.trans (HB6.out.mono (Nat.le_of_lt HGW.out))).setCell (Nat.le_refl _) _).setCell (Nat.le_refl _) _).setCell (Nat.le_refl _) _).setCell (Nat.le_refl _) _⟩
              clear HN6
              go_wp2
              go_roundw
              case rel => exact HREL.out
              case measure => simp [intOf]; have := HKL.out; omega
end Go.Proofs.YtegdcmcfeaohhaaGreatDoor

namespace Go.Proofs.YtegdcmcfeaohhaaGreatDoor
open Go Go.RowKit

/-- whether two lists of texts are those of a recurrence -/
noncomputable def recB (L1 L2 : List ByteArray) : Bool := decide (L1.length = L2.length) && (decide (L1.length ≤ 8) && (L1.all isNum && L2.all isNum))

/-- a value of the program's type of recurrences -/
def IsRec (w : World) (v : Value) (L1 L2 : List ByteArray) : Prop := ∃ s1 s2, v = .agg #[s1, s2] ∧ TxL w s1 L1 ∧ TxL w s2 L2

theorem IsRec.later {w w' : World} {v : Value} {L1 L2 : List ByteArray} {B : Nat} (h : IsRec w v L1 L2) (hb : Below B w w') (hB : w.heap.size ≤ B) : IsRec w' v L1 L2 := by
  obtain ⟨s1, s2, e, h1, h2⟩ := h; exact ⟨s1, s2, e, h1.later hb hB, h2.later hb hB⟩
theorem IsRec.parts {w : World} {v : Value} {L1 L2 : List ByteArray} (h : IsRec w v L1 L2) : ∃ a1 n1 c1 a2 n2 c2, v = .agg #[.slice a1 n1 c1, .slice a2 n2 c2] ∧ n1 = L1.length ∧ n2 = L2.length ∧ TxL w (.slice a1 n1 c1) L1 ∧ TxL w (.slice a2 n2 c2) L2 := by
  obtain ⟨s1, s2, rfl, h1, h2⟩ := h
  obtain ⟨a1, n1, c1, rfl, e1, _, h1'⟩ := h1.open
  obtain ⟨a2, n2, c2, rfl, e2, _, h2'⟩ := h2.open
  exact ⟨a1, n1, c1, a2, n2, c2, rfl, e1, e2, h1', h2'⟩

set_option maxRecDepth 100000 in
set_option maxHeartbeats 8000000 in
theorem l03is_any (b n1 n2 c1 c2 : Nat) (a1 a2 : Option Addr) (L1 L2 : List ByteArray) (w : World) (hbx : Box2 w b (.slice a1 n1 c1) (.slice a2 n2 c2) 36) (e1 : n1 = L1.length) (e2 : n2 = L2.length)
    (h1 : TxL w (.slice a1 n1 c1) L1) (h2 : TxL w (.slice a2 n2 c2) L2) (hn1 : L1.length ≤ 1048576) (hs1 : ∀ s ∈ L1, s.size ≤ 1048576) (hn2 : L2.length ≤ 1048576) (hs2 : ∀ s ∈ L2, s.size ≤ 1048576) (R : Ending → World → Prop)
    (hR : ∀ w', Below w.heap.size w w' → R (.returned (.bool (recB L1 L2))) w') :
    Calls Tryz.prog 73 #[.pointer (some ⟨b, 0, none⟩)] w R := by
  have HR := Lib.hid hR; clear hR
  have HSOF : Hid (∀ w', Below w.heap.size w w' → (Below w.heap.size w w' ∧ w'.cell? ⟨b, 0, none⟩ = some (.slice a1 n1 c1) ∧ w'.cell? ⟨b, 1, none⟩ = some (.slice a2 n2 c2))) :=
    Lib.hid fun w' hb => ⟨hb, (hbx.later hb (lt_of_block hbx)).cells.1, (hbx.later hb (lt_of_block hbx)).cells.2.1⟩
  have H1 := Lib.hid h1
  have H2 := Lib.hid h2
  have HB1 := Lib.hid (And.intro hn1 hs1)
  have HB2 := Lib.hid (And.intro hn2 hs2)
  have E1 := Lib.hid e1
  have E2 := Lib.hid e2
  clear hbx e1 e2 h1 h2 hn1 hs1 hn2 hs2
  by_cases hne : n1 = n2
  · have e0 : ((n1 : Int) == (n2 : Int)) = true := by simp [hne]
    by_cases h8 : n1 ≤ 8
    · have e8 : ((n1 : Int) ≤ 8) := by omega
      have hrec : recB L1 L2 = (L1.all isNum && L2.all isNum) := by unfold recB; rw [← E1.out, ← E2.out, decide_eq_true hne, decide_eq_true h8]; rfl
      rw [hrec] at HR
      clear hne h8 hrec
      cases hall : L1.all isNum with
      | false =>
        rw [hall, Bool.false_and] at HR
        have HALL := Lib.hid hall
        clear hall
        obtain ⟨_, hT0, hT1⟩ := HSOF.out w (Below.refl _ _)
        go_enter Tryz.func73, Tryz.ntmps73
        go_wp2_with fail
        first
          | (go_region_law (first
          | (go_simp; go_at_call 114; refine all_any _ L1 _ (H1.out.later (Below.refl _ _).drew (Nat.le_refl _)) HB1.out.1 HB1.out.2 _ ?_; intro w1 hb1; rw [HALL.out]; obtain ⟨HQ1, hU0, hU1⟩ := HSOF.out w1 ⟨hb1.os, hb1.tape, hb1.output, hb1.size, hb1.block⟩; clear hb1; dsimp only)))
          | fail
        all_goals
          go_wp2
          first | go_ret | skip
          exact HR.out _ HQ1
      | true =>
        rw [hall, Bool.true_and] at HR
        have HALL := Lib.hid hall
        clear hall
        obtain ⟨x, hx⟩ : ∃ x, x = L2.all isNum := ⟨_, rfl⟩
        rw [← hx] at HR
        have HX := Lib.hid hx
        clear hx
        go_enter Tryz.func73, Tryz.ntmps73
        go_wp2_with fail
        first
          | (go_region_held3 (fun w' => Below w.heap.size w w' ∧ w'.cell? ⟨b, 0, none⟩ = some (.slice a1 n1 c1) ∧ w'.cell? ⟨b, 1, none⟩ = some (.slice a2 n2 c2))
              (first
                | exact HSOF.out _ HQ2.out
                | exact HSOF.out _ HQ1.out
                | exact HSOF.out _ (Below.refl _ _).drew)
              (first
                | (have hguard := HQ1; go_at_call 114; refine all_any _ L2 _ (H2.out.later HQ1.out (Nat.le_refl _)) HB2.out.1 HB2.out.2 _ ?_; intro w2 hb2; rw [← HX.out]; have HQ2 : Hid (Below w.heap.size w w2) := Lib.hid (HQ1.out.trans (hb2.mono HQ1.out.size)); clear hb2 hguard; dsimp only)
                | (go_at_call 114; refine all_any _ L1 _ (H1.out.later (Below.refl _ _).drew (Nat.le_refl _)) HB1.out.1 HB1.out.2 _ ?_; intro w1 hb1; rw [HALL.out]; have HQ1 : Hid (Below w.heap.size w w1) := Lib.hid ⟨hb1.os, hb1.tape, hb1.output, hb1.size, hb1.block⟩; clear hb1; dsimp only)))
          | fail
        all_goals
          go_wp2
          first | go_ret | skip
          exact HR.out _ HQ2.out
    · have e8 : decide ((n1 : Int) ≤ 8) = false := decide_eq_false (by omega)
      have hrec : recB L1 L2 = false := by unfold recB; rw [← E1.out, decide_eq_false h8]; simp
      rw [hrec] at HR
      clear hne h8 hrec
      obtain ⟨_, hT0, hT1⟩ := HSOF.out w (Below.refl _ _)
      go_enter Tryz.func73, Tryz.ntmps73
      go_wp2_with fail
      go_quiet (fail)
      all_goals
        go_wp2
        first | go_ret | skip
        exact HR.out _ (below_draws (Below.refl _ _) _)
  · have e0 : ((n1 : Int) == (n2 : Int)) = false := by simp; omega
    have hrec : recB L1 L2 = false := by unfold recB; rw [← E1.out, ← E2.out, decide_eq_false hne]; rfl
    rw [hrec] at HR
    clear hne hrec
    obtain ⟨_, hT0, hT1⟩ := HSOF.out w (Below.refl _ _)
    go_enter Tryz.func73, Tryz.ntmps73
    go_wp2_with fail
    go_quiet (fail)
    all_goals
      go_wp2
      first | go_ret | skip
      exact HR.out _ (below_draws (Below.refl _ _) _)
end Go.Proofs.YtegdcmcfeaohhaaGreatDoor

namespace Go.Proofs.YtegdcmcfeaohhaaGreatDoor
open Go Go.RowKit

set_option maxRecDepth 100000 in
theorem in_any (n low high : Int) (w : World) (R : Ending → World → Prop) (hR : R (.returned (.bool (decide (low ≤ n ∧ n ≤ high)))) w) :
    Calls Tryz.prog 80 #[.int .i64 n, .int .i64 low, .int .i64 high] w R := by
  have HR := Lib.hid hR; clear hR
  by_cases h1 : low ≤ n
  · by_cases h2 : n ≤ high
    · rw [decide_eq_true ⟨h1, h2⟩] at HR
      go_enter Tryz.func80, Tryz.ntmps80
      go_wp2
      first | go_ret | skip
      exact HR.out
    · rw [decide_eq_false (fun h => h2 h.2)] at HR
      go_enter Tryz.func80, Tryz.ntmps80
      go_wp2
      first | go_ret | skip
      exact HR.out
  · rw [decide_eq_false (fun h => h1 h.1)] at HR
    go_enter Tryz.func80, Tryz.ntmps80
    go_wp2
    first | go_ret | skip
    exact HR.out

end Go.Proofs.YtegdcmcfeaohhaaGreatDoor

namespace Go.Proofs.YtegdcmcfeaohhaaGreatDoor
open Go Go.RowKit

theorem recB_four {L1 L2 : List ByteArray} (h : recB L1 L2 = true) : L1.length = L2.length ∧ L2.length ≤ 8 ∧ L1.all isNum = true ∧ L2.all isNum = true := by
  unfold recB at h
  rw [Bool.and_eq_true, Bool.and_eq_true, Bool.and_eq_true] at h
  have k1 := of_decide_eq_true h.1
  have k2 := of_decide_eq_true h.2.1
  exact ⟨k1, by omega, h.2.2⟩

/-- whether so many terms are answered -/
noncomputable def termB (L1 L2 : List ByteArray) (n : Int) : Bool := recB L1 L2 && (decide (0 ≤ n ∧ n ≤ 40) && fitsQ (termsQ (L1.map qOf) (L2.map qOf) n.toNat))
/-- them -/
noncomputable def termL (L1 L2 : List ByteArray) (n : Int) : List ByteArray := if termB L1 L2 n = true then textsQ (termsQ (L1.map qOf) (L2.map qOf) n.toNat) else []
theorem termL_true {L1 L2 : List ByteArray} {n : Int} (h : termB L1 L2 n = true) : termL L1 L2 n = textsQ (termsQ (L1.map qOf) (L2.map qOf) n.toNat) := by unfold termL; rw [if_pos h]
theorem termL_false {L1 L2 : List ByteArray} {n : Int} (h : termB L1 L2 n = false) : termL L1 L2 n = [] := by unfold termL; rw [if_neg (by rw [h]; decide)]

set_option maxRecDepth 100000 in
set_option maxHeartbeats 8000000 in
theorem l03terms_any (b n1 n2 c1 c2 : Nat) (a1 a2 : Option Addr) (L1 L2 : List ByteArray) (c : Nat) (w : World) (hbx : Box2 w b (.slice a1 n1 c1) (.slice a2 n2 c2) 36)
    (h1 : TxL w (.slice a1 n1 c1) L1) (h2 : TxL w (.slice a2 n2 c2) L2) (hrec : recB L1 L2 = true) (hc : c ≤ 40) (R : Ending → World → Prop)
    (hR : ∀ v' w', OwE 4 EQ 58 w' w.heap.size v' (termsQ (L1.map qOf) (L2.map qOf) c) → Below w.heap.size w w' → R (.returned v') w') :
    Calls Tryz.prog 82 #[.pointer (some ⟨b, 0, none⟩), .int .i64 (c : Int)] w R := by
  have HR := Lib.hid hR; clear hR
  have HSOF : Hid (∀ w', Below w.heap.size w w' → (Below w.heap.size w w' ∧ w'.cell? ⟨b, 0, none⟩ = some (.slice a1 n1 c1) ∧ w'.cell? ⟨b, 1, none⟩ = some (.slice a2 n2 c2))) :=
    Lib.hid fun w' hb => ⟨hb, (hbx.later hb (lt_of_block hbx)).cells.1, (hbx.later hb (lt_of_block hbx)).cells.2.1⟩
  have H1 := Lib.hid h1
  have H2 := Lib.hid h2
  have HREC := Lib.hid (recB_four hrec)
  have HC := Lib.hid hc
  clear hbx h1 h2 hrec hc
  obtain ⟨_, hT0, hT1⟩ := HSOF.out w (Below.refl _ _)
  go_enter Tryz.func82, Tryz.ntmps82
  go_wp2_with fail
  first
    | (go_region_held3 (fun w' => Below w.heap.size w w' ∧ w'.cell? ⟨b, 0, none⟩ = some (.slice a1 n1 c1) ∧ w'.cell? ⟨b, 1, none⟩ = some (.slice a2 n2 c2))
        (first
          | exact HSOF.out _ HQ3.out
          | exact HSOF.out _ HQ2.out
          | exact HSOF.out _ HQ1.out
          | exact HSOF.out _ (Below.refl _ _).drew)
        (first
          | (have hguard := HQ2; go_at_call 123; refine l3go_any _ _ (L1.map qOf) (L2.map qOf) c _ (SlE.later elemQ HV1.out HQ12.out (Nat.le_refl _)) HV2.out (by rw [List.length_map, List.length_map]; exact HREC.out.1) (by rw [List.length_map]; exact HREC.out.2.1) (allBd_of HREC.out.2.2.1) (allBd_of HREC.out.2.2.2) HC.out _ ?_; intro v3 w3 hv3 hb3; obtain ⟨a3, n3, k3, rfl, e3⟩ := hv3.shape; have HV3 := Lib.hid (hv3.mono HQ2.out.size); have HQ3 : Hid (Below w.heap.size w w3) := Lib.hid (HQ2.out.trans (hb3.mono HQ2.out.size)); clear hb3 hv3 e3 hguard; dsimp only)
          | (have hguard := HQ1; go_at_call 51; refine oflist_any _ L2 _ (H2.out.later HQ1.out (Nat.le_refl _)) HREC.out.2.2.2 (by have := HREC.out.2.1; omega) _ ?_; intro v2 w2 hv2 hb2; obtain ⟨a4, n4, k4, rfl, e4⟩ := hv2.shape; have HV2 := Lib.hid hv2.sl; have HQ12 := Lib.hid hb2; have HQ2 : Hid (Below w.heap.size w w2) := Lib.hid (HQ1.out.trans (hb2.mono HQ1.out.size)); clear hb2 hv2 e4 hguard; dsimp only)
          | (go_at_call 51; refine oflist_any _ L1 _ (H1.out.later (Below.refl _ _).drew (Nat.le_refl _)) HREC.out.2.2.1 (by have := HREC.out; omega) _ ?_; intro v1 w1 hv1 hb1; obtain ⟨a5, n5, k5, rfl, e5⟩ := hv1.shape; have HV1 := Lib.hid hv1.sl; have HQ1 : Hid (Below w.heap.size w w1) := Lib.hid ⟨hb1.os, hb1.tape, hb1.output, hb1.size, hb1.block⟩; clear hb1 hv1 e5; dsimp only)))
    | fail
  all_goals
    go_wp2
    first | go_ret | skip
    exact HR.out _ _ HV3.out HQ3.out

set_option maxRecDepth 100000 in
set_option maxHeartbeats 8000000 in
theorem spec_term (v : Value) (L1 L2 : List ByteArray) (n : Int) (w : World) (h : IsRec w v L1 L2) (hn1 : L1.length ≤ 1048576) (hs1 : ∀ s ∈ L1, s.size ≤ 1048576) (hn2 : L2.length ≤ 1048576) (hs2 : ∀ s ∈ L2, s.size ≤ 1048576) (hi0 : -9223372036854775807 - 1 ≤ n) (hi1 : n ≤ 9223372036854775807) (R : Ending → World → Prop)
    (hR : ∀ v' w', OwE 1 ET 9 w' w.heap.size v' (termL L1 L2 n) → Below w.heap.size w w' → R (.returned (.tuple #[v', .bool (termB L1 L2 n)])) w') :
    Calls Tryz.prog 39 #[v, .int .i64 n] w R := by
  have HR := Lib.hid hR; clear hR
  obtain ⟨a1, n1, c1, a2, n2, c2, rfl, e1, e2, h1, h2⟩ := h.parts
  obtain ⟨L, hL⟩ : ∃ L, L = w.alloc (.cells #[.slice a1 n1 c1, .slice a2 n2 c2] 36) := ⟨_, rfl⟩
  have HBL : Hid (Below w.heap.size w L) := Lib.hid (by rw [hL]; exact (Below.refl _ _).alloc (Nat.le_refl _) _)
  have HBX : Hid (Box2 L w.heap.size (.slice a1 n1 c1) (.slice a2 n2 c2) 36) := Lib.hid (by rw [hL]; exact Box2.made _ _ _ _)
  have HL := Lib.hid hL
  have H1 := Lib.hid (h1.later HBL.out (Nat.le_refl _))
  have H2 := Lib.hid (h2.later HBL.out (Nat.le_refl _))
  have HH := Lib.hid (And.intro hn1 (And.intro hs1 (And.intro hn2 hs2)))
  have HE := Lib.hid (And.intro e1 e2)
  have HI := Lib.hid (And.intro hi0 hi1)
  have HFAIL : Hid (∀ w', termB L1 L2 n = false → Below w.heap.size w w' → R (.returned (.tuple #[.slice none 0 0, .bool false])) w') := Lib.hid (fun w' hf hb => by
    have := HR.out (.slice none 0 0) w' (by rw [termL_false hf]; exact OwE.nil _ _ _) hb
    rw [hf] at this; exact this)
  clear h e1 e2 h1 h2 hn1 hs1 hn2 hs2 hL hi0 hi1
  go_enter Tryz.func39, Tryz.ntmps39
  go_wp2_with fail
  rw [← HL.out]
  refine l03is_any _ n1 n2 c1 c2 a1 a2 L1 L2 L HBX.out HE.out.1 HE.out.2 H1.out H2.out HH.out.1 HH.out.2.1 HH.out.2.2.1 HH.out.2.2.2 _ ?_
  intro w1 hb1
  have HB1 := Lib.hid (HBL.out.trans (hb1.mono HBL.out.size))
  have HX1 := Lib.hid (HBX.out.later hb1 (lt_of_block HBX.out))
  have H11 := Lib.hid (TxL.later H1.out hb1 (Nat.le_refl _))
  have H21 := Lib.hid (TxL.later H2.out hb1 (Nat.le_refl _))
  clear hb1
  cases hrec : recB L1 L2 with
  | false =>
    have HF := Lib.hid (HFAIL.out w1 (by unfold termB; rw [hrec]; rfl) HB1.out)
    clear hrec
    dsimp only
    go_wp2
    first | go_ret | skip
    exact HF.out
  | true =>
  have HREC := Lib.hid hrec
  clear hrec
  dsimp only
  go_wp2_with fail
  refine in_any n 0 40 w1 _ ?_
  by_cases hin : 0 ≤ n ∧ n ≤ 40
  · rw [decide_eq_true hin]
    have HTB : Hid (termB L1 L2 n = fitsQ (termsQ (L1.map qOf) (L2.map qOf) n.toNat)) := Lib.hid (by unfold termB; rw [HREC.out, decide_eq_true hin]; rfl)
    obtain ⟨c, rfl⟩ : ∃ c : Nat, n = (c : Int) := ⟨n.toNat, by omega⟩
    have HC : Hid (c ≤ 40) := Lib.hid (by omega)
    rw [Int.toNat_natCast] at HTB
    clear hin
    dsimp only
    go_wp2_with fail
    refine l03terms_any _ n1 n2 c1 c2 a1 a2 L1 L2 c w1 HX1.out H11.out H21.out HREC.out HC.out _ ?_
    intro v2 w2 hv2 hb2
    obtain ⟨a3, n3, c3, rfl, e3⟩ := hv2.shape
    have HV2 := Lib.hid hv2
    have HB2 := Lib.hid (HB1.out.trans (hb2.mono HB1.out.size))
    have HK := Lib.hid (recB_four HREC.out)
    have HD : Hid (DigsQ (termsQ (L1.map qOf) (L2.map qOf) c)) := Lib.hid (DigsQ.of (terms_bd (by rw [List.length_map, List.length_map]; exact HK.out.1) (by rw [List.length_map]; exact HK.out.2.1) (allBd_of HK.out.2.2.1) (allBd_of HK.out.2.2.2) HC.out) (by omega))
    clear hv2 hb2 e3
    dsimp only
    go_wp2_with fail
    refine textList_any _ _ _ HV2.out.sl HD.out (by rw [termsQ_len]; have := HC.out; omega) _ ?_ ?_
    · intro v3 w3 hf hv3 hb3
      obtain ⟨a4, n4, c4, rfl, e4⟩ := hv3.shape
      have HF := Lib.hid (HR.out (.slice a4 n4 c4) w3 (by rw [termL_true (by rw [HTB.out, hf]), Int.toNat_natCast]; exact hv3.mono HB2.out.size) (HB2.out.trans (hb3.mono HB2.out.size)))
      rw [HTB.out, hf] at HF
      clear hf hv3 hb3 e4
      dsimp only
      go_wp2
      first | go_ret | skip
      exact HF.out
    · intro w3 hf hb3
      have HF := Lib.hid (HFAIL.out w3 (by rw [HTB.out, hf]) (HB2.out.trans (hb3.mono HB2.out.size)))
      clear hf hb3
      dsimp only
      go_wp2
      first | go_ret | skip
      exact HF.out
  · rw [decide_eq_false hin]
    have HF := Lib.hid (HFAIL.out w1 (by unfold termB; rw [decide_eq_false hin, Bool.false_and, Bool.and_false]) HB1.out)
    clear hin
    dsimp only
    go_wp2
    first | go_ret | skip
    exact HF.out
end Go.Proofs.YtegdcmcfeaohhaaGreatDoor

namespace Go.Proofs.YtegdcmcfeaohhaaGreatDoor
open Go Go.RowKit

/-- the zero value of the program's type of sequences -/
def zeroS : Value := .agg #[.slice none 0 0, .slice none 0 0]

set_option maxRecDepth 100000 in
set_option maxHeartbeats 4000000 in
theorem readseq_any (v : Value) (L1 L2 : List ByteArray) (w : World) (hE : Env w) (h : IsRec w v L1 L2) (hn1 : L1.length ≤ 1048576) (hn2 : L2.length ≤ 1048576) (R : Ending → World → Prop)
    (hR : ∀ v1 v2 w', recB L1 L2 = true → RsL w' v1 (L1.map qOf) → RsL w' v2 (L2.map qOf) → Below w.heap.size w w' → R (.returned (.tuple #[.agg #[v1, v2], .nilIface])) w')
    (hR2 : ∀ e w', recB L1 L2 = false → ErrV e → Below w.heap.size w w' → R (.returned (.tuple #[zeroS, e])) w') :
    Calls Tryz.prog 77 #[v] w R := by
  have HR := Lib.hid hR; clear hR
  have HR2 := Lib.hid hR2; clear hR2
  obtain ⟨a1, n1, c1, a2, n2, c2, rfl, e1, e2, h1, h2⟩ := h.parts
  obtain ⟨L, hL⟩ : ∃ L, L = (w.alloc (.cells #[.slice a1 n1 c1, .slice a2 n2 c2] 36)).alloc (.cells #[.slice none 0 0, .slice none 0 0] 97) := ⟨_, rfl⟩
  have hb1 : Below (w.heap.size + 1) (w.alloc (.cells #[.slice a1 n1 c1, .slice a2 n2 c2] 36)) L := by rw [hL]; exact (Below.refl _ _).alloc (by simp) _
  have B0 : Hid (Box2 L w.heap.size (.slice a1 n1 c1) (.slice a2 n2 c2) 36) := Lib.hid ((Box2.made w _ _ _).later hb1 (by omega))
  have B1 : Hid (Box2 L (w.heap.size + 1) (.slice none 0 0) (.slice none 0 0) 97) := Lib.hid (by
    have := Box2.made (w.alloc (.cells #[.slice a1 n1 c1, .slice a2 n2 c2] 36)) (.slice none 0 0) (.slice none 0 0) 97
    rw [World.size_alloc, ← hL] at this; exact this)
  have HEXT : Hid (Below w.heap.size w L) := Lib.hid (by rw [hL]; exact ((Below.refl w.heap.size w).alloc (Nat.le_refl _) _).alloc (by simp) _)
  have HLS : Hid (L.heap.size = w.heap.size + 2) := Lib.hid (by rw [hL]; simp)
  have HL := Lib.hid hL
  have H1 := Lib.hid (h1.later HEXT.out (Nat.le_refl _))
  have H2 := Lib.hid (h2.later HEXT.out (Nat.le_refl _))
  have HN := Lib.hid (And.intro hn1 hn2)
  have E1 := Lib.hid e1
  have E2 := Lib.hid e2
  have HE := Lib.hid hE
  have HEL := Lib.hid (hE.later HEXT.out (Nat.le_refl _))
  obtain ⟨hA0, hA1, _, _⟩ := B0.out.cells
  obtain ⟨hR0, hR1, hF0, hF1⟩ := B1.out.cells
  clear h e1 e2 h1 h2 hn1 hn2 hL hb1 hE
  by_cases hok : n1 = n2 ∧ n1 ≤ 8
  · have e0 : ((n1 : Int) != (n2 : Int)) = false := by simp [hok.1]
    have e8 : ¬ ((8 : Int) < (n1 : Int)) := by omega
    have HOK := Lib.hid (show decide (L1.length = L2.length) = true ∧ decide (L1.length ≤ 8) = true by rw [← E1.out, ← E2.out]; exact ⟨decide_eq_true hok.1, decide_eq_true hok.2⟩)
    have H8 := Lib.hid hok.2
    clear hok
    go_enter Tryz.func77, Tryz.ntmps77
    rw [HL.out] at hA0 hA1
    go_wp2_with fail
    rw [← HL.out]
    refine readrs_own _ L1 L HEL.out H1.out HN.out.1 _ ?_ ?_
    · intro v1 w1 _ hall1 ho1 hb1
      have HB1 := Lib.hid hb1
      have HALL1 := Lib.hid hall1
      have HO1 := Lib.hid ho1
      obtain ⟨a3, n3, c3, rfl, hn3⟩ := ho1.shape
      have B0' := Lib.hid (B0.out.later hb1 (lt_of_block B0.out))
      clear hb1 hall1 ho1 hn3 hA0 hA1
      obtain ⟨hA0, hA1, _, _⟩ := B0'.out.cells
      dsimp only
      go_wp2_with fail
      refine readrs_own _ L2 w1 (HEL.out.later HB1.out (Nat.le_refl _)) (H2.out.later HB1.out (Nat.le_refl _)) HN.out.2 _ ?_ ?_
      · intro v2 w2 _ hall2 ho2 hb2
        have HB2 := Lib.hid (HB1.out.trans (hb2.mono HB1.out.size))
        have B1' := Lib.hid (B1.out.later HB2.out (lt_of_block B1.out))
        have HO1' := Lib.hid (HO1.out.later elemR hb2 (Nat.le_refl _))
        have HO2 := Lib.hid ho2
        obtain ⟨a4, n4, c4, rfl, hn4⟩ := ho2.shape
        have HREC : Hid (recB L1 L2 = true) := Lib.hid (by unfold recB; rw [HOK.out.1, HOK.out.2, HALL1.out, hall2]; rfl)
        have hlt1 : w.heap.size + 1 < L.heap.size := by have := HLS.out; omega
        have hlt2 : w.heap.size + 1 < w1.heap.size := by have := HLS.out; have := HB1.out.size; omega
        have HLT := Lib.hid (And.intro hlt1 hlt2)
        clear hb2 hall2 ho2 hn4 hA0 hA1 hR0 hR1 hF0 hF1 hlt1 hlt2
        obtain ⟨hR0, hR1, hF0, hF1⟩ := B1'.out.cells
        dsimp only
        go_wp2
        refine bodyPost_ret_at (by simp [results, Tryz.results77, go_sem, hR0, hR1, hF0, hF1] <;> rfl) rfl ?_
        have n0 := B1'.out.noInt rfl rfl
        refine HR.out _ _ _ HREC.out (OwE.sl (OwE.setOld elemR (OwE.setOld elemR HO1'.out HLT.out.1 n0 _ _) HLT.out.1 (n0.set _ _ rfl) _ _)) (OwE.sl (OwE.setOld elemR (OwE.setOld elemR HO2.out HLT.out.2 n0 _ _) HLT.out.2 (n0.set _ _ rfl) _ _)) (below_set2 (HEXT.out.trans (HB2.out.mono HEXT.out.size)) (by omega) _ _)
      · intro e w2 hf he hb2
        obtain ⟨t', p, rfl⟩ := he
        have HB2 := Lib.hid (HB1.out.trans (hb2.mono HB1.out.size))
        have B1' := Lib.hid (B1.out.later HB2.out (lt_of_block B1.out))
        have HREC : Hid (recB L1 L2 = false) := Lib.hid (by
          have h60 : decide (L2.length ≤ 60) = true := decide_eq_true (by have := of_decide_eq_true HOK.out.1; have := of_decide_eq_true HOK.out.2; omega)
          rw [h60, Bool.true_and] at hf
          unfold recB; rw [HOK.out.1, HOK.out.2, HALL1.out, hf]; rfl)
        clear hb2 hf hA0 hA1 hR0 hR1 hF0 hF1
        obtain ⟨hR0, hR1, hF0, hF1⟩ := B1'.out.cells
        dsimp only
        go_wp2
        refine bodyPost_ret_at (by simp [results, Tryz.results77, go_sem, hR0, hR1, hF0, hF1] <;> rfl) rfl ?_
        exact HR2.out _ _ HREC.out ⟨_, _, rfl⟩ (below_set2 (HEXT.out.trans (HB2.out.mono HEXT.out.size)) (by omega) _ _)
    · intro e w1 hf he hb1
      obtain ⟨t', p, rfl⟩ := he
      have HB1 := Lib.hid hb1
      have B1' := Lib.hid (B1.out.later hb1 (lt_of_block B1.out))
      have HREC : Hid (recB L1 L2 = false) := Lib.hid (by
        have h60 : decide (L1.length ≤ 60) = true := decide_eq_true (by have := of_decide_eq_true HOK.out.2; omega)
        rw [h60, Bool.true_and] at hf
        unfold recB; rw [HOK.out.1, HOK.out.2, hf]; rfl)
      clear hb1 hf hA0 hA1 hR0 hR1 hF0 hF1
      obtain ⟨hR0, hR1, hF0, hF1⟩ := B1'.out.cells
      dsimp only
      go_wp2
      refine bodyPost_ret_at (by simp [results, Tryz.results77, go_sem, hR0, hR1, hF0, hF1] <;> rfl) rfl ?_
      exact HR2.out _ _ HREC.out ⟨_, _, rfl⟩ (below_set2 (HEXT.out.trans (HB1.out.mono HEXT.out.size)) (by omega) _ _)
  · have HREC : Hid (recB L1 L2 = false) := Lib.hid (by
      unfold recB; rw [← E1.out, ← E2.out]
      by_cases hA : n1 = n2
      · rw [decide_eq_false (show ¬ n1 ≤ 8 from fun h => hok ⟨hA, h⟩)]; simp
      · rw [decide_eq_false hA]; rfl)
    obtain ⟨_, ⟨pf, hpf⟩, _⟩ := HEL.out
    have hne1 : ¬ 0 = w.heap.size + 1 := by
      obtain ⟨_, ⟨pf2, hpf2⟩, _⟩ := HE.out
      have := lt_of_cell hpf2
      omega
    have hne2 : ¬ w.heap.size + 1 = 0 := fun h => hne1 h.symm
    by_cases h8 : n1 ≤ 8
    · have e8 : ¬ ((8 : Int) < (n1 : Int)) := by omega
      have e0 : ((n1 : Int) != (n2 : Int)) = true := by simp; omega
      clear hok h8
      go_enter Tryz.func77, Tryz.ntmps77
      rw [HL.out] at hA0 hA1
      go_wp2
      rw [← HL.out]
      go_region
      all_goals
        go_wp2
        refine bodyPost_ret_at (by simp [results, Tryz.results77, go_sem, hR0, hR1, hF0, hF1] <;> rfl) rfl ?_
        first | exact HR2.out _ _ HREC.out ⟨_, _, rfl⟩ (below_set2 HEXT.out (by omega) _ _).drew | exact HR2.out _ _ HREC.out ⟨_, _, rfl⟩ (below_set2 HEXT.out (by omega) _ _)
    · have e8 : ((8 : Int) < (n1 : Int)) := by omega
      clear hok h8
      go_enter Tryz.func77, Tryz.ntmps77
      rw [HL.out] at hA0 hA1
      go_wp2
      rw [← HL.out]
      go_region
      all_goals
        go_wp2
        refine bodyPost_ret_at (by simp [results, Tryz.results77, go_sem, hR0, hR1, hF0, hF1] <;> rfl) rfl ?_
        first | exact HR2.out _ _ HREC.out ⟨_, _, rfl⟩ (below_set2 HEXT.out (by omega) _ _).drew | exact HR2.out _ _ HREC.out ⟨_, _, rfl⟩ (below_set2 HEXT.out (by omega) _ _)
end Go.Proofs.YtegdcmcfeaohhaaGreatDoor
