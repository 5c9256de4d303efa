/- Contracts of functions of the program and of the model: SS, SSM, Spread, VArr, TblI, TxO, HkI, In, HkS, LawHk. -/
import Derived.Test.YtpblpdcdhgjecaaGreatDoorPm17
import Derived.Deep.RegionLaw
import Derived.Test.YtpblpdcdhgjecaaGreatDoorProg
set_option linter.all false
set_option linter.unusedVariables false
set_option linter.unusedSimpArgs false
set_option linter.unnecessarySimpa false
set_option linter.deprecated false
namespace Go.Proofs.YtpblpdcdhgjecaaGreatDoor
open Go Go.RowKit

/-- a slice value as an element -/
def EV (_ : World) (cs : List Value) (x : Value) : Prop := ∃ a n c, x = .slice a n c ∧ cs = [.slice a n c]
theorem elemV : Elem 1 EV where
  len := by rintro w cs x ⟨a, n, c, _, rfl⟩; rfl
  ints := by rintro w cs x ⟨a, n, c, _, rfl⟩ u hu; simp at hu; subst hu; rfl
  one := by rintro w cs x ⟨a, n, c, _, rfl⟩ u hu; simp at hu; subst hu; rfl
  keep := by intro w w' g cs x h _ _; exact h
theorem SlE.atV {w : World} {ao : Option Addr} {n cap : Nat} {vs : List Value} (h : SlE 1 EV w (.slice ao n cap) vs) (i : Nat) (x : Value) (hi : vs[i]? = some x) :
    ∃ b off a m c, ao = some ⟨b, off, none⟩ ∧ b < w.heap.size ∧ x = .slice a m c ∧ w.cell? ⟨b, off + i, none⟩ = some (.slice a m c) := by
  obtain ⟨b, off, cs, h1, h2, h3, a, m, c, rfl, rfl⟩ := SlE.at h i x hi
  refine ⟨b, off, a, m, c, h1, h2, rfl, ?_⟩
  have := h3 0 _ rfl
  rwa [Nat.mul_one, Nat.add_zero] at this

/-- a value reads as a list of lists of texts -/
def RdSS (w : World) (v : Value) (LL : List (List ByteArray)) : Prop :=
  ∃ vs : List Value, SlE 1 EV w v vs ∧ vs.length = LL.length ∧ ∀ (i : Nat) (x : Value) (L : List ByteArray), vs[i]? = some x → LL[i]? = some L → TxL w x L
theorem RdSS.later {w w' : World} {v : Value} {LL : List (List ByteArray)} (h : RdSS w v LL) (hb : Below w.heap.size w w') : RdSS w' v LL := by
  obtain ⟨vs, h1, h2, h3⟩ := h
  exact ⟨vs, h1.later elemV hb (Nat.le_refl _), h2, fun i x L hx hL => (h3 i x L hx hL).later hb (Nat.le_refl _)⟩
theorem RdSS.open {w : World} {v : Value} {LL : List (List ByteArray)} (h : RdSS w v LL) : ∃ ao n cap, v = .slice ao n cap ∧ n = LL.length ∧ RdSS w (.slice ao n cap) LL := by
  obtain ⟨vs, h1, h2, h3⟩ := h
  obtain ⟨ao, n, cap, rfl, hn, _, h4⟩ := h1.open
  exact ⟨ao, n, cap, rfl, hn.trans h2, vs, h4, h2, h3⟩
theorem RdSS.at {w : World} {ao : Option Addr} {n cap : Nat} {LL : List (List ByteArray)} (h : RdSS w (.slice ao n cap) LL) (i : Nat) (L : List ByteArray) (hi : LL[i]? = some L) :
    ∃ b off a m c, ao = some ⟨b, off, none⟩ ∧ b < w.heap.size ∧ w.cell? ⟨b, off + i, none⟩ = some (.slice a m c) ∧ TxL w (.slice a m c) L := by
  obtain ⟨vs, h1, h2, h3⟩ := h
  obtain ⟨x, hx⟩ : ∃ x, vs[i]? = some x := ⟨_, List.getElem?_eq_getElem (by rw [h2]; exact (List.getElem?_eq_some_iff.1 hi).1)⟩
  obtain ⟨b, off, a, m, c, e1, e2, rfl, e3⟩ := h1.atV i x hx
  exact ⟨b, off, a, m, c, e1, e2, e3, h3 i _ L hx hi⟩

set_option maxRecDepth 100000 in
set_option maxHeartbeats 2000000 in
theorem eqSS_any (v1 v2 : Value) (LL : List (List ByteArray)) (w : World) (h1 : RdSS w v1 LL) (h2 : RdSS w v2 LL) (hn : LL.length ≤ 1000000000) (hs : ∀ L ∈ LL, L.length ≤ 1000000000) (R : Ending → World → Prop)
    (hR : ∀ w', Below w.heap.size w w' → R (.returned (.bool true)) w') :
    Calls Tryz.prog 33 #[v1, v2] w R := by
  have HR := Lib.hid hR; clear hR
  obtain ⟨a1, n, c1, rfl, e1, k1⟩ := h1.open
  obtain ⟨a2, n2, c2, rfl, e2, k2⟩ := h2.open
  obtain rfl : n = n2 := by omega
  have H1 := Lib.hid k1
  have H2 := Lib.hid k2
  have HN := Lib.hid e1
  have HS := Lib.hid hs
  have hnn : n ≤ 1000000000 := by omega
  have e0 : ((n : Int) != (n : Int)) = false := by simp
  clear h1 h2 k1 k2 e1 e2 hs hn
  go_enter Tryz.func33, Tryz.ntmps33
  go_wp2
  go_loopw [5] (fun iv wr => ∃ k : Nat, iv = .int .i64 (k : Int) ∧ k ≤ n ∧ Below w.heap.size w wr) (fun iv _ => n - (intOf iv).toNat)
  case atStart => exact ⟨0, rfl, Nat.zero_le _, Below.refl _ _⟩
  case round =>
    obtain ⟨k, rfl, hk, hbel⟩ := hrel
    have HB := Lib.hid hbel
    by_cases hkn : k = n
    · subst hkn
      have hk0 : ¬ ((k : Int) < (k : Int)) := by omega
      clear hbel
      go_wp2
      first | go_ret | skip
      exact HR.out _ HB.out
    · have hkl : k < n := by omega
      obtain ⟨L, hL⟩ : ∃ L, LL[k]? = some L := ⟨_, List.getElem?_eq_getElem (by rw [← HN.out]; exact hkl)⟩
      have HLS := Lib.hid (HS.out L (List.mem_of_getElem? hL))
      obtain ⟨b1, o1, x1, m1, y1, rfl, hb1, hc1, t1⟩ := H1.out.at k L hL
      obtain ⟨b2, o2, x2, m2, y2, rfl, hb2, hc2, t2⟩ := H2.out.at k L hL
      rw [← hbel.cell (p := ⟨b1, o1 + k, none⟩) hb1] at hc1
      rw [← hbel.cell (p := ⟨b2, o2 + k, none⟩) hb2] at hc2
      have T1 := Lib.hid (t1.later hbel (Nat.le_refl _))
      have T2 := Lib.hid (t2.later hbel (Nat.le_refl _))
      have hw1 : IntKind.i64.wrap ((k : Int) + 1) = ((k + 1 : Nat) : Int) := by rw [IntWalk.i64_in _ (by omega)]; omega
      have hk0 : (0 : Int) ≤ (k : Int) := by omega
      have hk1 : (k : Int) < (n : Int) := by omega
      have HKL := Lib.hid hkl
      clear hL t1 t2 hbel hkn
      go_wp2_with fail
      go_region_law (first
        | ((try go_simp); go_at_call 22; refine eqT_any _ _ L L _ (T1.out.later (Below.refl _ _).drew (Nat.le_refl _)) (T2.out.later (Below.refl _ _).drew (Nat.le_refl _)) (by have := HLS.out; omega) (by have := HLS.out; omega) _ ?_; intro w3 hb3; rw [decide_eq_true rfl]; have HB3 : Hid (Below w.heap.size w w3) := Lib.hid (HB.out.trans ((below_unD hb3).mono HB.out.size)); clear hb3; dsimp only))
      all_goals
        go_wp2
        go_roundw
        case rel => exact ⟨k + 1, by first | rfl | go_num, HKL.out, HB3.out⟩
        case measure => simp [intOf]; have := HKL.out; omega

/-- the marks of lists of those lengths, from a number on -/
def marksSS : Nat → List Nat → List (List ByteArray)
  | _, [] => []
  | k0, n :: ns => marks k0 n :: marksSS (k0 + n) ns
theorem marksSS_len : ∀ (ns : List Nat) (k0 : Nat), (marksSS k0 ns).length = ns.length
  | [], _ => rfl
  | n :: ns, k0 => by simp [marksSS, marksSS_len ns]
theorem marksSS_at : ∀ (ns : List Nat) (k0 i n : Nat), ns[i]? = some n → (marksSS k0 ns)[i]? = some (marks (k0 + (ns.take i).sum) n)
  | [], _, _, _, h => by simp at h
  | m :: ns, k0, 0, n, h => by simp at h; subst h; simp [marksSS]
  | m :: ns, k0, i + 1, n, h => by
    have := marksSS_at ns (k0 + m) i n (by simpa using h)
    simp only [marksSS, List.getElem?_cons_succ, List.take_succ_cons, List.sum_cons]
    rw [this, Nat.add_assoc]
theorem sum_take_one {ns : List Nat} {i n : Nat} (h : ns[i]? = some n) : (ns.take (i + 1)).sum = (ns.take i).sum + n := by
  rw [List.take_add_one, h]; simp
theorem sum_take_le (ns : List Nat) (i : Nat) : (ns.take i).sum ≤ ns.sum := by
  conv => rhs; rw [← List.take_append_drop i ns]
  rw [List.sum_append]; omega

set_option maxRecDepth 100000 in
set_option maxHeartbeats 2000000 in
theorem heldSS_any (v : Value) (k0 : Nat) (ns : List Nat) (w : World) (h : RdSS w v (marksSS k0 ns)) (hn : ns.length ≤ 1000000) (hk : k0 + ns.sum ≤ 1000000) (R : Ending → World → Prop)
    (hR : ∀ w', Below w.heap.size w w' → R (.returned (.int .i64 ((k0 + ns.sum : Nat) : Int))) w') :
    Calls Tryz.prog 35 #[v, .int .i64 (k0 : Int)] w R := by
  have HR := Lib.hid hR; clear hR
  obtain ⟨ao, n, cap, rfl, hnl, hh⟩ := h.open
  rw [marksSS_len] at hnl
  have HH := Lib.hid hh
  have HN := Lib.hid hnl
  have HK := Lib.hid hk
  have hnn : n ≤ 1000000 := by omega
  obtain ⟨zz, hzz⟩ : ∃ zz, zz = k0 + ns.sum := ⟨_, rfl⟩
  have HZZ := Lib.hid hzz
  rw [← hzz] at HR
  clear h hh hnl hk hn hzz
  go_enter Tryz.func35, Tryz.ntmps35
  go_wp2
  go_loopw [1, 5] (fun kv iv wr => ∃ i : Nat, iv = .int .i64 (i : Int) ∧ kv = .int .i64 ((k0 + (ns.take i).sum : Nat) : Int) ∧ i ≤ n ∧ Below w.heap.size w wr) (fun _ iv _ => n - (intOf iv).toNat)
  case atStart => exact ⟨0, rfl, by simp, Nat.zero_le _, Below.refl _ _⟩
  case round =>
    obtain ⟨i, rfl, rfl, hi, hbel⟩ := hrel
    have HB := Lib.hid hbel
    by_cases hin : i = n
    · have he : (ns.take i).sum = ns.sum := by rw [hin, HN.out, List.take_length]
      rw [he, ← HZZ.out]
      have HF := Lib.hid (HR.out wr HB.out)
      subst hin
      have hk0 : ¬ ((i : Int) < (i : Int)) := by omega
      clear hbel he
      go_wp2
      first | go_ret | skip
      exact HF.out
    · have hil : i < n := by omega
      obtain ⟨m, hm⟩ : ∃ m, ns[i]? = some m := ⟨_, List.getElem?_eq_getElem (by rw [← HN.out]; exact hil)⟩
      obtain ⟨z, hz⟩ : ∃ z, z = k0 + (ns.take i).sum := ⟨_, rfl⟩
      obtain ⟨b, o, x, q, y, rfl, hb, hc, t⟩ := HH.out.at i _ (marksSS_at ns k0 i m hm)
      have hs1 := sum_take_one hm
      have hs2 := sum_take_le ns (i + 1)
      rw [← hz] at t ⊢
      rw [← hbel.cell (p := ⟨b, o + i, none⟩) hb] at hc
      have HT := Lib.hid (t.later hbel (Nat.le_refl _))
      have HZ : Hid (z + m = k0 + (ns.take (i + 1)).sum ∧ z + m ≤ 1000000) := Lib.hid (by have := HK.out; omega)
      have hw1 : IntKind.i64.wrap ((i : Int) + 1) = ((i + 1 : Nat) : Int) := by rw [IntWalk.i64_in _ (by omega)]; omega
      have hk0 : (0 : Int) ≤ (i : Int) := by omega
      have hk1 : (i : Int) < (n : Int) := by omega
      have HI := Lib.hid hil
      clear hm hz t hs1 hs2 hbel hin
      go_wp2_with fail
      refine held_any _ z m wr HT.out (by have := HZ.out; omega) (by have := HZ.out; omega) _ ?_
      intro w3 hb3
      obtain ⟨z2, hz2⟩ : ∃ z2, z2 = z + m := ⟨_, rfl⟩
      have HZ2 := Lib.hid hz2
      rw [← hz2]
      have d1 : ¬ ((z2 : Int) < 0) := by omega
      have HB3 := Lib.hid (HB.out.trans (hb3.mono HB.out.size))
      clear hb3 hz2
      dsimp only
      go_wp2
      go_roundw
      case rel => exact ⟨i + 1, by first | rfl | go_num, by rw [HZ2.out, HZ.out.1], HI.out, HB3.out⟩
      case measure => simp [intOf]; have := HI.out; omega
end Go.Proofs.YtpblpdcdhgjecaaGreatDoor

namespace Go.Proofs.YtpblpdcdhgjecaaGreatDoor
open Go Go.RowKit

theorem OwE.butG {α : Type} {sz : Nat} {E : World → List Value → α → Prop} (hc : ∀ w w' cs x, E w cs x → E w' cs x) {e : TypeId} {w w' : World} {B : Nat} {v : Value} {xs : List α} {o : Option Nat} (h : OwE sz E e w B v xs) (hb : ButO o w w') (hne : ∀ g, v.ownBlock = some g → o ≠ some g) : OwE sz E e w' B v xs := by
  rcases h with h | ⟨g, cap, cur, rfl, h2, h3, h4, h5, h6, h7, h8⟩
  · exact .inl h
  · exact .inr ⟨g, cap, cur, rfl, h2, by rw [hb.block g (lt_of_block h3) (hne g (by simp [Value.ownBlock]))]; exact h3, h4, h5, h6, h7, fun i x hi => hc _ _ _ _ (h8 i x hi)⟩
theorem OwE.underG {α : Type} {sz : Nat} {E : World → List Value → α → Prop} (hc : ∀ w w' cs x, E w cs x → E w' cs x) {e : TypeId} {w w' : World} {B B' : Nat} {v : Value} {xs : List α} (h : OwE sz E e w B v xs) (hb : Below B' w w') (hlt : ∀ g, v.ownBlock = some g → g < B') : OwE sz E e w' B v xs := by
  rcases h with h | ⟨g, cap, cur, rfl, h2, h3, h4, h5, h6, h7, h8⟩
  · exact .inl h
  · exact .inr ⟨g, cap, cur, rfl, h2, by rw [hb.block g (hlt g (by simp [Value.ownBlock]))]; exact h3, h4, h5, h6, h7, fun i x hi => hc _ _ _ _ (h8 i x hi)⟩
theorem cV : ∀ (w w' : World) (cs : List Value) (x : Value), EV w cs x → EV w' cs x := fun _ _ _ _ h => h
theorem OwE.ne_own {α β : Type} {s1 s2 : Nat} {E1 : World → List Value → α → Prop} {E2 : World → List Value → β → Prop} {e1 e2 : TypeId} {w : World} {B1 B2 : Nat} {v1 v2 : Value} {xs : List α} {ys : List β}
    (h1 : OwE s1 E1 e1 w B1 v1 xs) (h2 : OwE s2 E2 e2 w B2 v2 ys) (he : e1 ≠ e2) : ∀ g, v1.ownBlock = some g → v2.ownBlock ≠ some g := by
  rcases h1 with ⟨rfl, _⟩ | ⟨g1, c1, cur1, rfl, _, k1, _⟩
  · intro g hg; cases hg
  · rcases h2 with ⟨rfl, _⟩ | ⟨g2, c2, cur2, rfl, _, k2, _⟩
    · intro g _ hg; cases hg
    · intro g hg hg2
      obtain rfl : g1 = g := by simpa [Value.ownBlock] using hg
      obtain rfl : g2 = g1 := by simpa [Value.ownBlock] using hg2
      rw [k1] at k2
      simp at k2
      exact he k2.2

/-- an own list of own lists of texts, each in a block of its own -/
def OwSS (w : World) (B : Nat) (v : Value) (LL : List (List ByteArray)) : Prop :=
  ∃ vs : List Value, OwE 1 EV 25 w B v vs ∧ vs.length = LL.length ∧ (∀ (i : Nat) (x : Value) (L : List ByteArray), vs[i]? = some x → LL[i]? = some L → OwE 1 ET 9 w B x L) ∧
    ∀ (i j : Nat) (x y : Value) (g : Nat), i ≠ j → vs[i]? = some x → vs[j]? = some y → x.ownBlock = some g → y.ownBlock ≠ some g
theorem OwSS.rd {w : World} {B : Nat} {v : Value} {LL : List (List ByteArray)} (h : OwSS w B v LL) : RdSS w v LL := by
  obtain ⟨vs, h1, h2, h3, _⟩ := h
  exact ⟨vs, h1.sl, h2, fun i x L hx hL => (h3 i x L hx hL).tx⟩
theorem OwSS.shape {w : World} {B : Nat} {v : Value} {LL : List (List ByteArray)} (h : OwSS w B v LL) : ∃ a n c, v = .slice a n c ∧ n = LL.length := by
  obtain ⟨vs, h1, h2, _⟩ := h
  obtain ⟨a, n, c, rfl, hn⟩ := h1.shape
  exact ⟨a, n, c, rfl, hn.trans h2⟩
theorem OwSS.nil (w : World) (B : Nat) : OwSS w B (.slice none 0 0) [] := ⟨[], OwE.nil _ _ _, rfl, fun i x L h => by simp at h, fun i j x y g _ h => by simp at h⟩
theorem OwSS.later {w w' : World} {B : Nat} {v : Value} {LL : List (List ByteArray)} (h : OwSS w B v LL) (hb : Below w.heap.size w w') : OwSS w' B v LL := by
  obtain ⟨vs, h1, h2, h3, h4⟩ := h
  exact ⟨vs, h1.later elemV hb (Nat.le_refl _), h2, fun i x L hx hL => (h3 i x L hx hL).later elemT hb (Nat.le_refl _), h4⟩
/-- an own list that a block of texts elsewhere leaves as it is -/
theorem OwSS.butT {w w' : World} {B : Nat} {v : Value} {LL : List (List ByteArray)} {o : Option Nat} (h : OwSS w B v LL) (hb : ButO o w w') (hne : ∀ g, o = some g → g < B) : OwSS w' B v LL := by
  obtain ⟨vs, h1, h2, h3, h4⟩ := h
  exact ⟨vs, h1.butG cV hb (fun g hg e => by have := h1.base g hg; have := hne g e; omega), h2,
    fun i x L hx hL => (h3 i x L hx hL).butO hb (fun g hg e => by have := (h3 i x L hx hL).base g hg; have := hne g e; omega), h4⟩
/-- what was there before a block number is left as it is -/
theorem OwSS.under {w w1 w' : World} {B B' : Nat} {v : Value} {LL : List (List ByteArray)} (h : OwSS w B v LL) (hB : w.heap.size ≤ B') (h1 : Below w.heap.size w w1) (hb : Below B' w1 w') : OwSS w' B v LL := by
  obtain ⟨vs, k1, k2, k3, k4⟩ := h
  exact ⟨vs, (k1.later elemV h1 (Nat.le_refl _)).underG cV hb (fun g hg => by have := k1.own_lt g hg; omega), k2,
    fun i x L hx hL => ((k3 i x L hx hL).later elemT h1 (Nat.le_refl _)).under hb (fun g hg => by have := (k3 i x L hx hL).own_lt g hg; omega), k4⟩

/-- the loop of marking -/
def MarkSRel (w : World) (B k0 : Nat) (LL : List (List ByteArray)) (v kv iv : Value) (wr : World) : Prop :=
  ∃ i : Nat, iv = .int .i64 (i : Int) ∧ kv = .int .i64 ((k0 + ((LL.map List.length).take i).sum : Nat) : Int) ∧ i ≤ LL.length ∧
    OwSS wr B v (marksSS k0 ((LL.map List.length).take i) ++ LL.drop i) ∧ Below B w wr ∧ w.heap.size ≤ wr.heap.size

theorem marks_step : ∀ (LL : List (List ByteArray)) (k0 i : Nat) (L : List ByteArray), LL[i]? = some L → ∀ (j : Nat) (M : List ByteArray), (marksSS k0 ((LL.map List.length).take (i + 1)) ++ LL.drop (i + 1))[j]? = some M →
    (j = i ∧ M = marks (k0 + ((LL.map List.length).take i).sum) L.length) ∨ (j ≠ i ∧ (marksSS k0 ((LL.map List.length).take i) ++ LL.drop i)[j]? = some M) := by
  intro LL
  induction LL with
  | nil => intro k0 i L h; simp at h
  | cons A LL ih =>
    intro k0 i L h j M hM
    match i, j with
    | 0, 0 => simp [marksSS] at h hM; subst h; subst hM; exact .inl ⟨rfl, by simp⟩
    | 0, j + 1 => exact .inr ⟨by omega, by simpa [marksSS] using hM⟩
    | i + 1, 0 => exact .inr ⟨by omega, by simpa [marksSS] using hM⟩
    | i + 1, j + 1 =>
      have h' : LL[i]? = some L := by simpa using h
      have hM' : (marksSS (k0 + A.length) ((LL.map List.length).take (i + 1)) ++ LL.drop (i + 1))[j]? = some M := by simpa [marksSS] using hM
      rcases ih (k0 + A.length) i L h' j M hM' with ⟨rfl, e⟩ | ⟨e1, e2⟩
      · refine .inl ⟨rfl, ?_⟩
        rw [e]; simp [Nat.add_assoc]
      · exact .inr ⟨by omega, by simpa [marksSS] using e2⟩

theorem marks_now {LL : List (List ByteArray)} {k0 i : Nat} {L : List ByteArray} (h : LL[i]? = some L) : (marksSS k0 ((LL.map List.length).take i) ++ LL.drop i)[i]? = some L := by
  have hi := (List.getElem?_eq_some_iff.1 h).1
  have hl : (marksSS k0 ((LL.map List.length).take i)).length = i := by rw [marksSS_len, List.length_take, List.length_map]; omega
  rw [List.getElem?_append_right (by omega), hl, Nat.sub_self, List.getElem?_drop]
  simpa using h

set_option maxRecDepth 100000 in
set_option maxHeartbeats 2000000 in
theorem markSS_any (v : Value) (LL : List (List ByteArray)) (k0 B : Nat) (w : World) (h : OwSS w B v LL) (hB : B ≤ w.heap.size) (hn : LL.length ≤ 1000000) (hk : k0 + (LL.map List.length).sum ≤ 1000000) (R : Ending → World → Prop)
    (hR : ∀ w', OwSS w' B v (marksSS k0 (LL.map List.length)) → Below B w w' → w.heap.size ≤ w'.heap.size → R (.returned (.int .i64 ((k0 + (LL.map List.length).sum : Nat) : Int))) w') :
    Calls Tryz.prog 34 #[v, .int .i64 (k0 : Int)] w R := by
  have HR := Lib.hid hR; clear hR
  have HST : Hid (MarkSRel w B k0 LL v (.int .i64 (k0 : Int)) (.int .i64 0) w) := Lib.hid ⟨0, rfl, by simp, Nat.zero_le _, by simpa [marksSS] using h, Below.refl _ _, Nat.le_refl _⟩
  obtain ⟨ao, n, cap, rfl, hnl⟩ := h.shape
  have HN := Lib.hid hnl
  have HK := Lib.hid hk
  have HBB := Lib.hid hB
  have hnn : n ≤ 1000000 := by omega
  obtain ⟨zz, hzz⟩ : ∃ zz, zz = k0 + (LL.map List.length).sum := ⟨_, rfl⟩
  have HZZ := Lib.hid hzz
  rw [← hzz] at HR
  obtain ⟨v0, hv0⟩ : ∃ v0, v0 = Value.slice ao n cap := ⟨_, rfl⟩
  have HV0 := Lib.hid hv0
  rw [← hv0] at HR HST
  clear h hnl hk hn hzz hB hv0
  go_enter Tryz.func34, Tryz.ntmps34
  go_wp2
  go_loopw [1, 5] (fun kv iv wr => MarkSRel w B k0 LL v0 kv iv wr) (fun _ iv _ => n - (intOf iv).toNat)
  case atStart => exact HST.out
  case round =>
    clear HST
    obtain ⟨i, rfl, rfl, hi, hown, hbel, hsz⟩ := hrel
    have HB := Lib.hid (And.intro hbel hsz)
    have HOWN := Lib.hid hown
    rw [← HN.out] at hi
    clear hown
    by_cases hin : i = n
    · have he : (LL.map List.length).take i = LL.map List.length := by rw [hin, HN.out, ← List.length_map (f := List.length), List.take_length]
      have he2 : LL.drop i = [] := by rw [hin, HN.out, List.drop_length]
      rw [he, he2, List.append_nil] at HOWN
      rw [he, ← HZZ.out]
      have HF := Lib.hid (HR.out wr HOWN.out HB.out.1 HB.out.2)
      subst hin
      have hk0 : ¬ ((i : Int) < (i : Int)) := by omega
      clear hbel he he2 hsz
      go_wp2
      first | go_ret | skip
      exact HF.out
    · have hil : i < n := by omega
      obtain ⟨L, hL⟩ : ∃ L, LL[i]? = some L := ⟨_, List.getElem?_eq_getElem (by rw [← HN.out]; exact hil)⟩
      have hm : (LL.map List.length)[i]? = some L.length := by rw [List.getElem?_map, hL]; rfl
      obtain ⟨z, hz⟩ : ∃ z, z = k0 + ((LL.map List.length).take i).sum := ⟨_, rfl⟩
      have hs1 := sum_take_one hm
      have hs2 := sum_take_le (LL.map List.length) (i + 1)
      have HZE := Lib.hid hz
      obtain ⟨vs, o1, o2, o3, o4⟩ := HOWN.out
      obtain ⟨x, hx⟩ : ∃ x, vs[i]? = some x := ⟨_, List.getElem?_eq_getElem (by rw [o2, List.length_append, marksSS_len, List.length_take, List.length_map, List.length_drop, ← HN.out]; omega)⟩
      have oi := o3 i x L hx (marks_now hL)
      obtain ⟨b, o, x', q, y, hao, hb, hxe, hc⟩ := SlE.atV (HV0.out ▸ o1.sl) i x hx
      subst hao
      subst hxe
      rw [← hz]
      have HVS := Lib.hid (And.intro o1 (And.intro o2 (And.intro o3 o4)))
      have HX := Lib.hid hx
      have HL := Lib.hid hL
      have HOI := Lib.hid oi
      have HZ : Hid (z + L.length = k0 + ((LL.map List.length).take (i + 1)).sum ∧ z + L.length ≤ 1000000) := Lib.hid (by have := HK.out; omega)
      have hw1 : IntKind.i64.wrap ((i : Int) + 1) = ((i + 1 : Nat) : Int) := by rw [IntWalk.i64_in _ (by omega)]; omega
      have hk0 : (0 : Int) ≤ (i : Int) := by omega
      have hk1 : (i : Int) < (n : Int) := by omega
      have HI := Lib.hid hil
      have HBQ : Hid (B ≤ wr.heap.size) := Lib.hid (Nat.le_trans HBB.out hsz)
      clear hm hz hs1 hs2 hbel hin o1 o2 o3 o4 hx hL oi hsz
      go_wp2_with fail
      refine mark_any _ L z B wr HOI.out (by have := HZ.out; omega) (by have := HZ.out; omega) _ ?_
      intro w3 hv3 hb3
      obtain ⟨z2, hz2⟩ : ∃ z2, z2 = z + L.length := ⟨_, rfl⟩
      have HZ2 := Lib.hid hz2
      rw [← hz2]
      have HOW3 : Hid (OwSS w3 B v0 (marksSS k0 ((LL.map List.length).take (i + 1)) ++ LL.drop (i + 1))) := Lib.hid (by
        obtain ⟨o1, o2, o3, o4⟩ := HVS.out
        refine ⟨vs, o1.butG cV hb3 (fun g hg e => o1.ne_own HOI.out (by decide) g hg e), ?_, ?_, o4⟩
        · rw [o2, List.length_append, List.length_append, marksSS_len, marksSS_len, List.length_take, List.length_take, List.length_map, List.length_drop, List.length_drop]
          have := HN.out; have := HI.out; omega
        · intro j y M hy hM
          rcases marks_step LL k0 i L HL.out j M hM with ⟨rfl, rfl⟩ | ⟨e1, e2⟩
          · have hxy := HX.out
            rw [hy] at hxy
            obtain rfl := Option.some.inj hxy
            rw [← HZE.out]; exact hv3
          · exact (o3 j y M hy e2).butO hb3 (fun g hg e => o4 i j _ y g (fun h => e1 h.symm) HX.out hy e hg))
      have HB3 : Hid (Below B w w3 ∧ w.heap.size ≤ w3.heap.size) := Lib.hid ⟨HB.out.1.trans (hb3.below (fun g hg => HOI.out.base g hg) HBQ.out), Nat.le_trans HB.out.2 hb3.size⟩
      clear hb3 hv3 hz2
      dsimp only
      go_wp2
      go_roundw
      case rel => exact ⟨i + 1, by first | rfl | go_num, by rw [HZ2.out, HZ.out.1], by have := HI.out; have := HN.out; omega, HOW3.out, HB3.out.1, HB3.out.2⟩
      case measure => simp [intOf]; have := HI.out; omega
end Go.Proofs.YtpblpdcdhgjecaaGreatDoor

namespace Go.Proofs.YtpblpdcdhgjecaaGreatDoor
open Go Go.RowKit

/-- the cells of a slice in a row -/
def rowOf (w : World) (b off m : Nat) : List Value := (List.range m).map fun j => (w.cell? ⟨b, off + j, none⟩).getD (.bool false)
theorem rowOf_len (w : World) (b off m : Nat) : (rowOf w b off m).length = m := by simp [rowOf]
theorem rowOf_seg {w : World} {b off m i sz : Nat} {cs : List Value} (hl : cs.length = sz) (hi : i * sz + sz ≤ m) (hc : ∀ j u, cs[j]? = some u → w.cell? ⟨b, off + (i * sz + j), none⟩ = some u) :
    ((rowOf w b off m).drop (i * sz)).take sz = cs := by
  apply List.ext_getElem?
  intro j
  rcases Nat.lt_or_ge j sz with hj | hj
  · rw [List.getElem?_take_of_lt hj, List.getElem?_drop]
    have hjm : i * sz + j < m := by omega
    have hcs : cs[j]? = some cs[j] := List.getElem?_eq_getElem (by omega)
    rw [hcs]
    unfold rowOf
    rw [List.getElem?_map, List.getElem?_range hjm]
    simp only [Option.map_some]
    rw [hc j _ hcs]
    rfl
  · rw [List.getElem?_eq_none (by rw [List.length_take]; omega), List.getElem?_eq_none (by omega)]

theorem div_lt {n sz j : Nat} (h : j < n * sz) : j / sz < n ∧ j % sz < sz ∧ j = j / sz * sz + j % sz := by
  have hsz : 0 < sz := by
    rcases Nat.eq_zero_or_pos sz with h0 | h0
    · subst h0; simp at h
    · exact h0
  refine ⟨Nat.div_lt_of_lt_mul (by rw [Nat.mul_comm]; exact h), Nat.mod_lt _ hsz, ?_⟩
  rw [Nat.mul_comm]; exact (Nat.div_add_mod j sz).symm

theorem run_spread0 {α : Type} {P : Program} {w : World} {sz : Nat} {E : World → List Value → α → Prop} (hE : Elem sz E) (hsz : 0 < sz) (t ty e : TypeId) (bytes : Nat) (z : Value) (ht : P.underlying t = some (.slice e))
    (hi : (P.info? e).map (fun i => (i.zero, i.size, i.bytes)) = some (some z, sz, bytes)) (hzs : z.cells.size = sz) (hzi : ∀ u ∈ z.cells.toList, notInt u = true) (hby : bytes ≤ 100)
    (B g0 : Nat) (h0 : w.heap[g0]? = some (.cells #[] e (0, 0))) (hB0 : B ≤ g0) (hB : B ≤ w.heap.size) (v : Value) (xs : List α) (h : SlE sz E w v xs) (hlen : xs.length ≤ 100000000) :
    ∃ v' w', (Builtin.append_ #[t, t] ty #[.slice (some ⟨g0, 0, none⟩) 0 0, v]).run P w = .ok v' w' ∧ OwE sz E e w' B v' xs ∧ Below w.heap.size w w' := by
  obtain ⟨i0, hi0, hz0, hz1, hz2⟩ := info_parts hi
  subst hz1
  obtain ⟨ao, n, cap, rfl, hn, hc, hsl⟩ := h.open
  by_cases hn0 : n = 0
  · subst hn0
    obtain rfl : xs = [] := List.eq_nil_of_length_eq_zero hn.symm
    refine ⟨.slice (some ⟨g0, 0, none⟩) 0 0, w, ?_, ?_, Below.refl _ _⟩
    · have hf : (Builtin.firstCells i0.size 0 (.slice ao 0 cap)).run P w = .ok #[] w := by
        cases ao <;> simp [Builtin.firstCells, loadCellsFrom, loadCells]
      simp [Builtin.append_, run_underlying ht, sizeOf, typeInfo, zeroValue, hi0, hz0, Builtin.lenOf, hf, storeCells]
    · exact .inr ⟨g0, 0, #[], rfl, hB0, h0, Nat.le_refl _, by simp only [maxLen]; omega, by simp, by simp, fun i x h => by simp at h⟩
  · obtain ⟨x0, hx0⟩ : ∃ x, xs[0]? = some x := ⟨_, List.getElem?_eq_getElem (by omega)⟩
    obtain ⟨b, off, cs0, rfl, hb, _, _⟩ := hsl.at 0 x0 hx0
    obtain ⟨news, hnews⟩ : ∃ news, news = rowOf w b off (n * i0.size) := ⟨_, rfl⟩
    have hl : news.length = n * i0.size := by rw [hnews, rowOf_len]
    have hat : ∀ i x, xs[i]? = some x → ∃ cs, (∀ j u, cs[j]? = some u → w.cell? ⟨b, off + (i * i0.size + j), none⟩ = some u) ∧ E w cs x := by
      intro i x hx
      obtain ⟨b', off', cs, h1, _, h3, h4⟩ := hsl.at i x hx
      cases h1
      exact ⟨cs, h3, h4⟩
    have hcell : ∀ j u, news[j]? = some u → w.cell? ((⟨b, off, none⟩ : Addr).add j) = some u := by
      intro j u hj
      rw [Addr.add_lit]
      have hjm : j < n * i0.size := by rw [← hl]; exact (List.getElem?_eq_some_iff.1 hj).1
      obtain ⟨d1, d2, d3⟩ := div_lt hjm
      obtain ⟨x, hx⟩ : ∃ x, xs[j / i0.size]? = some x := ⟨_, List.getElem?_eq_getElem (by omega)⟩
      obtain ⟨cs, h3, h4⟩ := hat _ x hx
      have hjl : j % i0.size < cs.length := by rw [hE.len h4]; exact d2
      have hcs : cs[j % i0.size]? = some cs[j % i0.size] := List.getElem?_eq_getElem hjl
      have h5 := h3 _ _ hcs
      rw [← d3] at h5
      rw [hnews] at hj
      unfold rowOf at hj
      rw [List.getElem?_map, List.getElem?_range hjm, Option.map_some, h5] at hj
      simp at hj
      rw [h5, hj]
    have hbyt : n * i0.bytes ≤ 100000000 * 100 := Nat.mul_le_mul (by omega) (by omega)
    have hr := run_append_grow (P := P) w t ty e i0 z ht hi0 hz0 ⟨g0, 0, none⟩ 0 0 [] (by simp) (by simp) ⟨b, off, none⟩ n cap news hl hcell (by omega) (by omega) (growslice_fits (by omega) (by rw [Nat.zero_add]; omega))
    have hge := grownCap_ge w (0 + n) 0 e
    have fresh : ∀ (o : Obj), Below w.heap.size w (w.drew.alloc o) := fun o => (Below.refl _ _).drew.alloc (Nat.le_refl _) o
    have hzl : ∀ k : Nat, (Builtin.zeroCells z.cells k).toList.length = k * i0.size := fun k => by rw [Array.length_toList, size_zeroCells, hzs]
    have e1 : ([] : List Value).toArray ++ news.toArray ++ Builtin.zeroCells z.cells (grownCap w (0 + n) 0 e - (0 + n)) = (news ++ (Builtin.zeroCells z.cells (grownCap w (0 + n) 0 e - (0 + n))).toList).toArray := Array.toList_inj.1 (by simp)
    rw [e1] at hr
    refine ⟨_, _, hr, ?_, fresh _⟩
    refine .inr ⟨w.heap.size, grownCap w (0 + n) 0 e, (news ++ (Builtin.zeroCells z.cells (grownCap w (0 + n) 0 e - (0 + n))).toList).toArray, by rw [Nat.zero_add, ← hn], hB, ?_, by rw [← hn]; omega, grownCap_le_maxLen w (0 + n) 0 e (by simp only [maxLen]; omega), ?_, ?_, ?_⟩
    · show (w.heap.push _)[_]? = _
      simp
    · simp only [List.size_toArray, List.length_append, hzl, hl]
      rw [← Nat.add_mul]
      congr 1
      try omega
    · intro u hu
      simp only [List.mem_append] at hu
      rcases hu with hu | hu
      · obtain ⟨j, hj⟩ := List.mem_iff_getElem?.1 hu
        have hjm : j < n * i0.size := by rw [← hl]; exact (List.getElem?_eq_some_iff.1 hj).1
        obtain ⟨d1, d2, d3⟩ := div_lt hjm
        obtain ⟨x, hx⟩ : ∃ x, xs[j / i0.size]? = some x := ⟨_, List.getElem?_eq_getElem (by omega)⟩
        obtain ⟨cs, h3, h4⟩ := hat _ x hx
        have hjl : j % i0.size < cs.length := by rw [hE.len h4]; exact d2
        have hcs : cs[j % i0.size]? = some cs[j % i0.size] := List.getElem?_eq_getElem hjl
        have h5 := h3 _ _ hcs
        rw [← d3] at h5
        have h6 := hcell j u hj
        rw [Addr.add_lit, h5] at h6
        cases h6
        exact hE.ints h4 _ (List.mem_of_getElem? hcs)
      · exact zeroCells_ints _ _ hzi u hu
    · intro i x hx
      have hin : i < n := by rw [hn]; exact (List.getElem?_eq_some_iff.1 hx).1
      obtain ⟨cs, h3, h4⟩ := hat i x hx
      have hm : i * i0.size + i0.size ≤ n * i0.size := by rw [← Nat.succ_mul]; exact Nat.mul_le_mul_right _ hin
      have h9 : ((news ++ (Builtin.zeroCells z.cells (grownCap w (0 + n) 0 e - (0 + n))).toList).drop (i * i0.size)).take i0.size = cs := by
        rw [seg_lt hl hin, hnews]
        exact rowOf_seg (hE.len h4) hm h3
      show E _ (((news ++ (Builtin.zeroCells z.cells (grownCap w (0 + n) 0 e - (0 + n))).toList).drop (i * i0.size)).take i0.size) x
      rw [h9]
      exact hE.below h4 (fresh _) (Nat.le_refl _)

/-- the same as an operation of a walk -/
theorem wpList_spread0 {α : Type} {P : Program} {w : World} {ops : Array Oper} {rest : List Oper} {o : Oper} {a : Act} {Q : Exit → Act → World → Prop} {sz : Nat} {E : World → List Value → α → Prop} (hE : Elem sz E) (hsz : 0 < sz) (hgd : o.guard = none) (s x : Operand) (t : TypeId)
    (ho : o.op = .call { callee := .builtin .append, args := #[s, x], argTypes := #[t, t] })
    (e : TypeId) (bytes : Nat) (z : Value) (ht : P.underlying t = some (.slice e))
    (hi : (P.info? e).map (fun i => (i.zero, i.size, i.bytes)) = some (some z, sz, bytes)) (hzs : z.cells.size = sz) (hzi : ∀ u ∈ z.cells.toList, notInt u = true) (hby : bytes ≤ 100)
    (B g0 : Nat) (hs : a.eval s = .slice (some ⟨g0, 0, none⟩) 0 0) (h0 : w.heap[g0]? = some (.cells #[] e (0, 0))) (hB0 : B ≤ g0) (hB : B ≤ w.heap.size) (v : Value) (hx : a.eval x = v) (xs : List α) (h : SlE sz E w v xs) (hlen : xs.length ≤ 100000000)
    (hK : ∀ ao n c w', OwE sz E e w' B (.slice ao n c) xs → n = xs.length → Below w.heap.size w w' → wpList P ops Q rest (a.put o.dst (.slice ao n c)) w') : wpList P ops Q (o :: rest) a w := by
  obtain ⟨v', w', hr, h2, h4⟩ := run_spread0 (P := P) hE hsz t o.type e bytes z ht hi hzs hzi hby B g0 h0 hB0 hB v xs h hlen
  refine wpList_plain hgd fun K hK' => ?_
  unfold Oper.wp execOp
  obtain ⟨ao, n, c, rfl, hn⟩ := h2.shape
  simp only [ho, resolve, invoke, builtin, Sem.run_bind, Sem.run_pure, Result.andThen_ok, List.map_toArray, List.map_cons, List.map_nil, hx, hs, hr]
  exact hK' _ _ (hK ao n c w' h2 (by simpa using hn) h4)
end Go.Proofs.YtpblpdcdhgjecaaGreatDoor

namespace Go.Proofs.YtpblpdcdhgjecaaGreatDoor
open Go Go.RowKit

/-- a block of values that is known whole -/
def VArr (e : TypeId) (w : World) (g : Nat) (vs : List Value) : Prop := w.heap[g]? = some (.cells vs.toArray e (0, 0))
theorem VArr.lt {e : TypeId} {w : World} {g : Nat} {vs : List Value} (h : VArr e w g vs) : g < w.heap.size := lt_of_block h
theorem VArr.cell {e : TypeId} {w : World} {g : Nat} {vs : List Value} (h : VArr e w g vs) (i : Nat) (v : Value) (hi : vs[i]? = some v) : w.cell? ⟨g, i, none⟩ = some v := by
  unfold VArr at h
  simp [World.cell?, h, hi]
theorem VArr.frozen {e : TypeId} {w : World} {g : Nat} {vs : List Value} (h : VArr e w g vs) (i : Nat) : w.frozen? ⟨g, i, none⟩ = false := by
  unfold VArr at h
  simp [World.frozen?, h]
theorem VArr.set {e : TypeId} {w : World} {g : Nat} {vs : List Value} (h : VArr e w g vs) (i : Nat) (v : Value) : VArr e (w.setCell ⟨g, i, none⟩ v) g (vs.set i v) := by
  unfold VArr at *
  simp only [World.setCell, Array.getElem?_modify, h]
  simp
theorem VArr.later {e : TypeId} {w w' : World} {g B : Nat} {vs : List Value} (h : VArr e w g vs) (hb : Below B w w') (hg : g < B) : VArr e w' g vs := by
  unfold VArr at *; rw [hb.block g hg]; exact h
theorem VArr.setOther {e : TypeId} {w : World} {g b : Nat} {vs : List Value} (h : VArr e w g vs) (hg : g ≠ b) (i : Nat) (v : Value) : VArr e (w.setCell ⟨b, i, none⟩ v) g vs := by
  unfold VArr at *; rw [Below.heap_setCell _ _ _ _ hg]; exact h
theorem VArr.drewN {e : TypeId} {w : World} {g : Nat} {vs : List Value} (h : VArr e w g vs) (n : Nat) : VArr e (w.drewN n) g vs := h
theorem VArr.drw {e : TypeId} {w : World} {g : Nat} {vs : List Value} (h : VArr e w g vs) : VArr e w.drew g vs := h

theorem wpList_makev {P : Program} (w : World) {ops : Array Oper} {rest : List Oper} {o : Oper} {a : Act} {Q : Exit → Act → World → Prop}
    (hg : o.guard = none) (l : Operand) (t : TypeId) (hop : o.op = Op.makeSlice t l l) (z : Value) (hz : z.cells = #[z])
    (e : TypeId) (bytes : Nat) (h1 : P.underlying t = some (.slice e)) (hi : (P.info? e).map (fun i => (i.zero, i.size, i.bytes)) = some (some z, 1, bytes)) (hby : bytes ≤ 100)
    (kl : IntKind) (L : Int) (n : Nat) (hl : a.eval l = .int kl L) (hL : L = (n : Int)) (hn : n ≤ 1000000000)
    (hK : ∀ w', VArr e w' w.heap.size (List.replicate n z) → Below w.heap.size w w' → w'.heap.size = w.heap.size + 1 → wpList P ops Q rest (a.put o.dst (.slice (some ⟨w.heap.size, 0, none⟩) n n)) w') :
    wpList P ops Q (o :: rest) a w := by
  obtain ⟨i0, hi0, hz0, hz1, hz2⟩ := info_parts hi
  refine wpList_plain hg fun K hK' => ?_
  subst hL
  have hb : (i0.bytes : Int) * (n : Int) ≤ 281474976710656 := by
    rw [hz2]
    have : bytes * n ≤ 100 * n := Nat.mul_le_mul_right n hby
    have h2 : ((bytes * n : Nat) : Int) ≤ 281474976710656 := by omega
    rwa [Int.natCast_mul] at h2
  have hr := run_make (P := P) w t e i0 z h1 hi0 hz0 kl kl n n (by omega) (Int.le_refl _) hb (by omega)
  simp only [Int.toNat_natCast, hz1, Nat.mul_one] at hr
  unfold Oper.wp
  simp [execOp, hop, hl, hr, Result.andThen]
  refine hK' _ _ (hK _ ?_ ?_ ?_)
  · show (w.heap.push _)[_]? = _
    rw [Array.getElem?_push, if_pos rfl]
    congr 2
    apply Array.toList_inj.1
    have h3 := toList_madeCells_one z n
    rw [hz, h3]
  · exact (Below.refl _ _).alloc (Nat.le_refl _) _
  · simp
end Go.Proofs.YtpblpdcdhgjecaaGreatDoor

namespace Go.Proofs.YtpblpdcdhgjecaaGreatDoor
open Go Go.RowKit
theorem info_sl : (Tryz.prog.info? 25).map (fun i => (i.zero, i.size, i.bytes)) = some (some (.slice none 0 0), 1, 24) := by kernel_rfl

set_option maxRecDepth 100000 in
set_option maxHeartbeats 1000000 in
theorem hkElem_any (v : Value) (L : List ByteArray) (i k : Nat) (t : ByteArray) (w : World) (h : TxL w v L) (hn : L.length ≤ 1000000) (ht : L[i + k]? = some t) (R : Ending → World → Prop)
    (hR : R (.returned (.string t)) w) :
    Calls Tryz.prog 81 #[v, .int .i64 (i : Int), .int .i64 (k : Int)] w R := by
  have HR := Lib.hid hR; clear hR
  obtain ⟨ao, n, cap, rfl, hnl, _, hh⟩ := h.open
  have hik : i + k < L.length := (List.getElem?_eq_some_iff.1 ht).1
  obtain ⟨b, off, rfl, hb, hcell⟩ := TxL.at hh (i + k) t ht
  have hw1 : IntKind.i64.wrap ((i : Int) + (k : Int)) = ((i + k : Nat) : Int) := by rw [IntWalk.i64_in _ (by omega)]; omega
  obtain ⟨z, hz⟩ : ∃ z, z = i + k := ⟨_, rfl⟩
  rw [← hz] at hw1 hcell
  have c0 : (0 : Int) ≤ (z : Int) := by omega
  have c1 : (z : Int) < (n : Int) := by omega
  clear h hh ht hnl hik hz hn
  go_enter Tryz.func81, Tryz.ntmps81
  go_wp2
  first | go_ret | skip
  exact HR.out

def rowT (L : List ByteArray) (c i : Nat) : List Value := ((L.drop i).take c).map Value.string
def slV (g c : Nat) : Value := .slice (some ⟨g, 0, none⟩) c c
def TblRel (w : World) (L : List ByteArray) (r c : Nat) (iv : Value) (wr : World) : Prop :=
  ∃ i : Nat, iv = .int .i64 (i : Int) ∧ i ≤ r ∧ VArr 25 wr w.heap.size ((List.range i).map (fun j => slV (w.heap.size + 1 + j) c) ++ List.replicate (r - i) (.slice none 0 0)) ∧
    (∀ j, j < i → VArr 9 wr (w.heap.size + 1 + j) (rowT L c j)) ∧ wr.heap.size = w.heap.size + 1 + i ∧ Below w.heap.size w wr
def TbkRel (w : World) (L : List ByteArray) (r c i : Nat) (kv : Value) (wr : World) : Prop :=
  ∃ k : Nat, kv = .int .i64 (k : Int) ∧ k ≤ c ∧ VArr 25 wr w.heap.size ((List.range (i + 1)).map (fun j => slV (w.heap.size + 1 + j) c) ++ List.replicate (r - (i + 1)) (.slice none 0 0)) ∧
    (∀ j, j < i → VArr 9 wr (w.heap.size + 1 + j) (rowT L c j)) ∧
    VArr 9 wr (w.heap.size + 1 + i) ((rowT L c i).take k ++ List.replicate (c - k) (.string ByteArray.empty)) ∧ wr.heap.size = w.heap.size + 2 + i ∧ Below w.heap.size w wr

theorem tbl_set {β : Type} (f : Nat → β) (z : β) {r i : Nat} (hi : i < r) : ((List.range i).map f ++ List.replicate (r - i) z).set i (f i) = (List.range (i + 1)).map f ++ List.replicate (r - (i + 1)) z := by
  have e : r - i = (r - (i + 1)) + 1 := by omega
  have hl : ((List.range i).map f).length = i := by simp
  rw [e, List.replicate_succ, List.set_append_right _ _ (by omega), hl, Nat.sub_self, List.set_cons_zero, List.range_succ, List.map_append]
  simp
theorem tbl_at {β : Type} (f : Nat → β) (z : β) {r i m : Nat} (hi : i < m) : ((List.range m).map f ++ List.replicate (r - m) z)[i]? = some (f i) := by
  rw [List.getElem?_append_left (by simpa using hi), List.getElem?_map, List.getElem?_range hi]; rfl
theorem row_set {β : Type} (X : List β) (z x : β) {c k : Nat} (hX : X.length = c) (hx : X[k]? = some x) : (X.take k ++ List.replicate (c - k) z).set k x = X.take (k + 1) ++ List.replicate (c - (k + 1)) z := by
  have hk : k < c := by rw [← hX]; exact (List.getElem?_eq_some_iff.1 hx).1
  have e : c - k = (c - (k + 1)) + 1 := by omega
  have hl : (X.take k).length = k := by rw [List.length_take]; omega
  rw [e, List.replicate_succ, List.set_append_right _ _ (by omega), hl, Nat.sub_self, List.set_cons_zero, List.take_add_one, hx]
  simp
theorem rowT_len {L : List ByteArray} {r c i : Nat} (hrc : r + c ≤ L.length + 1) (hi : i < r) : (rowT L c i).length = c := by
  simp [rowT]; omega
theorem rowT_at {L : List ByteArray} {c i k : Nat} {t : ByteArray} (hk : k < c) (ht : L[i + k]? = some t) : (rowT L c i)[k]? = some (.string t) := by
  unfold rowT
  rw [List.getElem?_map, List.getElem?_take_of_lt hk, List.getElem?_drop, ht]; rfl

set_option maxRecDepth 100000 in
set_option maxHeartbeats 4000000 in
theorem tableH_any (s : Value) (L : List ByteArray) (r c : Nat) (w : World) (h : TxL w s L) (hL : L.length ≤ 1000000) (hr : r ≤ 1000) (hc : c ≤ 1000) (hc0 : 0 < c) (hrc : r + c ≤ L.length + 1) (R : Ending → World → Prop)
    (hR : ∀ w', VArr 25 w' w.heap.size ((List.range r).map (fun j => slV (w.heap.size + 1 + j) c)) → (∀ j, j < r → VArr 9 w' (w.heap.size + 1 + j) (rowT L c j)) → Below w.heap.size w w' → R (.returned (slV w.heap.size r)) w') :
    Calls Tryz.prog 80 #[.int .i64 (r : Int), .int .i64 (c : Int), .func (.func 81) #[s] #[]] w R := by
  have HR := Lib.hid hR; clear hR
  have HH := Lib.hid h
  have HN := Lib.hid (And.intro hL (And.intro hr (And.intro hc hrc)))
  clear h
  go_enter Tryz.func80, Tryz.ntmps80
  go_wp2_with (at_make; go_must (refine wpList_makev _ rfl (.tmp 10) 37 rfl (.slice none 0 0) rfl 25 24 Tryz.underlying37 info_sl (by omega) .i64 _ r rfl (by omega) (by omega) ?_))
  intro W hA hbW hsW
  have HST : Hid (TblRel w L r c (.int .i64 0) W) := Lib.hid ⟨0, rfl, Nat.zero_le _, by simpa using hA, fun j hj => by omega, hsW, hbW⟩
  clear hA hbW hsW hL hrc
  go_wp2
  go_loopw [14] (fun iv wr => TblRel w L r c iv wr) (fun iv _ => r - (intOf iv).toNat)
  case atStart => exact HST.out
  case round =>
    clear HST
    obtain ⟨i, rfl, hi, hA, hrows, hsz, hbel⟩ := hrel
    have HROWS := Lib.hid hrows
    have HB := Lib.hid hbel
    clear hrows
    by_cases hir : i = r
    · subst hir
      have hk0 : ¬ ((i : Int) < (i : Int)) := by omega
      rw [Nat.sub_self, List.replicate_zero, List.append_nil] at hA
      have HF := Lib.hid (HR.out wr hA HROWS.out HB.out)
      clear hA hbel hsz
      go_wp2
      first | go_ret | skip
      exact HF.out
    · have hil : i < r := by omega
      have hk0 : (0 : Int) ≤ (i : Int) := by omega
      have hk1 : (i : Int) < (r : Int) := by omega
      have hw1 : IntKind.i64.wrap ((i : Int) + 1) = ((i + 1 : Nat) : Int) := by rw [IntWalk.i64_in _ (by omega)]; omega
      obtain ⟨wo, hwo⟩ : ∃ wo, wo = wr := ⟨_, rfl⟩
      have HA := Lib.hid hA
      have HSZ := Lib.hid hsz
      have HI := Lib.hid hil
      clear hA hbel hsz hir hwo
      go_wp2_with (at_make; go_must (refine wpList_makev _ rfl (.tmp 19) 25 rfl (.string ByteArray.empty) rfl 9 16 Tryz.underlying25 info_str (by omega) .i64 _ c rfl (by omega) (by omega) ?_))
      intro W1 hA1 hbW1 hsW1
      rw [HSZ.out] at hA1
      have A1 := HA.out.later hbW1 HA.out.lt
      have hcl := A1.cell i (.slice none 0 0) (by
        rw [List.getElem?_append_right (by simp), List.length_map, List.length_range, Nat.sub_self, List.getElem?_replicate, if_pos (by omega)])
      have hfr := A1.frozen i
      obtain ⟨W2, hW2⟩ : ∃ W2, W2 = W1.setCell ⟨w.heap.size, i, none⟩ (slV (w.heap.size + 1 + i) c) := ⟨_, rfl⟩
      have A2 : VArr 25 W2 w.heap.size ((List.range (i + 1)).map (fun j => slV (w.heap.size + 1 + j) c) ++ List.replicate (r - (i + 1)) (.slice none 0 0)) := by
        rw [hW2, ← tbl_set (fun j => slV (w.heap.size + 1 + j) c) (.slice none 0 0) hil]; exact A1.set i _
      have B2 : ∀ j, j < i → VArr 9 W2 (w.heap.size + 1 + j) (rowT L c j) := fun j hj => by
        rw [hW2]; exact ((HROWS.out j hj).later hbW1 (HROWS.out j hj).lt).setOther (by omega) _ _
      have C2 : VArr 9 W2 (w.heap.size + 1 + i) (List.replicate c (.string ByteArray.empty)) := by rw [hW2]; exact hA1.setOther (by omega) _ _
      have S2 : W2.heap.size = w.heap.size + 2 + i := by rw [hW2, heap_size_set, hsW1, HSZ.out]; omega
      have D2 : Below w.heap.size w W2 := by rw [hW2]; exact (HB.out.trans (hbW1.mono HB.out.size)).setCell (Nat.le_refl _) _
      have HST2 : Hid (TbkRel w L r c i (.int .i64 0) W2) := Lib.hid ⟨0, rfl, Nat.zero_le _, A2, B2, by simpa using C2, S2, D2⟩
      have hcl2 : W2.cell? ⟨w.heap.size, i, none⟩ = some (.slice (some ⟨w.heap.size + 1 + i, 0, none⟩) c c) := A2.cell i _ (tbl_at _ _ (by omega))
      have HW2 := Lib.hid hW2
      rw [hW2] at hcl2
      unfold slV at hcl2
      rw [HSZ.out]
      clear hA1 hbW1 hsW1 A1 hW2 A2 B2 C2 S2 D2
      go_wp2
      go_loopw [27] (fun kv wr2 => TbkRel w L r c i kv wr2) (fun kv _ => c - (intOf kv).toNat)
      case atStart => rw [HW2.out] at HST2; exact HST2.out
      case round =>
        clear HST2 HW2 hcl hfr hcl2
        obtain ⟨k, rfl, hk, hA2, hrows2, hC2, hsz2, hbel2⟩ := hrel
        have HA2 := Lib.hid hA2
        have HR2 := Lib.hid hrows2
        have HC2 := Lib.hid hC2
        have HS2 := Lib.hid hsz2
        have HB2 := Lib.hid hbel2
        clear hrows2 hsz2
        have hcl := hA2.cell i _ (tbl_at _ _ (by omega))
        by_cases hkc : k = c
        · subst hkc
          have hkk : ¬ ((k : Int) < (k : Int)) := by omega
          clear hA2 hC2 hbel2 hcl
          go_wp2
          go_roundw
          case rel =>
            have h8 : (rowT L k i).length = k := rowT_len HN.out.2.2.2 HI.out
            have h9 := HC2.out
            rw [Nat.sub_self, List.replicate_zero, List.append_nil, List.take_of_length_le (by omega)] at h9
            refine ⟨i + 1, by first | rfl | go_num, HI.out, HA2.out, fun j hj => ?_, by rw [HS2.out]; omega, HB2.out⟩
            by_cases hji : j = i
            · subst hji; exact h9
            · exact HR2.out j (by omega)
          case measure => simp [intOf]; have := HI.out; omega
        · have hkl : k < c := by omega
          have hlen : (rowT L c i).length = c := rowT_len HN.out.2.2.2 HI.out
          obtain ⟨t, ht⟩ : ∃ t, L[i + k]? = some t := ⟨_, List.getElem?_eq_getElem (by have := HN.out; have := HI.out; omega)⟩
          have hrt := rowT_at (c := c) hkl ht
          have hcell := hC2.cell k (.string ByteArray.empty) (by
            have hl : ((rowT L c i).take k).length = k := by rw [List.length_take]; omega
            rw [List.getElem?_append_right (by omega), hl, Nat.sub_self, List.getElem?_replicate, if_pos (by omega)])
          have hfz := hC2.frozen k
          have hw2 : IntKind.i64.wrap ((k : Int) + 1) = ((k + 1 : Nat) : Int) := by rw [IntWalk.i64_in _ (by omega)]; omega
          have q0 : (0 : Int) ≤ (k : Int) := by omega
          have q1 : (k : Int) < (c : Int) := by omega
          have HT := Lib.hid ht
          have HKL := Lib.hid hkl
          have HRT := Lib.hid (row_set (rowT L c i) (.string ByteArray.empty) (.string t) hlen hrt)
          unfold slV at hcl
          clear hA2 hC2 hbel2 hlen ht hrt hkc
          go_wp2_with fail
          go_region_law (first
            | ((try go_simp); go_at_call 81; refine hkElem_any _ L i k t _ (HH.out.later (by repeat (first | exact HB2.out | refine bDrew ?_)) (Nat.le_refl _)) HN.out.1 HT.out _ ?_; dsimp only))
          all_goals
            go_wp2
            go_roundw
            case rel =>
              refine ⟨k + 1, by first | rfl | go_num, HKL.out, ?_, ?_, ?_, ?_, ?_⟩
              · exact (HA2.out.drw).setOther (by omega) _ _
              · exact fun j hj => ((HR2.out j hj).drw).setOther (by omega) _ _
              · rw [← HRT.out]; exact (HC2.out.drw).set k _
              · first
                | (rw [heap_size_set]; exact HS2.out)
                | (show (World.setCell _ _ _).heap.size = _; rw [heap_size_set]; exact HS2.out)
              · first
                | exact (bDrew HB2.out).setCell (by show w.heap.size ≤ w.heap.size + 1 + i; omega) _
                | exact bDrew (HB2.out.setCell (by show w.heap.size ≤ w.heap.size + 1 + i; omega) _)
            case measure => simp [intOf]; have := HKL.out; omega
end Go.Proofs.YtpblpdcdhgjecaaGreatDoor

namespace Go.Proofs.YtpblpdcdhgjecaaGreatDoor
open Go Go.RowKit

theorem TArr.own {e : TypeId} {w : World} {g : Nat} {L : List ByteArray} (h : TArr e w g L) (B n : Nat) (hn : n = L.length) (hB : B ≤ g) (hm : n ≤ 1048576) : OwE 1 ET e w B (.slice (some ⟨g, 0, none⟩) n n) L := by
  subst hn
  refine .inr ⟨g, L.length, _, rfl, hB, h, Nat.le_refl _, by simp only [maxLen]; omega, by simp, ?_, ?_⟩
  · intro u hu
    simp at hu
    obtain ⟨s, _, rfl⟩ := hu
    rfl
  · intro i x hx
    show ((L.map Value.string).toArray.toList.drop (i * 1)).take 1 = [.string x]
    obtain ⟨hi, rfl⟩ := List.getElem?_eq_some_iff.1 hx
    rw [Nat.mul_one, List.toList_toArray, List.drop_eq_getElem_cons (by rw [List.length_map]; exact hi)]
    simp

set_option maxRecDepth 100000 in
set_option maxHeartbeats 1000000 in
theorem toT_own (v : Value) (L : List ByteArray) (w : World) (h : TxL w v L) (hn : L.length ≤ 1048576) (R : Ending → World → Prop)
    (hR : ∀ v' w', OwE 1 ET 9 w' w.heap.size v' L → Below w.heap.size w w' → R (.returned v') w') :
    Calls Tryz.prog 20 #[v] w R := by
  have HR := Lib.hid hR; clear hR
  obtain ⟨ao, n, cap, rfl, hnl, hc, hh⟩ := h.open
  have HH := Lib.hid hh
  have HN := Lib.hid hnl
  rw [← hnl] at hn
  clear h hnl hh
  go_enter Tryz.func20, Tryz.ntmps20
  go_wp2_with (at_make; go_must (refine wpList_maket _ rfl (.tmp 6) 25 rfl 9 16 Tryz.underlying25 info_str (by omega) .i64 _ n rfl (by omega) (by omega) ?_))
  intro W hA hbW hsW
  have HST : Hid (CopyRel w n L (.int .i64 0) W) := Lib.hid ⟨0, rfl, Nat.zero_le _, by simpa using hA, hbW⟩
  clear hA hbW hsW
  go_wp2
  go_loopw [4] (fun i wr => CopyRel w n L i wr) (fun i _ => n - (intOf i).toNat)
  case atStart => exact HST.out
  case round =>
    clear HST
    obtain ⟨k, rfl, hk, hA, hbel⟩ := hrel
    have HB := Lib.hid hbel
    by_cases hkn : k = n
    · subst hkn
      have hL : L.take k ++ List.replicate (k - k) ByteArray.empty = L := by rw [Nat.sub_self, HN.out, List.take_length]; simp
      rw [hL] at hA
      have HT := Lib.hid (hA.own w.heap.size k HN.out (Nat.le_refl _) (by omega))
      clear hA hbel hL
      go_wp2
      first | go_ret | skip
      exact HR.out _ _ HT.out HB.out
    · have hkl : k < n := by omega
      obtain ⟨s, hs⟩ : ∃ s, L[k]? = some s := ⟨_, List.getElem?_eq_getElem (by rw [← HN.out]; exact hkl)⟩
      obtain ⟨b, off, rfl, hb, hcell⟩ := TxL.at HH.out k s hs
      rw [← hbel.cell (p := ⟨b, off + k, none⟩) hb] at hcell
      have hlen : (L.take k ++ List.replicate (n - k) ByteArray.empty).length = n := by rw [List.length_append, List.length_take, List.length_replicate, ← HN.out]; omega
      have hc2 := hA.cell k _ (List.getElem?_eq_getElem (by rw [hlen]; exact hkl))
      have hf2 := hA.frozen k
      have hA2 := hA.set k s
      rw [set_copy L k n ByteArray.empty s hkl hs] at hA2
      have HA2 := Lib.hid hA2
      obtain ⟨u, hu⟩ : ∃ u, u = (L.take k ++ List.replicate (n - k) ByteArray.empty)[k]'(by rw [hlen]; exact hkl) := ⟨_, rfl⟩
      rw [← hu] at hc2
      have hw1 : IntKind.i64.wrap ((k : Int) + 1) = ((k + 1 : Nat) : Int) := by rw [IntWalk.i64_in _ (by omega)]; omega
      clear hA hA2 hbel hlen hs hu
      go_wp2
      go_roundw
      case rel => exact ⟨k + 1, by first | rfl | go_num, by omega, HA2.out, HB.out.setCell (Nat.le_refl _) _⟩
      case measure => simp [intOf]; omega
end Go.Proofs.YtpblpdcdhgjecaaGreatDoor

namespace Go.Proofs.YtpblpdcdhgjecaaGreatDoor
open Go Go.RowKit

/-- whether there is such a Hankel matrix -/
noncomputable def hkB (L : List ByteArray) (r c : Int) : Bool := (decide (L.length ≤ 40) && L.all isNum) && decide (1 ≤ r ∧ r ≤ 20 ∧ 1 ≤ c ∧ c ≤ 20 ∧ r + c - 1 ≤ (L.length : Int))
/-- its rows -/
noncomputable def hkL (L : List ByteArray) (r c : Int) : List (List ByteArray) := if hkB L r c = true then (List.range r.toNat).map fun i => (L.drop i).take c.toNat else []
theorem hkL_true {L : List ByteArray} {r c : Int} (h : hkB L r c = true) : hkL L r c = (List.range r.toNat).map fun i => (L.drop i).take c.toNat := by unfold hkL; rw [if_pos h]
theorem hkL_false {L : List ByteArray} {r c : Int} (h : hkB L r c = false) : hkL L r c = [] := by unfold hkL; rw [if_neg (by rw [h]; decide)]

theorem VArr.ownV {e : TypeId} {w : World} {g : Nat} {vs : List Value} (h : VArr e w g vs) (hv : ∀ v ∈ vs, ∃ a n c, v = .slice a n c) (B n : Nat) (hn : n = vs.length) (hB : B ≤ g) (hm : n ≤ 1048576) : OwE 1 EV e w B (.slice (some ⟨g, 0, none⟩) n n) vs := by
  subst hn
  refine .inr ⟨g, vs.length, _, rfl, hB, h, Nat.le_refl _, by simp only [maxLen]; omega, by simp, ?_, ?_⟩
  · intro u hu
    obtain ⟨a, n, c, rfl⟩ := hv u (by simpa using hu)
    rfl
  · intro i x hx
    show EV w ((vs.toArray.toList.drop (i * 1)).take 1) x
    obtain ⟨hi, rfl⟩ := List.getElem?_eq_some_iff.1 hx
    obtain ⟨a, n, c, hx2⟩ := hv vs[i] (List.getElem_mem _)
    have e9 : (vs.drop i).take 1 = [vs[i]] := by rw [List.drop_eq_getElem_cons hi]; rfl
    refine ⟨a, n, c, hx2, ?_⟩
    rw [Nat.mul_one, List.toList_toArray, e9, hx2]

set_option maxRecDepth 100000 in
set_option maxHeartbeats 1000000 in
theorem termlist_any (v : Value) (L : List ByteArray) (w : World) (hE : Env w) (h : TxL w v L) (hn : L.length ≤ 1048576) (R : Ending → World → Prop)
    (hR : ∀ v' w', (decide (L.length ≤ 40) && L.all isNum) = true → (∃ a n c, v' = .slice a n c) → Below w.heap.size w w' → R (.returned (.tuple #[v', .nilIface])) w')
    (hR2 : ∀ e w', (decide (L.length ≤ 40) && L.all isNum) = false → ErrV e → Below w.heap.size w w' → R (.returned (.tuple #[.slice none 0 0, e])) w') :
    Calls Tryz.prog 79 #[v] w R := by
  have HR := Lib.hid hR; clear hR
  have HR2 := Lib.hid hR2; clear hR2
  have HE := Lib.hid hE
  obtain ⟨ao, n, cap, rfl, hnl, _, hh⟩ := h.open
  have HH := Lib.hid hh
  have HN := Lib.hid hnl
  have HNN := Lib.hid hn
  by_cases h40 : n ≤ 40
  · have e1 : ¬ ((40 : Int) < (n : Int)) := by omega
    have HD : Hid (decide (L.length ≤ 40) = true) := Lib.hid (decide_eq_true (by omega))
    have HD6 : Hid (decide (L.length ≤ 60) = true) := Lib.hid (decide_eq_true (by omega))
    clear h hh hnl hn hE h40
    go_enter Tryz.func79, Tryz.ntmps79
    go_wp2_with fail
    refine readrs_any _ L _ HE.out HH.out HNN.out _ ?_ ?_
    · intro v' w1 _ h2 hv hb1
      obtain ⟨a9, n9, c9, rfl, _⟩ := SlE.op hv
      have HF := Lib.hid (HR.out (.slice a9 n9 c9) w1 (by rw [HD.out, h2]; rfl) ⟨_, _, _, rfl⟩ hb1)
      clear h2 hv hb1
      dsimp only
      go_wp2
      first | go_ret | skip
      exact HF.out
    · intro e w1 hf he hb1
      have hf2 : L.all isNum = false := by rw [HD6.out, Bool.true_and] at hf; exact hf
      have HF := Lib.hid (HR2.out e w1 (by rw [hf2, Bool.and_false]) he hb1)
      clear hf hf2 hb1
      obtain ⟨t, p, rfl⟩ := he
      dsimp only
      go_wp2
      first | go_ret | skip
      exact HF.out
  · have e1 : (40 : Int) < (n : Int) := by omega
    have hf : (decide (L.length ≤ 40) && L.all isNum) = false := by rw [decide_eq_false (by omega)]; rfl
    obtain ⟨_, ⟨p, hp⟩, _⟩ := HE.out
    have HF := Lib.hid (HR2.out (.iface 232 (.pointer (some p))) w hf ⟨_, _, rfl⟩ (Below.refl _ _))
    have HF2 := Lib.hid (fun n => HR2.out (.iface 232 (.pointer (some p))) (w.drewN n) hf ⟨_, _, rfl⟩ (below_dn w n))
    clear h hh hnl hn hE h40 hf
    go_enter Tryz.func79, Tryz.ntmps79
    go_wp2
    go_quiet (fail)
    go_wp2
    first | go_ret | skip
    first | exact HF.out | exact HF2.out _

theorem hk_own {L : List ByteArray} {r c : Nat} {w' : World} {g B : Nat} (hr : r ≤ 1000) (hc : c ≤ 1000) (hrc : r + c ≤ L.length + 1) (hB : B ≤ g)
    (h1 : VArr 25 w' g ((List.range r).map (fun j => slV (g + 1 + j) c))) (h2 : ∀ j, j < r → VArr 9 w' (g + 1 + j) (rowT L c j)) :
    OwSS w' B (slV g r) ((List.range r).map fun i => (L.drop i).take c) := by
  refine ⟨(List.range r).map (fun j => slV (g + 1 + j) c), ?_, by simp, ?_, ?_⟩
  · exact h1.ownV (fun v hv => by obtain ⟨j, _, rfl⟩ := List.mem_map.1 hv; exact ⟨_, _, _, rfl⟩) B r (by simp) hB (by omega)
  · intro i x M hx hM
    have hi : i < r := by have := (List.getElem?_eq_some_iff.1 hx).1; simpa using this
    rw [List.getElem?_map, List.getElem?_range hi] at hx hM
    simp at hx hM
    subst hx; subst hM
    exact TArr.own (L := (L.drop i).take c) (h2 i hi) B c (by simp; omega) (by omega) (by omega)
  · intro i j x y q hij hx hy hq
    have hi : i < r := by have := (List.getElem?_eq_some_iff.1 hx).1; simpa using this
    have hj : j < r := by have := (List.getElem?_eq_some_iff.1 hy).1; simpa using this
    rw [List.getElem?_map, List.getElem?_range hi] at hx
    rw [List.getElem?_map, List.getElem?_range hj] at hy
    simp at hx hy
    subst hx; subst hy
    simp [slV, Value.ownBlock] at hq ⊢
    omega

set_option maxRecDepth 100000 in
set_option maxHeartbeats 2000000 in
theorem impl_hankel (v : Value) (L : List ByteArray) (r c : Int) (w : World) (hE : Env w) (h : TxL w v L) (hn : L.length ≤ 1048576) (hr0 : -9223372036854775807 - 1 ≤ r) (hr1 : r ≤ 9223372036854775807) (hc0 : -9223372036854775807 - 1 ≤ c) (hc1 : c ≤ 9223372036854775807) (R : Ending → World → Prop)
    (hR : ∀ v' w', OwSS w' w.heap.size v' (hkL L r c) → Below w.heap.size w w' → R (.returned (.tuple #[v', .bool (hkB L r c)])) w') :
    Calls Tryz.prog 32 #[v, .int .i64 r, .int .i64 c] w R := by
  have HR := Lib.hid hR; clear hR
  have HE := Lib.hid hE
  obtain ⟨ao, n, cap, rfl, hnl, _, hh⟩ := h.open
  have HH := Lib.hid hh
  have HN := Lib.hid hnl
  have HNN := Lib.hid hn
  have hnn : n ≤ 1048576 := by omega
  have HFAIL : Hid (∀ w', hkB L r c = false → Below w.heap.size w w' → R (.returned (.tuple #[.slice none 0 0, .bool false])) w') := Lib.hid (fun w' hf hb => by
    have := HR.out (.slice none 0 0) w' (by rw [hkL_false hf]; exact OwSS.nil _ _) hb
    rw [hf] at this; exact this)
  clear h hh hnl hn hE
  go_enter Tryz.func32, Tryz.ntmps32
  go_wp2_with fail
  refine termlist_any _ L _ HE.out HH.out HNN.out _ ?_ ?_
  · intro v1 w1 ht hv1 hb1
    obtain ⟨a9, n9, c9, rfl⟩ := hv1
    have HB1 := Lib.hid hb1
    have HT := Lib.hid ht
    clear hb1 ht
    dsimp only
    by_cases hok : 1 ≤ r ∧ r ≤ 20 ∧ 1 ≤ c ∧ c ≤ 20 ∧ r + c - 1 ≤ (L.length : Int)
    · have HK : Hid (hkB L r c = true) := Lib.hid (by unfold hkB; rw [HT.out, decide_eq_true hok]; rfl)
      obtain ⟨k1, k2, k3, k4, k5⟩ := hok
      obtain ⟨r', rfl⟩ : ∃ r' : Nat, r = (r' : Int) := ⟨r.toNat, by omega⟩
      obtain ⟨c', rfl⟩ : ∃ c' : Nat, c = (c' : Int) := ⟨c.toNat, by omega⟩
      rw [← HN.out] at k5
      have e1 : ¬ ((r' : Int) < 1) := by omega
      have e2 : ¬ ((20 : Int) < (r' : Int)) := by omega
      have e3 : ¬ ((c' : Int) < 1) := by omega
      have e4 : ¬ ((20 : Int) < (c' : Int)) := by omega
      have w1' : IntKind.i64.wrap ((r' : Int) + (c' : Int)) = (r' : Int) + (c' : Int) := by rw [IntWalk.i64_in _ (by omega)]
      have w2' : IntKind.i64.wrap ((r' : Int) + (c' : Int) - 1) = (r' : Int) + (c' : Int) - 1 := by rw [IntWalk.i64_in _ (by omega)]
      have w3' : IntKind.i64.wrap (r' : Int) = (r' : Int) := by rw [IntWalk.i64_in _ (by omega)]
      have w4' : IntKind.i64.wrap (c' : Int) = (c' : Int) := by rw [IntWalk.i64_in _ (by omega)]
      have e5 : ¬ ((n : Int) < (r' : Int) + (c' : Int) - 1) := by omega
      have HA := Lib.hid (show r' ≤ 1000 ∧ c' ≤ 1000 ∧ 0 < c' ∧ r' + c' ≤ n + 1 by omega)
      clear k1 k2 k3 k4 k5
      go_wp2_with fail
      refine tableH_any _ L r' c' w1 (HH.out.later HB1.out (Nat.le_refl _)) (by have h9 := HT.out; rw [Bool.and_eq_true] at h9; have := of_decide_eq_true h9.1; omega) HA.out.1 HA.out.2.1 HA.out.2.2.1 (by have := HN.out; have := HA.out.2.2.2; omega) _ ?_
      intro w2 h1 h2 hb2
      have HF := Lib.hid (HR.out (slV w1.heap.size r') w2 (by
        rw [hkL_true HK.out]
        exact hk_own HA.out.1 HA.out.2.1 (by have := HN.out; have := HA.out.2.2.2; omega) HB1.out.size h1 h2) (HB1.out.trans (hb2.mono HB1.out.size)))
      rw [HK.out] at HF
      clear h1 h2 hb2
      unfold slV at HF ⊢
      dsimp only
      go_wp2
      first | go_ret | skip
      exact HF.out
    · have HF : Hid (hkB L r c = false) := Lib.hid (by unfold hkB; rw [decide_eq_false hok, Bool.and_false])
      have HFF := Lib.hid (HFAIL.out w1 HF.out HB1.out)
      rw [← HN.out] at hok
      by_cases e1 : r < 1
      · clear hok
        go_wp2
        first | go_ret | skip
        exact HFF.out
      · by_cases e2 : 20 < r
        · clear hok
          go_wp2
          first | go_ret | skip
          exact HFF.out
        · by_cases e3 : c < 1
          · clear hok
            go_wp2
            first | go_ret | skip
            exact HFF.out
          · by_cases e4 : 20 < c
            · clear hok
              go_wp2
              first | go_ret | skip
              exact HFF.out
            · have w1' : IntKind.i64.wrap (r + c) = r + c := by rw [IntWalk.i64_in _ (by omega)]
              have w2' : IntKind.i64.wrap (r + c - 1) = r + c - 1 := by rw [IntWalk.i64_in _ (by omega)]
              have w3' : IntKind.i64.wrap (n : Int) = (n : Int) := by rw [IntWalk.i64_in _ (by omega)]
              have e5 : (n : Int) < r + c - 1 := by omega
              clear hok
              go_wp2
              first | go_ret | skip
              exact HFF.out
  · intro e w1 hf he hb1
    obtain ⟨t, p, rfl⟩ := he
    have HFF := Lib.hid (HFAIL.out w1 (by unfold hkB; rw [hf]; rfl) hb1)
    clear hf hb1
    dsimp only
    go_wp2
    first | go_ret | skip
    exact HFF.out
end Go.Proofs.YtpblpdcdhgjecaaGreatDoor

namespace Go.Proofs.YtpblpdcdhgjecaaGreatDoor
open Go Go.RowKit

set_option maxRecDepth 100000 in
theorem in_any (n low high : Int) (w : World) (R : Ending → World → Prop) (hR : R (.returned (.bool (decide (low ≤ n ∧ n ≤ high)))) w) :
    Calls Tryz.prog 128 #[.int .i64 n, .int .i64 low, .int .i64 high] w R := by
  have HR := Lib.hid hR; clear hR
  by_cases h1 : low ≤ n
  · by_cases h2 : n ≤ high
    · rw [decide_eq_true ⟨h1, h2⟩] at HR
      go_enter Tryz.func128, Tryz.ntmps128
      go_wp2
      first | go_ret | skip
      exact HR.out
    · rw [decide_eq_false (fun h => h2 h.2)] at HR
      go_enter Tryz.func128, Tryz.ntmps128
      go_wp2
      first | go_ret | skip
      exact HR.out
  · rw [decide_eq_false (fun h => h1 h.1)] at HR
    go_enter Tryz.func128, Tryz.ntmps128
    go_wp2
    first | go_ret | skip
    exact HR.out

end Go.Proofs.YtpblpdcdhgjecaaGreatDoor

namespace Go.Proofs.YtpblpdcdhgjecaaGreatDoor
open Go Go.RowKit

set_option maxRecDepth 100000 in
set_option maxHeartbeats 1000000 in
theorem l03list_any (v : Value) (L : List ByteArray) (w : World) (h : TxL w v L) (hn : L.length ≤ 1048576) (hs : ∀ s ∈ L, s.size ≤ 1048576) (R : Ending → World → Prop)
    (hR : ∀ w', Below w.heap.size w w' → R (.returned (.bool (decide (L.length ≤ 40) && L.all isNum))) w') :
    Calls Tryz.prog 77 #[v] w R := by
  have HR := Lib.hid hR; clear hR
  obtain ⟨ao, n, cap, rfl, hnl, hc, hh⟩ := h.open
  have HH := Lib.hid hh
  have HN := Lib.hid hnl
  have HS := Lib.hid hs
  have HNN := Lib.hid hn
  clear h hh hs hn
  by_cases h40 : n ≤ 40
  · have e1 : ((n : Int) ≤ 40) := by omega
    rw [decide_eq_true (show L.length ≤ 40 by omega), Bool.true_and] at HR
    clear h40 hnl hc
    go_enter Tryz.func77, Tryz.ntmps77
    go_wp2_with fail
    refine all_any _ L _ HH.out HNN.out HS.out _ ?_
    intro w1 hb1
    obtain ⟨x, hx⟩ : ∃ x, x = L.all isNum := ⟨_, rfl⟩
    rw [← hx] at HR ⊢
    have HB := Lib.hid hb1
    clear hb1 hx
    dsimp only
    go_wp2
    first | go_ret | skip
    exact HR.out _ HB.out
  · have e1 : ¬ ((n : Int) ≤ 40) := by omega
    rw [decide_eq_false (show ¬ L.length ≤ 40 by omega), Bool.false_and] at HR
    clear h40 hnl hc
    go_enter Tryz.func77, Tryz.ntmps77
    go_wp2
    first | go_ret | skip
    exact HR.out _ (Below.refl _ _)

set_option maxRecDepth 100000 in
set_option maxHeartbeats 1000000 in
theorem l03size_any (n : Int) (w : World) (R : Ending → World → Prop) (hR : R (.returned (.bool (decide (1 ≤ n ∧ n ≤ 20)))) w) :
    Calls Tryz.prog 78 #[.int .i64 n] w R := by
  have HR := Lib.hid hR; clear hR
  go_enter Tryz.func78, Tryz.ntmps78
  go_wp2_with fail
  refine in_any n 1 20 w _ ?_
  obtain ⟨x, hx⟩ : ∃ x, x = decide (1 ≤ n ∧ n ≤ 20) := ⟨_, rfl⟩
  rw [← hx] at HR ⊢
  clear hx
  dsimp only
  go_wp2
  first | go_ret | skip
  exact HR.out

theorem hkB_not {L : List ByteArray} {r c : Int} (h : ¬ (1 ≤ r ∧ r ≤ 20 ∧ 1 ≤ c ∧ c ≤ 20 ∧ r + c - 1 ≤ (L.length : Int))) : hkB L r c = false := by unfold hkB; rw [decide_eq_false h, Bool.and_false]

theorem TxL.sub {w : World} {b off n cap : Nat} {L : List ByteArray} (h : TxL w (.slice (some ⟨b, off, none⟩) n cap) L) (hn : n = L.length) (hcap : n ≤ cap) {i c : Nat} (hc0 : 0 < c) (hic : i + c ≤ n) : TxL w (.slice (some ⟨b, off + i, none⟩) c (cap - i)) ((L.drop i).take c) := by
  have hb : b < w.heap.size := by
    obtain ⟨b', off', h1, h2, _⟩ := TxL.at h 0 L[0] (List.getElem?_eq_getElem (by omega))
    cases h1; exact h2
  refine TxL.mk (by simp; omega) (by omega) hb (fun j s hj => ?_)
  have hjc : j < c := by have := (List.getElem?_eq_some_iff.1 hj).1; simp at this; omega
  rw [List.getElem?_take_of_lt hjc, List.getElem?_drop] at hj
  obtain ⟨b', off', h1, h2, h3⟩ := TxL.at h (i + j) s hj
  cases h1
  rw [← Nat.add_assoc] at h3
  exact h3

def HkRel (w : World) (L : List ByteArray) (c r : Nat) (v iv : Value) (wr : World) : Prop :=
  ∃ i : Nat, iv = .int .i64 (i : Int) ∧ i ≤ r ∧ OwSS wr w.heap.size v ((List.range i).map fun j => (L.drop j).take c) ∧ Below w.heap.size w wr

set_option maxRecDepth 100000 in
set_option maxHeartbeats 4000000 in
theorem spec_hankel (v : Value) (L : List ByteArray) (r c : Int) (w : World) (h : TxL w v L) (hn : L.length ≤ 1048576) (hs : ∀ s ∈ L, s.size ≤ 1048576) (hr0 : -9223372036854775807 - 1 ≤ r) (hr1 : r ≤ 9223372036854775807) (hc0 : -9223372036854775807 - 1 ≤ c) (hc1 : c ≤ 9223372036854775807) (R : Ending → World → Prop)
    (hR : ∀ v' w', OwSS w' w.heap.size v' (hkL L r c) → Below w.heap.size w w' → R (.returned (.tuple #[v', .bool (hkB L r c)])) w') :
    Calls Tryz.prog 31 #[v, .int .i64 r, .int .i64 c] w R := by
  have HR := Lib.hid hR; clear hR
  obtain ⟨ao, n, cap, rfl, hnl, hcap, hh⟩ := h.open
  have HH := Lib.hid hh
  have HN := Lib.hid hnl
  have HNN := Lib.hid hn
  have HS := Lib.hid hs
  have HCAP := Lib.hid hcap
  have hnn : n ≤ 1048576 := by omega
  have HFAIL : Hid (∀ w', hkB L r c = false → Below w.heap.size w w' → R (.returned (.tuple #[.slice none 0 0, .bool false])) w') := Lib.hid (fun w' hf hb => by
    have := HR.out (.slice none 0 0) w' (by rw [hkL_false hf]; exact OwSS.nil _ _) hb
    rw [hf] at this; exact this)
  clear h hh hnl hn hs
  go_enter Tryz.func31, Tryz.ntmps31
  go_wp2_with fail
  refine l03list_any _ L _ HH.out HNN.out HS.out _ ?_
  intro w1 hb1
  have HB1 := Lib.hid hb1
  cases ht : (decide (L.length ≤ 40) && L.all isNum) with
  | false =>
    have HFF := Lib.hid (HFAIL.out w1 (by unfold hkB; rw [ht]; rfl) HB1.out)
    clear ht hb1
    dsimp only
    go_wp2
    first | go_ret | skip
    exact HFF.out
  | true =>
    have HT := Lib.hid ht
    clear ht hb1
    dsimp only
    go_wp2_with fail
    refine l03size_any r w1 _ ?_
    by_cases k1 : 1 ≤ r ∧ r ≤ 20
    · rw [decide_eq_true k1]
      dsimp only
      go_wp2_with fail
      refine l03size_any c w1 _ ?_
      by_cases k2 : 1 ≤ c ∧ c ≤ 20
      · rw [decide_eq_true k2]
        dsimp only
        have w1' : IntKind.i64.wrap (r + c) = r + c := by rw [IntWalk.i64_in _ (by omega)]
        have w2' : IntKind.i64.wrap (r + c - 1) = r + c - 1 := by rw [IntWalk.i64_in _ (by omega)]
        have w3' : IntKind.i64.wrap (n : Int) = (n : Int) := by rw [IntWalk.i64_in _ (by omega)]
        by_cases k3 : r + c - 1 ≤ (n : Int)
        · have e5 : ¬ ((n : Int) < r + c - 1) := by omega
          have HK : Hid (hkB L r c = true) := Lib.hid (by unfold hkB; rw [HT.out, decide_eq_true ⟨k1.1, k1.2, k2.1, k2.2, by rw [← HN.out]; exact k3⟩]; rfl)
          obtain ⟨r', rfl⟩ : ∃ r' : Nat, r = (r' : Int) := ⟨r.toNat, by omega⟩
          obtain ⟨c', rfl⟩ : ∃ c' : Nat, c = (c' : Int) := ⟨c.toNat, by omega⟩
          have HA := Lib.hid (show r' ≤ 20 ∧ c' ≤ 20 ∧ 0 < c' ∧ r' + c' ≤ n + 1 by omega)
          obtain ⟨b, off, rfl⟩ : ∃ b off, ao = some ⟨b, off, none⟩ := by
            have h0 : 0 < L.length := by have := HN.out; omega
            obtain ⟨b, off, h1, _⟩ := TxL.at HH.out 0 L[0] (List.getElem?_eq_getElem h0)
            exact ⟨b, off, h1⟩
          clear k1 k2 k3
          go_wp2
          go_loopw [8, 9] (fun v iv wr => HkRel w L c' r' v iv wr) (fun _ iv _ => r' - (intOf iv).toNat)
          case atStart => exact ⟨0, rfl, Nat.zero_le _, ⟨[], OwE.lit _ _ _ HB1.out.size, rfl, fun i x L h => by simp at h, fun i j x y g _ h => by simp at h⟩, HB1.out.alloc HB1.out.size _⟩
          case round =>
            obtain ⟨i, rfl, hi, hown, hbel⟩ := hrel
            have HB := Lib.hid hbel
            have HOWN := Lib.hid hown
            obtain ⟨a3, n3, c3, rfl, hn3⟩ := hown.shape
            have hn3' : n3 = i := by rw [hn3]; simp
            subst hn3'
            clear hown hn3
            by_cases hir : n3 = r'
            · subst hir
              have hk0 : ¬ ((n3 : Int) < (n3 : Int)) := by omega
              have HF := Lib.hid (HR.out _ wr (by rw [hkL_true HK.out]; exact HOWN.out) HB.out)
              rw [HK.out] at HF
              clear hbel
              go_wp2
              first | go_ret | skip
              exact HF.out
            · have hil : n3 < r' := by omega
              obtain ⟨i, hi9⟩ : ∃ i, i = n3 := ⟨_, rfl⟩
              have HI9 := Lib.hid hi9
              have hk0 : (0 : Int) ≤ (n3 : Int) := by omega
              have hk1 : (n3 : Int) < (r' : Int) := by omega
              have hk2 : (0 : Int) ≤ (c' : Int) := by omega
              have hA := HA.out
              have w5 : IntKind.i64.wrap ((n3 : Int) + (c' : Int)) = ((n3 + c' : Nat) : Int) := by rw [IntWalk.i64_in _ (by omega)]; omega
              have w6 : IntKind.i64.wrap ((n3 : Int) + 1) = ((n3 + 1 : Nat) : Int) := by rw [IntWalk.i64_in _ (by omega)]; omega
              obtain ⟨z, hz⟩ : ∃ z, z = n3 + c' := ⟨_, rfl⟩
              rw [← hz] at w5
              have q0 : (0 : Int) ≤ (z : Int) := by omega
              have q1 : (n3 : Int) ≤ (z : Int) := by omega
              have q2 : (z : Int) ≤ (n : Int) := by omega
              have q3 : (z : Int) ≤ (cap : Int) := by omega
              have q4 : (n3 : Int) < (cap : Int) := by omega
              have q5 : ¬ cap = n3 := by omega
              have q6 : ¬ n3 = cap := by omega
              have q7 : ¬ cap - n3 = 0 := by omega
              have HIL := Lib.hid hil
              have HZ := Lib.hid hz
              have hzc : z - n3 = c' := by omega
              have HSUB : Hid (TxL wr (.slice (some ⟨b, off + n3, none⟩) (z - n3) (cap - n3)) ((L.drop n3).take c')) := Lib.hid (by
                rw [hzc]; exact TxL.later (TxL.sub HH.out HN.out HCAP.out (by omega) (by omega)) hbel (Nat.le_refl _))
              have HML : Hid (((L.drop n3).take c').length ≤ 100000000) := Lib.hid (by rw [List.length_take]; omega)
              clear hir hbel hi9 hA hz hzc
              go_wp2_with (at_builtin; go_must (refine wpList_spread0 elemT (by omega) rfl (.tmp 39) (.tmp 45) 25 rfl 9 16 (.string .empty) Tryz.underlying25 info_str rfl zeroS_ints (by omega) wr.heap.size wr.heap.size rfl (by show (wr.heap.push _)[_]? = _; simp) (Nat.le_refl _) (by simp) _ rfl _ (TxL.later HSUB.out ((Below.refl _ _).alloc (Nat.le_refl _) _) (Nat.le_refl _)) HML.out ?_))
              intro x4 m4 y4 w4 hv4 hm4 hb4
              have HV4 := Lib.hid hv4
              have HB4 : Hid (Below wr.heap.size wr w4) := Lib.hid (((Below.refl wr.heap.size wr).alloc (Nat.le_refl _) _).trans (hb4.mono (by simp)))
              have HBW4 := Lib.hid (HB.out.trans (HB4.out.mono HB.out.size))
              obtain ⟨vs, p1, p2, p3, p4⟩ := HOWN.out
              have HVL : Hid (vs.length = n3 ∧ vs.length ≤ 100000000) := Lib.hid (by rw [p2]; simp; omega)
              have HOLD : Hid (∀ (j : Nat) (x : Value) (M : List ByteArray), vs[j]? = some x → ((List.range n3).map fun j => (L.drop j).take c')[j]? = some M → OwE 1 ET 9 wr w.heap.size x M) := Lib.hid p3
              have HV3 := Lib.hid (p1.later elemV HB4.out (Nat.le_refl _))
              have HP4 := Lib.hid p4
              have HB4s := HBW4.out.size
              clear hv4 hm4 hb4 p1 p2 p3 p4
              go_wp2_with (at_builtin; go_must (refine wpList_pushE elemV (by omega) rfl (.tmp 38) (.tmp 47) 37 rfl 25 24 (.slice none 0 0) Tryz.underlying37 info_sl rfl (by intro u hu; simp [Value.cells] at hu; subst hu; rfl) (by omega) w.heap.size vs (OwE.later elemV HV3.out ((Below.refl _ _).alloc (Nat.le_refl _) _) (Nat.le_refl _)) HVL.out.2 (by simp; omega) w4.heap.size [.slice x4 m4 y4] (.slice x4 m4 y4) rfl ⟨_, _, _, rfl, rfl⟩ (cells_alloc _ #[.slice x4 m4 y4] _ _ rfl) ?_))
              intro x5 m5 y5 w5 hv5 hm5 hgr hb5
              have HOW5 : Hid (OwSS w5 w.heap.size (.slice x5 m5 y5) ((List.range (n3 + 1)).map fun j => (L.drop j).take c')) := Lib.hid (by
                obtain ⟨g1, g2, g3, g4, g5⟩ := hgr
                have hbo : ButO (Value.slice a3 n3 c3).ownBlock (w4.alloc (.cells #[.slice x4 m4 y4] 25)) w5 := ⟨g1, g2, g3, g4, fun k hk ho => g5 k hk (fun e => ho e.symm)⟩
                have hal : Below w4.heap.size w4 (w4.alloc (.cells #[.slice x4 m4 y4] 25)) := (Below.refl _ _).alloc (Nat.le_refl _) _
                have hV := HV3.out.later elemV hal (Nat.le_refl _)
                have keep : ∀ (B : Nat) (x : Value) (M : List ByteArray), OwE 1 ET 9 w4 B x M → OwE 1 ET 9 w5 B x M := fun B x M hx =>
                  (hx.later elemT hal (Nat.le_refl _)).butO hbo (fun g hg e => hV.ne_own (hx.later elemT hal (Nat.le_refl _)) (by decide) g e hg)
                refine ⟨vs ++ [.slice x4 m4 y4], hv5, by rw [List.length_append, HVL.out.1]; simp, ?_, ?_⟩
                · intro j x M hx hM
                  rcases get_snoc hx with ⟨q1, q2⟩ | ⟨rfl, rfl⟩
                  · have hj : j < n3 := by have := HVL.out.1; omega
                    have hM2 : ((List.range n3).map fun j => (L.drop j).take c')[j]? = some M := by
                      rw [List.getElem?_map, List.getElem?_range (by omega)] at hM
                      rw [List.getElem?_map, List.getElem?_range hj]; exact hM
                    exact keep _ x M ((HOLD.out j x M q2 hM2).later elemT HB4.out (Nat.le_refl _))
                  · rw [HVL.out.1, List.getElem?_map, List.getElem?_range (by omega)] at hM
                    simp at hM
                    subst hM
                    exact (keep _ _ _ HV4.out).mono HB.out.size
                · intro j k x y g hjk hx hy hg
                  rcases get_snoc hx with ⟨q1, q2⟩ | ⟨q1, rfl⟩ <;> rcases get_snoc hy with ⟨r1, r2⟩ | ⟨r1, rfl⟩
                  · exact HP4.out j k x y g hjk q2 r2 hg
                  · intro e
                    have hj : j < n3 := by have := HVL.out.1; omega
                    have h1 := (HOLD.out j x _ q2 (by rw [List.getElem?_map, List.getElem?_range hj]; rfl)).own_lt g hg
                    have h2 := HV4.out.base g e
                    omega
                  · intro e
                    have hk : k < n3 := by have := HVL.out.1; omega
                    have h1 := (HOLD.out k y _ r2 (by rw [List.getElem?_map, List.getElem?_range hk]; rfl)).own_lt g e
                    have h2 := HV4.out.base g hg
                    omega
                  · omega)
              have HB5 : Hid (Below w.heap.size w w5) := Lib.hid ((HBW4.out.alloc HBW4.out.size _).trans hb5)
              clear hv5 hm5 hgr hb5
              go_wp2
              go_roundw
              case rel => exact ⟨n3 + 1, by first | rfl | go_num, HIL.out, HOW5.out, HB5.out⟩
              case measure => simp [intOf]; have := HIL.out; omega
        · have e5 : (n : Int) < r + c - 1 := by omega
          have HFF := Lib.hid (HFAIL.out w1 (hkB_not (fun h => k3 (by rw [HN.out]; exact h.2.2.2.2))) HB1.out)
          clear k1 k2 k3
          go_wp2
          first | go_ret | skip
          exact HFF.out
      · rw [decide_eq_false k2]
        have HFF := Lib.hid (HFAIL.out w1 (hkB_not (fun h => k2 ⟨h.2.2.1, h.2.2.2.1⟩)) HB1.out)
        dsimp only
        clear k1 k2
        go_wp2
        first | go_ret | skip
        exact HFF.out
    · rw [decide_eq_false k1]
      have HFF := Lib.hid (HFAIL.out w1 (hkB_not (fun h => k1 ⟨h.1, h.2.1⟩)) HB1.out)
      dsimp only
      clear k1
      go_wp2
      first | go_ret | skip
      exact HFF.out
end Go.Proofs.YtpblpdcdhgjecaaGreatDoor

namespace Go.Proofs.YtpblpdcdhgjecaaGreatDoor
open Go Go.RowKit

theorem hk_small (L : List ByteArray) (r c : Int) : (hkL L r c).length ≤ 20 ∧ (∀ M ∈ hkL L r c, M.length ≤ 20) ∧ ((hkL L r c).map List.length).sum ≤ 400 := by
  cases h : hkB L r c
  · rw [hkL_false h]; simp
  · rw [hkL_true h]
    unfold hkB at h
    rw [Bool.and_eq_true] at h
    obtain ⟨k1, k2, k3, k4, k5⟩ := of_decide_eq_true h.2
    have h1 : ((List.range r.toNat).map fun i => (L.drop i).take c.toNat).length ≤ 20 := by simp; omega
    have h2 : ∀ M ∈ (List.range r.toNat).map fun i => (L.drop i).take c.toNat, M.length ≤ 20 := by
      intro M hM
      obtain ⟨i, _, rfl⟩ := List.mem_map.1 hM
      rw [List.length_take]; omega
    refine ⟨h1, h2, ?_⟩
    have key : ∀ (X : List (List ByteArray)), (∀ M ∈ X, M.length ≤ 20) → (X.map List.length).sum ≤ X.length * 20 := by
      intro X
      induction X with
      | nil => simp
      | cons A X ih =>
        intro hX
        have h3 := ih (fun M hM => hX M (List.mem_cons_of_mem _ hM))
        have h4 := hX A List.mem_cons_self
        simp only [List.map_cons, List.sum_cons, List.length_cons]
        omega
    have := key _ h2
    omega

set_option maxRecDepth 100000 in
set_option maxHeartbeats 4000000 in
theorem law_hankelOf (v : Value) (L : List ByteArray) (r c : Int) (w : World) (hE : Env w) (h : TxL w v L) (hn : L.length ≤ maxLen) (hs : ∀ s ∈ L, s.size ≤ maxLen) (hr0 : -9223372036854775807 - 1 ≤ r) (hr1 : r ≤ 9223372036854775807) (hc0 : -9223372036854775807 - 1 ≤ c) (hc1 : c ≤ 9223372036854775807) (R : Ending → World → Prop)
    (hR : ∀ w', Below w.heap.size w w' → R (.returned (.bool true)) w') :
    Calls Tryz.prog 9 #[v, .int .i64 r, .int .i64 c] w R := by
  have HR := Lib.hid hR; clear hR
  have HE := Lib.hid hE; clear hE
  have HI := Lib.hid (And.intro hr0 (And.intro hr1 (And.intro hc0 hc1)))
  obtain ⟨ao, n, cap, rfl, hh⟩ := h.op
  have HH := Lib.hid hh
  have HN := Lib.hid hn
  have HS := Lib.hid hs
  clear h hh hn hs hr0 hr1 hc0 hc1
  go_enter Tryz.func9, Tryz.ntmps9
  go_wp2_with fail
  refine szT_any _ L _ 1048576 HH.out HN.out HS.out (by omega) _ ?_ ?_
  · intro ht
    obtain ⟨h1, h2⟩ := sizes_each ht
    have H1 := Lib.hid h1
    have H2 := Lib.hid h2
    obtain ⟨m, hm⟩ : ∃ m : Nat, m = 1048576 - tot L := ⟨_, rfl⟩
    rw [← hm]
    have hm0 : ¬ ((m : Int) < 0) := by omega
    have HSM := Lib.hid (hk_small L r c)
    obtain ⟨bq, hbq⟩ : ∃ bq, bq = hkB L r c := ⟨_, rfl⟩
    have HBQ := Lib.hid hbq
    have cbq : (bq != bq) = false := by cases bq <;> rfl
    clear hm ht h1 h2 hbq
    dsimp only
    go_wp2_with fail
    refine toT_any _ L _ HH.out H1.out _ ?_
    intro v1 w1 hv1 hb1
    obtain ⟨a1, n1, c1, rfl, hv1'⟩ := hv1.op
    have HV1 := Lib.hid hv1'
    have HB1 := Lib.hid hb1
    clear hv1 hv1' hb1
    dsimp only
    go_wp2_with fail
    refine spec_hankel _ L r c _ HV1.out H1.out H2.out HI.out.1 HI.out.2.1 HI.out.2.2.1 HI.out.2.2.2 _ ?_
    intro v2 w2 hv2 hb2
    rw [← HBQ.out]
    obtain ⟨a2, n2, c2, rfl, esh⟩ := hv2.shape
    clear esh
    have HW2 := Lib.hid hv2
    have HB2 := Lib.hid (HB1.out.trans (hb2.mono HB1.out.size))
    clear hv2 hb2 HV1
    dsimp only
    go_wp2_with fail
    refine toT_own _ L _ (HH.out.later HB2.out (Nat.le_refl _)) H1.out _ ?_
    intro v3 w3 hv3 hb3
    obtain ⟨a3, n3, c3, rfl, esh⟩ := hv3.shape
    clear esh
    have HX3 := Lib.hid hv3
    have HW3 := Lib.hid (HW2.out.later hb3)
    have HB3 := Lib.hid (HB2.out.trans (hb3.mono HB2.out.size))
    have HZ2 : Hid (w2.heap.size ≤ w3.heap.size ∧ w.heap.size ≤ w2.heap.size) := Lib.hid ⟨hb3.size, HB2.out.size⟩
    have HU3 : Hid (∀ w', Below w2.heap.size w3 w' → OwSS w' w1.heap.size (.slice a2 n2 c2) (hkL L r c)) := Lib.hid (fun w' hb => HW2.out.under (Nat.le_refl _) hb3 hb)
    clear hv3 hb3 HW2
    dsimp only
    go_wp2_with fail
    refine impl_hankel _ L r c _ (HE.out.later HB3.out (Nat.le_refl _)) HX3.out.tx H1.out HI.out.1 HI.out.2.1 HI.out.2.2.1 HI.out.2.2.2 _ ?_
    intro v4 w4 hv4 hb4
    rw [← HBQ.out]
    obtain ⟨a4, n4, c4, rfl, esh⟩ := hv4.shape
    clear esh
    have HG4 := Lib.hid hv4
    have HX4 := Lib.hid (HX3.out.later elemT hb4 (Nat.le_refl _))
    have HXL : Hid (∀ g, (Value.slice a3 n3 c3).ownBlock = some g → g < w3.heap.size) := Lib.hid HX3.out.own_lt
    have HW4 := Lib.hid (HW3.out.later hb4)
    have HB4 := Lib.hid (HB3.out.trans (hb4.mono HB3.out.size))
    have HD4 : Hid (Below w3.heap.size w3 w4) := Lib.hid hb4
    clear hv4 hb4 HW3 HX3
    dsimp only
    go_wp2_with fail
    refine eqSS_any _ _ (hkL L r c) _ HG4.out.rd HW4.out.rd (by have := HSM.out.1; omega) (fun M hM => by have := HSM.out.2.1 M hM; omega) _ ?_
    intro w5 hb5
    have HG5 := Lib.hid (HG4.out.later hb5)
    have HX5 := Lib.hid (HX4.out.later elemT hb5 (Nat.le_refl _))
    have HB5 := Lib.hid (HB4.out.trans (hb5.mono HB4.out.size))
    have HD5 := Lib.hid (HD4.out.trans (hb5.mono HD4.out.size))
    clear hb5 HG4 HX4 HW4 HB4 HD4
    dsimp only
    go_wp2_with fail
    refine toT_any _ L _ (HH.out.later HB5.out (Nat.le_refl _)) H1.out _ ?_
    intro v6 w6 hv6 hb6
    obtain ⟨a6, n6, c6, rfl, hv6'⟩ := hv6.op
    have HT6 := Lib.hid hv6'
    have HG6 := Lib.hid (HG5.out.later hb6)
    have HX6 := Lib.hid (HX5.out.later elemT hb6 (Nat.le_refl _))
    have HB6 := Lib.hid (HB5.out.trans (hb6.mono HB5.out.size))
    have HD6 := Lib.hid (HD5.out.trans (hb6.mono HD5.out.size))
    clear hv6 hv6' hb6 HG5 HX5 HB5 HD5
    dsimp only
    go_wp2_with fail
    refine eqT_any _ _ L L _ HX6.out.tx HT6.out (by have := H1.out; omega) (by have := H1.out; omega) _ ?_
    intro w7 hb7
    rw [decide_eq_true rfl]
    have HG7 := Lib.hid (HG6.out.later hb7)
    have HX7 := Lib.hid (HX6.out.later elemT hb7 (Nat.le_refl _))
    have HB7 := Lib.hid (HB6.out.trans (hb7.mono HB6.out.size))
    have HD7 := Lib.hid (HD6.out.trans (hb7.mono HD6.out.size))
    clear hb7 HG6 HX6 HB6 HD6 HT6
    dsimp only
    go_wp2_with fail
    refine mark_any _ L 1 w2.heap.size _ HX7.out (by have := H1.out; omega) (by omega) _ ?_
    intro w8 hv8 hb8
    obtain ⟨k0, hk0⟩ : ∃ k0, k0 = 1 + L.length := ⟨_, rfl⟩
    rw [← hk0]
    have d0 : ¬ ((k0 : Int) < 0) := by omega
    have hbel8 : Below w2.heap.size w7 w8 := hb8.below (fun g hg => HX7.out.base g hg) (Nat.le_trans HZ2.out.1 HD7.out.size)
    have HG8 := Lib.hid (HG7.out.butT hb8 (fun g hg => HXL.out g hg))
    have HD8 : Hid (Below w2.heap.size w3 w8) := Lib.hid ((HD7.out.mono HZ2.out.1).trans hbel8)
    have HB8 := Lib.hid (HB7.out.trans (hbel8.mono HZ2.out.2))
    have HZ8 : Hid (w3.heap.size ≤ w8.heap.size) := Lib.hid (Nat.le_trans HD7.out.size hb8.size)
    clear hv8 hb8 hbel8 HG7 HX7 HB7 HD7 hk0
    dsimp only
    go_wp2_with fail
    refine eqSS_any _ _ (hkL L r c) _ HG8.out.rd (HU3.out _ HD8.out).rd (by have := HSM.out.1; omega) (fun M hM => by have := HSM.out.2.1 M hM; omega) _ ?_
    intro w9 hb9
    have HG9 := Lib.hid (HG8.out.later hb9)
    have HB9 := Lib.hid (HB8.out.trans (hb9.mono HB8.out.size))
    have HD9 := Lib.hid (HD8.out.trans (hb9.mono (Nat.le_trans HZ2.out.1 HD8.out.size)))
    have HZ9 : Hid (w3.heap.size ≤ w9.heap.size) := Lib.hid (Nat.le_trans HZ8.out hb9.size)
    clear hb9 HG8 HB8 HD8
    dsimp only
    go_wp2_with fail
    refine markSS_any _ (hkL L r c) 1 w3.heap.size _ HG9.out HZ9.out (by have := HSM.out.1; omega) (by have := HSM.out.2.2; omega) _ ?_
    intro w10 hv10 hb10 hz10
    obtain ⟨k1, hk1⟩ : ∃ k1, k1 = 1 + ((hkL L r c).map List.length).sum := ⟨_, rfl⟩
    have HK1 := Lib.hid hk1
    rw [← hk1]
    have d1 : ¬ ((k1 : Int) < 0) := by omega
    have d2 : ((k1 : Int) != (k1 : Int)) = false := by simp
    have HG10 := Lib.hid hv10.rd
    have HD10 := Lib.hid (HD9.out.trans (hb10.mono HZ2.out.1))
    have HB10 := Lib.hid (HB9.out.trans (hb10.mono (Nat.le_trans HZ2.out.2 HZ2.out.1)))
    clear hv10 hb10 hz10 HG9 HB9 HD9 hk1
    dsimp only
    go_wp2_with fail
    refine heldSS_any _ 1 ((hkL L r c).map List.length) _ HG10.out (by rw [List.length_map]; have := HSM.out.1; omega) (by have := HSM.out.2.2; omega) _ ?_
    intro w11 hb11
    rw [← HK1.out]
    have HG11 := Lib.hid (HG10.out.later hb11)
    have HB11 := Lib.hid (HB10.out.trans (hb11.mono HB10.out.size))
    have HD11 := Lib.hid (HD10.out.trans (hb11.mono (Nat.le_trans HZ2.out.1 HD10.out.size)))
    clear hb11 HG10 HB10 HD10
    dsimp only
    go_wp2_with fail
    refine toT_any _ L _ (HH.out.later HB11.out (Nat.le_refl _)) H1.out _ ?_
    intro v12 w12 hv12 hb12
    obtain ⟨a12, n12, c12, rfl, hv12'⟩ := hv12.op
    have HT12 := Lib.hid hv12'
    have HG12 := Lib.hid (HG11.out.later hb12)
    have HB12 := Lib.hid (HB11.out.trans (hb12.mono HB11.out.size))
    have HD12 := Lib.hid (HD11.out.trans (hb12.mono (Nat.le_trans HZ2.out.1 HD11.out.size)))
    clear hv12 hv12' hb12 HG11 HB11 HD11
    dsimp only
    go_wp2_with fail
    refine impl_hankel _ L r c _ (HE.out.later HB12.out (Nat.le_refl _)) HT12.out H1.out HI.out.1 HI.out.2.1 HI.out.2.2.1 HI.out.2.2.2 _ ?_
    intro v13 w13 hv13 hb13
    rw [← HBQ.out]
    obtain ⟨a13, n13, c13, rfl, esh⟩ := hv13.shape
    clear esh
    have HH13 := Lib.hid hv13
    have HG13 := Lib.hid (HG12.out.later hb13)
    have HB13 := Lib.hid (HB12.out.trans (hb13.mono HB12.out.size))
    have HD13 := Lib.hid (HD12.out.trans (hb13.mono (Nat.le_trans HZ2.out.1 HD12.out.size)))
    clear hv13 hb13 HG12 HB12 HD12 HT12
    dsimp only
    go_wp2_with fail
    refine eqSS_any _ _ (hkL L r c) _ HH13.out.rd (HU3.out _ HD13.out).rd (by have := HSM.out.1; omega) (fun M hM => by have := HSM.out.2.1 M hM; omega) _ ?_
    intro w14 hb14
    have HG14 := Lib.hid (HG13.out.later hb14)
    have HB14 := Lib.hid (HB13.out.trans (hb14.mono HB13.out.size))
    clear hb14 HG13 HB13 HD13 HH13
    dsimp only
    go_wp2_with fail
    refine heldSS_any _ 1 ((hkL L r c).map List.length) _ HG14.out (by rw [List.length_map]; have := HSM.out.1; omega) (by have := HSM.out.2.2; omega) _ ?_
    intro w15 hb15
    rw [← HK1.out]
    have HB15 := Lib.hid (HB14.out.trans (hb15.mono HB14.out.size))
    clear hb15 HG14 HB14
    dsimp only
    go_wp2
    first | go_ret | skip
    exact HR.out _ HB15.out
  · intro ht
    have HF := Lib.hid (HR.out w (Below.refl _ _))
    clear ht
    dsimp only
    go_wp2
    first | go_ret | skip
    exact HF.out
end Go.Proofs.YtpblpdcdhgjecaaGreatDoor
