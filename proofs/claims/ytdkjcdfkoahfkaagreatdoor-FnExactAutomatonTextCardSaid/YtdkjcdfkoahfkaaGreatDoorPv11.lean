/- Contracts of functions of the program and of the model: SS, VArr, OwL, TxO, Spread, AutL, AutA, In, AutS, AddQ, EQ, TextL, NumLen, ZeroQ, TrimS, SumI, TrimM, PolyV, TrimI, Blk, DenAt, PlusD, NegR, NegD. -/
import Derived.Test.YtdkjcdfkoahfkaaGreatDoorPa10
import Derived.Test.YtdkjcdfkoahfkaaGreatDoorProg
import Derived.Deep.RegionLaw
import Derived.Deep.RegionHeld3
set_option linter.all false
set_option linter.unusedVariables false
set_option linter.unusedSimpArgs false
set_option linter.unnecessarySimpa false
set_option linter.deprecated false
namespace Go.Proofs.YtdkjcdfkoahfkaaGreatDoor
open Go Go.RowKit

/-- a slice value as an element -/
def EV (_ : World) (cs : List Value) (x : Value) : Prop := ∃ a n c, x = .slice a n c ∧ cs = [.slice a n c]
theorem elemV : Elem 1 EV where
  len := by rintro w cs x ⟨a, n, c, _, rfl⟩; rfl
  ints := by rintro w cs x ⟨a, n, c, _, rfl⟩ u hu; simp at hu; subst hu; rfl
  one := by rintro w cs x ⟨a, n, c, _, rfl⟩ u hu; simp at hu; subst hu; rfl
  keep := by intro w w' g cs x h _ _; exact h
theorem SlE.atV {w : World} {ao : Option Addr} {n cap : Nat} {vs : List Value} (h : SlE 1 EV w (.slice ao n cap) vs) (i : Nat) (x : Value) (hi : vs[i]? = some x) :
    ∃ b off a m c, ao = some ⟨b, off, none⟩ ∧ b < w.heap.size ∧ x = .slice a m c ∧ w.cell? ⟨b, off + i, none⟩ = some (.slice a m c) := by
  obtain ⟨b, off, cs, h1, h2, h3, a, m, c, rfl, rfl⟩ := SlE.at h i x hi
  refine ⟨b, off, a, m, c, h1, h2, rfl, ?_⟩
  have := h3 0 _ rfl
  rwa [Nat.mul_one, Nat.add_zero] at this

/-- a value reads as a list of lists of texts -/
def RdSS (w : World) (v : Value) (LL : List (List ByteArray)) : Prop :=
  ∃ vs : List Value, SlE 1 EV w v vs ∧ vs.length = LL.length ∧ ∀ (i : Nat) (x : Value) (L : List ByteArray), vs[i]? = some x → LL[i]? = some L → TxL w x L
theorem RdSS.later {w w' : World} {v : Value} {LL : List (List ByteArray)} (h : RdSS w v LL) (hb : Below w.heap.size w w') : RdSS w' v LL := by
  obtain ⟨vs, h1, h2, h3⟩ := h
  exact ⟨vs, h1.later elemV hb (Nat.le_refl _), h2, fun i x L hx hL => (h3 i x L hx hL).later hb (Nat.le_refl _)⟩
theorem RdSS.open {w : World} {v : Value} {LL : List (List ByteArray)} (h : RdSS w v LL) : ∃ ao n cap, v = .slice ao n cap ∧ n = LL.length ∧ RdSS w (.slice ao n cap) LL := by
  obtain ⟨vs, h1, h2, h3⟩ := h
  obtain ⟨ao, n, cap, rfl, hn, _, h4⟩ := h1.open
  exact ⟨ao, n, cap, rfl, hn.trans h2, vs, h4, h2, h3⟩
theorem RdSS.at {w : World} {ao : Option Addr} {n cap : Nat} {LL : List (List ByteArray)} (h : RdSS w (.slice ao n cap) LL) (i : Nat) (L : List ByteArray) (hi : LL[i]? = some L) :
    ∃ b off a m c, ao = some ⟨b, off, none⟩ ∧ b < w.heap.size ∧ w.cell? ⟨b, off + i, none⟩ = some (.slice a m c) ∧ TxL w (.slice a m c) L := by
  obtain ⟨vs, h1, h2, h3⟩ := h
  obtain ⟨x, hx⟩ : ∃ x, vs[i]? = some x := ⟨_, List.getElem?_eq_getElem (by rw [h2]; exact (List.getElem?_eq_some_iff.1 hi).1)⟩
  obtain ⟨b, off, a, m, c, e1, e2, rfl, e3⟩ := h1.atV i x hx
  exact ⟨b, off, a, m, c, e1, e2, e3, h3 i _ L hx hi⟩

set_option maxRecDepth 100000 in
set_option maxHeartbeats 2000000 in
theorem eqSS_any (v1 v2 : Value) (LL : List (List ByteArray)) (w : World) (h1 : RdSS w v1 LL) (h2 : RdSS w v2 LL) (hn : LL.length ≤ 1000000000) (hs : ∀ L ∈ LL, L.length ≤ 1000000000) (R : Ending → World → Prop)
    (hR : ∀ w', Below w.heap.size w w' → R (.returned (.bool true)) w') :
    Calls Tryz.prog 166 #[v1, v2] w R := by
  have HR := Lib.hid hR; clear hR
  obtain ⟨a1, n, c1, rfl, e1, k1⟩ := h1.open
  obtain ⟨a2, n2, c2, rfl, e2, k2⟩ := h2.open
  obtain rfl : n = n2 := by omega
  have H1 := Lib.hid k1
  have H2 := Lib.hid k2
  have HN := Lib.hid e1
  have HS := Lib.hid hs
  have hnn : n ≤ 1000000000 := by omega
  have e0 : ((n : Int) != (n : Int)) = false := by simp
  clear h1 h2 k1 k2 e1 e2 hs hn
  go_enter Tryz.func166, Tryz.ntmps166
  go_wp2
  go_loopw [5] (fun iv wr => ∃ k : Nat, iv = .int .i64 (k : Int) ∧ k ≤ n ∧ Below w.heap.size w wr) (fun iv _ => n - (intOf iv).toNat)
  case atStart => exact ⟨0, rfl, Nat.zero_le _, Below.refl _ _⟩
  case round =>
    obtain ⟨k, rfl, hk, hbel⟩ := hrel
    have HB := Lib.hid hbel
    by_cases hkn : k = n
    · subst hkn
      have hk0 : ¬ ((k : Int) < (k : Int)) := by omega
      clear hbel
      go_wp2
      first | go_ret | skip
      exact HR.out _ HB.out
    · have hkl : k < n := by omega
      obtain ⟨L, hL⟩ : ∃ L, LL[k]? = some L := ⟨_, List.getElem?_eq_getElem (by rw [← HN.out]; exact hkl)⟩
      have HLS := Lib.hid (HS.out L (List.mem_of_getElem? hL))
      obtain ⟨b1, o1, x1, m1, y1, rfl, hb1, hc1, t1⟩ := H1.out.at k L hL
      obtain ⟨b2, o2, x2, m2, y2, rfl, hb2, hc2, t2⟩ := H2.out.at k L hL
      rw [← hbel.cell (p := ⟨b1, o1 + k, none⟩) hb1] at hc1
      rw [← hbel.cell (p := ⟨b2, o2 + k, none⟩) hb2] at hc2
      have T1 := Lib.hid (t1.later hbel (Nat.le_refl _))
      have T2 := Lib.hid (t2.later hbel (Nat.le_refl _))
      have hw1 : IntKind.i64.wrap ((k : Int) + 1) = ((k + 1 : Nat) : Int) := by rw [IntWalk.i64_in _ (by omega)]; omega
      have hk0 : (0 : Int) ≤ (k : Int) := by omega
      have hk1 : (k : Int) < (n : Int) := by omega
      have HKL := Lib.hid hkl
      clear hL t1 t2 hbel hkn
      go_wp2_with fail
      go_region_law (first
        | ((try go_simp); go_at_call 39; refine eqT_any _ _ L L _ (T1.out.later (Below.refl _ _).drew (Nat.le_refl _)) (T2.out.later (Below.refl _ _).drew (Nat.le_refl _)) (by have := HLS.out; omega) (by have := HLS.out; omega) _ ?_; intro w3 hb3; rw [decide_eq_true rfl]; have HB3 : Hid (Below w.heap.size w w3) := Lib.hid (HB.out.trans ((below_unD hb3).mono HB.out.size)); clear hb3; dsimp only))
      all_goals
        go_wp2
        go_roundw
        case rel => exact ⟨k + 1, by first | rfl | go_num, HKL.out, HB3.out⟩
        case measure => simp [intOf]; have := HKL.out; omega

/-- the marks of lists of those lengths, from a number on -/
def marksSS : Nat → List Nat → List (List ByteArray)
  | _, [] => []
  | k0, n :: ns => marks k0 n :: marksSS (k0 + n) ns
theorem marksSS_len : ∀ (ns : List Nat) (k0 : Nat), (marksSS k0 ns).length = ns.length
  | [], _ => rfl
  | n :: ns, k0 => by simp [marksSS, marksSS_len ns]
theorem marksSS_at : ∀ (ns : List Nat) (k0 i n : Nat), ns[i]? = some n → (marksSS k0 ns)[i]? = some (marks (k0 + (ns.take i).sum) n)
  | [], _, _, _, h => by simp at h
  | m :: ns, k0, 0, n, h => by simp at h; subst h; simp [marksSS]
  | m :: ns, k0, i + 1, n, h => by
    have := marksSS_at ns (k0 + m) i n (by simpa using h)
    simp only [marksSS, List.getElem?_cons_succ, List.take_succ_cons, List.sum_cons]
    rw [this, Nat.add_assoc]
theorem sum_take_one {ns : List Nat} {i n : Nat} (h : ns[i]? = some n) : (ns.take (i + 1)).sum = (ns.take i).sum + n := by
  rw [List.take_add_one, h]; simp
theorem sum_take_le (ns : List Nat) (i : Nat) : (ns.take i).sum ≤ ns.sum := by
  conv => rhs; rw [← List.take_append_drop i ns]
  rw [List.sum_append]; omega

end Go.Proofs.YtdkjcdfkoahfkaaGreatDoor

namespace Go.Proofs.YtdkjcdfkoahfkaaGreatDoor
open Go Go.RowKit

/-- a block of values that is known whole -/
def VArr (e : TypeId) (w : World) (g : Nat) (vs : List Value) : Prop := w.heap[g]? = some (.cells vs.toArray e (0, 0))
theorem VArr.lt {e : TypeId} {w : World} {g : Nat} {vs : List Value} (h : VArr e w g vs) : g < w.heap.size := lt_of_block h
theorem VArr.cell {e : TypeId} {w : World} {g : Nat} {vs : List Value} (h : VArr e w g vs) (i : Nat) (v : Value) (hi : vs[i]? = some v) : w.cell? ⟨g, i, none⟩ = some v := by
  unfold VArr at h
  simp [World.cell?, h, hi]
theorem VArr.frozen {e : TypeId} {w : World} {g : Nat} {vs : List Value} (h : VArr e w g vs) (i : Nat) : w.frozen? ⟨g, i, none⟩ = false := by
  unfold VArr at h
  simp [World.frozen?, h]
theorem VArr.set {e : TypeId} {w : World} {g : Nat} {vs : List Value} (h : VArr e w g vs) (i : Nat) (v : Value) : VArr e (w.setCell ⟨g, i, none⟩ v) g (vs.set i v) := by
  unfold VArr at *
  simp only [World.setCell, Array.getElem?_modify, h]
  simp
theorem VArr.later {e : TypeId} {w w' : World} {g B : Nat} {vs : List Value} (h : VArr e w g vs) (hb : Below B w w') (hg : g < B) : VArr e w' g vs := by
  unfold VArr at *; rw [hb.block g hg]; exact h
theorem VArr.setOther {e : TypeId} {w : World} {g b : Nat} {vs : List Value} (h : VArr e w g vs) (hg : g ≠ b) (i : Nat) (v : Value) : VArr e (w.setCell ⟨b, i, none⟩ v) g vs := by
  unfold VArr at *; rw [Below.heap_setCell _ _ _ _ hg]; exact h
theorem VArr.drewN {e : TypeId} {w : World} {g : Nat} {vs : List Value} (h : VArr e w g vs) (n : Nat) : VArr e (w.drewN n) g vs := h
theorem VArr.drw {e : TypeId} {w : World} {g : Nat} {vs : List Value} (h : VArr e w g vs) : VArr e w.drew g vs := h

theorem wpList_makev {P : Program} (w : World) {ops : Array Oper} {rest : List Oper} {o : Oper} {a : Act} {Q : Exit → Act → World → Prop}
    (hg : o.guard = none) (l : Operand) (t : TypeId) (hop : o.op = Op.makeSlice t l l) (z : Value) (hz : z.cells = #[z])
    (e : TypeId) (bytes : Nat) (h1 : P.underlying t = some (.slice e)) (hi : (P.info? e).map (fun i => (i.zero, i.size, i.bytes)) = some (some z, 1, bytes)) (hby : bytes ≤ 100)
    (kl : IntKind) (L : Int) (n : Nat) (hl : a.eval l = .int kl L) (hL : L = (n : Int)) (hn : n ≤ 1000000000)
    (hK : ∀ w', VArr e w' w.heap.size (List.replicate n z) → Below w.heap.size w w' → w'.heap.size = w.heap.size + 1 → wpList P ops Q rest (a.put o.dst (.slice (some ⟨w.heap.size, 0, none⟩) n n)) w') :
    wpList P ops Q (o :: rest) a w := by
  obtain ⟨i0, hi0, hz0, hz1, hz2⟩ := info_parts hi
  refine wpList_plain hg fun K hK' => ?_
  subst hL
  have hb : (i0.bytes : Int) * (n : Int) ≤ 281474976710656 := by
    rw [hz2]
    have : bytes * n ≤ 100 * n := Nat.mul_le_mul_right n hby
    have h2 : ((bytes * n : Nat) : Int) ≤ 281474976710656 := by omega
    rwa [Int.natCast_mul] at h2
  have hr := run_make (P := P) w t e i0 z h1 hi0 hz0 kl kl n n (by omega) (Int.le_refl _) hb (by omega)
  simp only [Int.toNat_natCast, hz1, Nat.mul_one] at hr
  unfold Oper.wp
  simp [execOp, hop, hl, hr, Result.andThen]
  refine hK' _ _ (hK _ ?_ ?_ ?_)
  · show (w.heap.push _)[_]? = _
    rw [Array.getElem?_push, if_pos rfl]
    congr 2
    apply Array.toList_inj.1
    have h3 := toList_madeCells_one z n
    rw [hz, h3]
  · exact (Below.refl _ _).alloc (Nat.le_refl _) _
  · simp
end Go.Proofs.YtdkjcdfkoahfkaaGreatDoor

namespace Go.Proofs.YtdkjcdfkoahfkaaGreatDoor
open Go Go.RowKit

/-- a value reads as a list whose elements are slices that read as P says -/
def RdE {α : Type} (P : World → Value → α → Prop) (w : World) (v : Value) (xs : List α) : Prop :=
  ∃ vs : List Value, SlE 1 EV w v vs ∧ vs.length = xs.length ∧ ∀ (i : Nat) (x : Value) (a : α), vs[i]? = some x → xs[i]? = some a → P w x a
/-- what is read so stays behind a call that leaves what there was -/
def Stay {α : Type} (P : World → Value → α → Prop) : Prop := ∀ w w' x a, P w x a → Below w.heap.size w w' → P w' x a
theorem stay_T : Stay TxL := fun _ _ _ _ h hb => h.later hb (Nat.le_refl _)
theorem stay_E {α : Type} {sz : Nat} {E : World → List Value → α → Prop} (hE : Elem sz E) : Stay (SlE sz E) := fun _ _ _ _ h hb => h.later hE hb (Nat.le_refl _)
theorem stay_D {α : Type} {P : World → Value → α → Prop} (hP : Stay P) : Stay (RdE P) := by
  intro w w' v xs h hb
  obtain ⟨vs, h1, h2, h3⟩ := h
  exact ⟨vs, h1.later elemV hb (Nat.le_refl _), h2, fun i x a hx ha => hP _ _ _ _ (h3 i x a hx ha) hb⟩
theorem RdE.nil {α : Type} (P : World → Value → α → Prop) (w : World) (ao : Option Addr) (cap : Nat) : RdE P w (.slice ao 0 cap) ([] : List α) := ⟨[], SlE.nil _ _ _, rfl, fun i x a h => by simp at h⟩
theorem RdE.open {α : Type} {P : World → Value → α → Prop} {w : World} {v : Value} {xs : List α} (h : RdE P w v xs) : ∃ ao n cap, v = .slice ao n cap ∧ n = xs.length ∧ RdE P w (.slice ao n cap) xs := by
  obtain ⟨vs, h1, h2, h3⟩ := h
  obtain ⟨ao, n, cap, rfl, hn, _, h4⟩ := h1.open
  exact ⟨ao, n, cap, rfl, hn.trans h2, vs, h4, h2, h3⟩
theorem RdE.at {α : Type} {P : World → Value → α → Prop} {w : World} {ao : Option Addr} {n cap : Nat} {xs : List α} (h : RdE P w (.slice ao n cap) xs) (i : Nat) (a : α) (hi : xs[i]? = some a) :
    ∃ b off q m c, ao = some ⟨b, off, none⟩ ∧ b < w.heap.size ∧ w.cell? ⟨b, off + i, none⟩ = some (.slice q m c) ∧ P w (.slice q m c) a := by
  obtain ⟨vs, h1, h2, h3⟩ := h
  obtain ⟨x, hx⟩ : ∃ x, vs[i]? = some x := ⟨_, List.getElem?_eq_getElem (by rw [h2]; exact (List.getElem?_eq_some_iff.1 hi).1)⟩
  obtain ⟨b, off, q, m, c, e1, e2, rfl, e3⟩ := h1.atV i x hx
  exact ⟨b, off, q, m, c, e1, e2, e3, h3 i _ a hx hi⟩

/-- worlds that follow one another by calls that leave what there was, and by stores into blocks older than B in which no numbers lie -/
def Fb (B : Nat) (a z : World) : Prop := ∀ Q : World → Prop, Q a → (∀ b c : World, Q b → Below b.heap.size b c → Q c) → (∀ (b c : World) (g : Nat), Q b → g < B → NoInt b g → But g b c → Q c) → Q z
theorem Fb.refl (B : Nat) (a : World) : Fb B a a := fun _ h _ _ => h
theorem Fb.below {B : Nat} {a b : World} (h : Below a.heap.size a b) : Fb B a b := fun _ q h1 _ => h1 _ _ q h
theorem Fb.but {B g : Nat} {a b : World} (h : But g a b) (hg : g < B) (hn : NoInt a g) : Fb B a b := fun _ q _ h2 => h2 _ _ g q hg hn h
theorem OwE.fb {α : Type} {sz : Nat} {E : World → List Value → α → Prop} (hE : Elem sz E) {e : TypeId} {w w' : World} {B : Nat} {v : Value} {xs : List α} (h : OwE sz E e w B v xs) (hf : Fb B w w') : OwE sz E e w' B v xs :=
  hf (fun z => OwE sz E e z B v xs) h (fun _ _ q hb => q.later hE hb (Nat.le_refl _)) (fun _ _ g q hg hn hb => by
    rcases q with q | ⟨g', cap, cur, rfl, h2, h3, h4, h5, h6, h7, h8⟩
    · exact .inl q
    · exact .inr ⟨g', cap, cur, rfl, h2, by rw [hb.block g' (lt_of_block h3) (by omega)]; exact h3, h4, h5, h6, h7, fun i x hi => hE.keep (h8 i x hi) hb hn⟩)

/-- what is asked of the elements of a list that a call owns -/
def FbP {α : Type} (P : World → Nat → Value → α → Prop) : Prop :=
  (∀ B w w' x a, P w B x a → Fb B w w' → P w' B x a) ∧ (∀ B w x a, P w B x a → ∃ q m c, x = .slice q m c) ∧ ∀ B B' w x a, P w B x a → B' ≤ B → P w B' x a
/-- a list that a call owns, whose elements are slices that it owns -/
def OwL {α : Type} (e : TypeId) (P : World → Nat → Value → α → Prop) (w : World) (B : Nat) (v : Value) (xs : List α) : Prop :=
  ∃ vs : List Value, OwE 1 EV e w B v vs ∧ vs.length = xs.length ∧ ∀ (i : Nat) (x : Value) (a : α), vs[i]? = some x → xs[i]? = some a → P w B x a
theorem fbO {α : Type} {sz : Nat} {E : World → List Value → α → Prop} (hE : Elem sz E) (e : TypeId) : FbP (fun w B x (a : List α) => OwE sz E e w B x a) := by
  refine ⟨fun B w w' x a h hf => OwE.fb hE h hf, fun B w x a h => ?_, fun B B' w x a h hB => OwE.mono h hB⟩
  obtain ⟨q, m, c, e1, _⟩ := OwE.shape h
  exact ⟨q, m, c, e1⟩
theorem fbL {α : Type} {P : World → Nat → Value → α → Prop} (hP : FbP P) (e : TypeId) : FbP (fun w B x (a : List α) => OwL e P w B x a) := by
  refine ⟨fun B w w' x a h hf => ?_, fun B w x a h => ?_, fun B B' w x a h hB => ?_⟩
  · obtain ⟨vs, h1, h2, h3⟩ := h
    exact ⟨vs, h1.fb elemV hf, h2, fun i x a hx ha => hP.1 _ _ _ _ _ (h3 i x a hx ha) hf⟩
  · obtain ⟨vs, h1, _⟩ := h
    obtain ⟨q, m, c, e1, _⟩ := h1.shape
    exact ⟨q, m, c, e1⟩
  · obtain ⟨vs, h1, h2, h3⟩ := h
    exact ⟨vs, h1.mono hB, h2, fun i x a hx ha => hP.2.2 _ _ _ _ _ (h3 i x a hx ha) hB⟩
theorem OwL.rd {α : Type} {e : TypeId} {P : World → Nat → Value → α → Prop} {Q : World → Value → α → Prop} (hPQ : ∀ w B x a, P w B x a → Q w x a) {w : World} {B : Nat} {v : Value} {xs : List α} (h : OwL e P w B v xs) : RdE Q w v xs := by
  obtain ⟨vs, h1, h2, h3⟩ := h
  exact ⟨vs, h1.sl, h2, fun i x a hx ha => hPQ _ _ _ _ (h3 i x a hx ha)⟩
theorem OwL.shape {α : Type} {e : TypeId} {P : World → Nat → Value → α → Prop} {w : World} {B : Nat} {v : Value} {xs : List α} (h : OwL e P w B v xs) : ∃ q m c, v = .slice q m c ∧ m = xs.length := by
  obtain ⟨vs, h1, h2, _⟩ := h
  obtain ⟨q, m, c, e1, e2⟩ := h1.shape
  exact ⟨q, m, c, e1, e2.trans h2⟩
theorem OwL.nil {α : Type} (e : TypeId) (P : World → Nat → Value → α → Prop) (w : World) (B : Nat) : OwL e P w B (.slice none 0 0) ([] : List α) := ⟨[], OwE.nil _ _ _, rfl, fun i x a h => by simp at h⟩

/-- a block that is filled with slices from its beginning on; those lie behind it -/
def VB {α : Type} (P : World → Nat → Value → α → Prop) (e : TypeId) (w : World) (g n : Nat) (xs : List α) : Prop :=
  ∃ vs : List Value, vs.length = xs.length ∧ xs.length ≤ n ∧ VArr e w g (vs ++ List.replicate (n - xs.length) (.slice none 0 0)) ∧ ∀ (i : Nat) (x : Value) (a : α), vs[i]? = some x → xs[i]? = some a → P w (g + 1) x a
theorem VB.start {α : Type} (P : World → Nat → Value → α → Prop) {e : TypeId} {w : World} {g n : Nat} (h : VArr e w g (List.replicate n (.slice none 0 0))) : VB P e w g n ([] : List α) :=
  ⟨[], rfl, Nat.zero_le _, by simpa using h, fun i x a h => by simp at h⟩
theorem VB.lt {α : Type} {P : World → Nat → Value → α → Prop} {e : TypeId} {w : World} {g n : Nat} {xs : List α} (h : VB P e w g n xs) : g < w.heap.size := by
  obtain ⟨vs, _, _, h3, _⟩ := h; exact h3.lt
theorem VB.slices {α : Type} {P : World → Nat → Value → α → Prop} (hP : FbP P) {w : World} {g n : Nat} {xs : List α} {vs : List Value} (h1 : vs.length = xs.length)
    (h4 : ∀ (i : Nat) (x : Value) (a : α), vs[i]? = some x → xs[i]? = some a → P w (g + 1) x a) : ∀ u ∈ vs ++ List.replicate (n - xs.length) (.slice none 0 0), ∃ q m c, u = .slice q m c := by
  intro u hu
  rcases List.mem_append.1 hu with hu | hu
  · obtain ⟨i, hi⟩ := List.getElem?_of_mem hu
    have hl : i < xs.length := by rw [← h1]; exact (List.getElem?_eq_some_iff.1 hi).1
    exact hP.2.1 _ _ _ _ (h4 i u _ hi (List.getElem?_eq_getElem hl))
  · exact ⟨none, 0, 0, (List.mem_replicate.1 hu).2⟩
theorem VB.noInt {α : Type} {P : World → Nat → Value → α → Prop} (hP : FbP P) {e : TypeId} {w : World} {g n : Nat} {xs : List α} (h : VB P e w g n xs) : NoInt w g := by
  obtain ⟨vs, h1, _, h3, h4⟩ := h
  refine NoInt.of h3 (fun u hu => ?_)
  obtain ⟨q, m, c, rfl⟩ := VB.slices (n := n) hP h1 h4 u (by simpa using hu)
  rfl
theorem VB.later {α : Type} {P : World → Nat → Value → α → Prop} (hP : FbP P) {e : TypeId} {w w' : World} {g n : Nat} {xs : List α} (h : VB P e w g n xs) (hb : Below w.heap.size w w') : VB P e w' g n xs := by
  obtain ⟨vs, h1, h2, h3, h4⟩ := h
  exact ⟨vs, h1, h2, h3.later hb h3.lt, fun i x a hx ha => hP.1 _ _ _ _ _ (h4 i x a hx ha) (Fb.below hb)⟩
theorem VB.cell {α : Type} {P : World → Nat → Value → α → Prop} {e : TypeId} {w : World} {g n : Nat} {xs : List α} (h : VB P e w g n xs) (k : Nat) (hk : k < n) : ∃ u, w.cell? ⟨g, k, none⟩ = some u := by
  obtain ⟨vs, h1, h2, h3, h4⟩ := h
  exact ⟨_, h3.cell k _ (List.getElem?_eq_getElem (by rw [List.length_append, List.length_replicate]; omega))⟩
theorem VB.frozen {α : Type} {P : World → Nat → Value → α → Prop} {e : TypeId} {w : World} {g n : Nat} {xs : List α} (h : VB P e w g n xs) (k : Nat) : w.frozen? ⟨g, k, none⟩ = false := by
  obtain ⟨vs, _, _, h3, _⟩ := h; exact h3.frozen k
theorem VB.put {α : Type} {P : World → Nat → Value → α → Prop} (hP : FbP P) {e : TypeId} {w : World} {g n k : Nat} {xs : List α} {x : Value} {a : α} (h : VB P e w g n xs) (hkx : xs.length = k) (hk : k < n) (hx : P w (g + 1) x a) :
    VB P e (w.setCell ⟨g, k, none⟩ x) g n (xs ++ [a]) := by
  have hni := h.noInt hP
  obtain ⟨vs, h1, h2, h3, h4⟩ := h
  have hf : Fb (g + 1) w (w.setCell ⟨g, k, none⟩ x) := Fb.but ((But.refl g w).setCell k x) (by omega) hni
  refine ⟨vs ++ [x], by simp [h1], by rw [List.length_append]; simp; omega, ?_, fun i y b hy hb => ?_⟩
  · have h5 := h3.set k x
    have e1 : n - xs.length = (n - (xs ++ [a]).length) + 1 := by rw [List.length_append]; simp; omega
    rw [e1, List.replicate_succ, List.set_append_right _ _ (by omega), show k - vs.length = 0 by omega, List.set_cons_zero] at h5
    simpa using h5
  · by_cases hik : i < xs.length
    · rw [List.getElem?_append_left (by omega)] at hy
      rw [List.getElem?_append_left hik] at hb
      exact hP.1 _ _ _ _ _ (h4 i y b hy hb) hf
    · rw [List.getElem?_append_right (by omega)] at hy
      rw [List.getElem?_append_right (by omega)] at hb
      have hi0 : i - xs.length = 0 := by
        have := (List.getElem?_eq_some_iff.1 hb).1
        simp at this
        omega
      rw [h1, hi0] at hy
      rw [hi0] at hb
      simp at hy hb
      subst hy
      subst hb
      exact hP.1 _ _ _ _ _ hx hf
theorem VB.own {α : Type} {P : World → Nat → Value → α → Prop} (hP : FbP P) {e : TypeId} {w : World} {g n B : Nat} {xs : List α} (h : VB P e w g n xs) (hn : xs.length = n) (hB : B ≤ g) (hm : n ≤ 1000000000) : OwL e P w B (.slice (some ⟨g, 0, none⟩) n n) xs := by
  obtain ⟨vs, h1, h2, h3, h4⟩ := h
  have hsl := VB.slices (n := n) hP h1 h4
  rw [hn, Nat.sub_self, List.replicate_zero, List.append_nil] at h3 hsl
  refine ⟨vs, .inr ⟨g, n, vs.toArray, by rw [h1, hn], hB, h3, by omega, by simp only [maxLen]; omega, by simp; omega, fun u hu => ?_, fun i x hi => ?_⟩, h1, fun i x a hx ha => hP.2.2 _ _ _ _ _ (h4 i x a hx ha) (by omega)⟩
  · obtain ⟨q, m, c, rfl⟩ := hsl u (by simpa using hu)
    rfl
  · obtain ⟨q, m, c, rfl⟩ := hsl x (List.mem_of_getElem? hi)
    refine ⟨q, m, c, rfl, ?_⟩
    have hlt := (List.getElem?_eq_some_iff.1 hi).1
    rw [Nat.mul_one, show vs.toArray.toList = vs from rfl, List.drop_eq_getElem_cons hlt]
    have := (List.getElem?_eq_some_iff.1 hi).2
    rw [this]
    rfl
end Go.Proofs.YtdkjcdfkoahfkaaGreatDoor

namespace Go.Proofs.YtdkjcdfkoahfkaaGreatDoor
open Go Go.RowKit

theorem TArr.own {e : TypeId} {w : World} {g : Nat} {L : List ByteArray} (h : TArr e w g L) (B n : Nat) (hn : n = L.length) (hB : B ≤ g) (hm : n ≤ 1048576) : OwE 1 ET e w B (.slice (some ⟨g, 0, none⟩) n n) L := by
  subst hn
  refine .inr ⟨g, L.length, _, rfl, hB, h, Nat.le_refl _, by simp only [maxLen]; omega, by simp, ?_, ?_⟩
  · intro u hu
    simp at hu
    obtain ⟨s, _, rfl⟩ := hu
    rfl
  · intro i x hx
    show ((L.map Value.string).toArray.toList.drop (i * 1)).take 1 = [.string x]
    obtain ⟨hi, rfl⟩ := List.getElem?_eq_some_iff.1 hx
    rw [Nat.mul_one, List.toList_toArray, List.drop_eq_getElem_cons (by rw [List.length_map]; exact hi)]
    simp

set_option maxRecDepth 100000 in
set_option maxHeartbeats 1000000 in
theorem toT_own (v : Value) (L : List ByteArray) (w : World) (h : TxL w v L) (hn : L.length ≤ 1048576) (R : Ending → World → Prop)
    (hR : ∀ v' w', OwE 1 ET 9 w' w.heap.size v' L → Below w.heap.size w w' → R (.returned v') w') :
    Calls Tryz.prog 36 #[v] w R := by
  have HR := Lib.hid hR; clear hR
  obtain ⟨ao, n, cap, rfl, hnl, hc, hh⟩ := h.open
  have HH := Lib.hid hh
  have HN := Lib.hid hnl
  rw [← hnl] at hn
  clear h hnl hh
  go_enter Tryz.func36, Tryz.ntmps36
  go_wp2_with (at_make; go_must (refine wpList_maket _ rfl (.tmp 6) 38 rfl 9 16 Tryz.underlying38 info_str (by omega) .i64 _ n rfl (by omega) (by omega) ?_))
  intro W hA hbW hsW
  have HST : Hid (CopyRel w n L (.int .i64 0) W) := Lib.hid ⟨0, rfl, Nat.zero_le _, by simpa using hA, hbW⟩
  clear hA hbW hsW
  go_wp2
  go_loopw [4] (fun i wr => CopyRel w n L i wr) (fun i _ => n - (intOf i).toNat)
  case atStart => exact HST.out
  case round =>
    clear HST
    obtain ⟨k, rfl, hk, hA, hbel⟩ := hrel
    have HB := Lib.hid hbel
    by_cases hkn : k = n
    · subst hkn
      have hL : L.take k ++ List.replicate (k - k) ByteArray.empty = L := by rw [Nat.sub_self, HN.out, List.take_length]; simp
      rw [hL] at hA
      have HT := Lib.hid (hA.own w.heap.size k HN.out (Nat.le_refl _) (by omega))
      clear hA hbel hL
      go_wp2
      first | go_ret | skip
      exact HR.out _ _ HT.out HB.out
    · have hkl : k < n := by omega
      obtain ⟨s, hs⟩ : ∃ s, L[k]? = some s := ⟨_, List.getElem?_eq_getElem (by rw [← HN.out]; exact hkl)⟩
      obtain ⟨b, off, rfl, hb, hcell⟩ := TxL.at HH.out k s hs
      rw [← hbel.cell (p := ⟨b, off + k, none⟩) hb] at hcell
      have hlen : (L.take k ++ List.replicate (n - k) ByteArray.empty).length = n := by rw [List.length_append, List.length_take, List.length_replicate, ← HN.out]; omega
      have hc2 := hA.cell k _ (List.getElem?_eq_getElem (by rw [hlen]; exact hkl))
      have hf2 := hA.frozen k
      have hA2 := hA.set k s
      rw [set_copy L k n ByteArray.empty s hkl hs] at hA2
      have HA2 := Lib.hid hA2
      obtain ⟨u, hu⟩ : ∃ u, u = (L.take k ++ List.replicate (n - k) ByteArray.empty)[k]'(by rw [hlen]; exact hkl) := ⟨_, rfl⟩
      rw [← hu] at hc2
      have hw1 : IntKind.i64.wrap ((k : Int) + 1) = ((k + 1 : Nat) : Int) := by rw [IntWalk.i64_in _ (by omega)]; omega
      clear hA hA2 hbel hlen hs hu
      go_wp2
      go_roundw
      case rel => exact ⟨k + 1, by first | rfl | go_num, by omega, HA2.out, HB.out.setCell (Nat.le_refl _) _⟩
      case measure => simp [intOf]; omega
end Go.Proofs.YtdkjcdfkoahfkaaGreatDoor

namespace Go.Proofs.YtdkjcdfkoahfkaaGreatDoor
open Go Go.RowKit

/-- the cells of a slice in a row -/
def rowOf (w : World) (b off m : Nat) : List Value := (List.range m).map fun j => (w.cell? ⟨b, off + j, none⟩).getD (.bool false)
theorem rowOf_len (w : World) (b off m : Nat) : (rowOf w b off m).length = m := by simp [rowOf]
theorem rowOf_seg {w : World} {b off m i sz : Nat} {cs : List Value} (hl : cs.length = sz) (hi : i * sz + sz ≤ m) (hc : ∀ j u, cs[j]? = some u → w.cell? ⟨b, off + (i * sz + j), none⟩ = some u) :
    ((rowOf w b off m).drop (i * sz)).take sz = cs := by
  apply List.ext_getElem?
  intro j
  rcases Nat.lt_or_ge j sz with hj | hj
  · rw [List.getElem?_take_of_lt hj, List.getElem?_drop]
    have hjm : i * sz + j < m := by omega
    have hcs : cs[j]? = some cs[j] := List.getElem?_eq_getElem (by omega)
    rw [hcs]
    unfold rowOf
    rw [List.getElem?_map, List.getElem?_range hjm]
    simp only [Option.map_some]
    rw [hc j _ hcs]
    rfl
  · rw [List.getElem?_eq_none (by rw [List.length_take]; omega), List.getElem?_eq_none (by omega)]

theorem div_lt {n sz j : Nat} (h : j < n * sz) : j / sz < n ∧ j % sz < sz ∧ j = j / sz * sz + j % sz := by
  have hsz : 0 < sz := by
    rcases Nat.eq_zero_or_pos sz with h0 | h0
    · subst h0; simp at h
    · exact h0
  refine ⟨Nat.div_lt_of_lt_mul (by rw [Nat.mul_comm]; exact h), Nat.mod_lt _ hsz, ?_⟩
  rw [Nat.mul_comm]; exact (Nat.div_add_mod j sz).symm

theorem run_spread0 {α : Type} {P : Program} {w : World} {sz : Nat} {E : World → List Value → α → Prop} (hE : Elem sz E) (hsz : 0 < sz) (t ty e : TypeId) (bytes : Nat) (z : Value) (ht : P.underlying t = some (.slice e))
    (hi : (P.info? e).map (fun i => (i.zero, i.size, i.bytes)) = some (some z, sz, bytes)) (hzs : z.cells.size = sz) (hzi : ∀ u ∈ z.cells.toList, notInt u = true) (hby : bytes ≤ 100)
    (B g0 : Nat) (h0 : w.heap[g0]? = some (.cells #[] e (0, 0))) (hB0 : B ≤ g0) (hB : B ≤ w.heap.size) (v : Value) (xs : List α) (h : SlE sz E w v xs) (hlen : xs.length ≤ 100000000) :
    ∃ v' w', (Builtin.append_ #[t, t] ty #[.slice (some ⟨g0, 0, none⟩) 0 0, v]).run P w = .ok v' w' ∧ OwE sz E e w' B v' xs ∧ Below w.heap.size w w' := by
  obtain ⟨i0, hi0, hz0, hz1, hz2⟩ := info_parts hi
  subst hz1
  obtain ⟨ao, n, cap, rfl, hn, hc, hsl⟩ := h.open
  by_cases hn0 : n = 0
  · subst hn0
    obtain rfl : xs = [] := List.eq_nil_of_length_eq_zero hn.symm
    refine ⟨.slice (some ⟨g0, 0, none⟩) 0 0, w, ?_, ?_, Below.refl _ _⟩
    · have hf : (Builtin.firstCells i0.size 0 (.slice ao 0 cap)).run P w = .ok #[] w := by
        cases ao <;> simp [Builtin.firstCells, loadCellsFrom, loadCells]
      simp [Builtin.append_, run_underlying ht, sizeOf, typeInfo, zeroValue, hi0, hz0, Builtin.lenOf, hf, storeCells]
    · exact .inr ⟨g0, 0, #[], rfl, hB0, h0, Nat.le_refl _, by simp only [maxLen]; omega, by simp, by simp, fun i x h => by simp at h⟩
  · obtain ⟨x0, hx0⟩ : ∃ x, xs[0]? = some x := ⟨_, List.getElem?_eq_getElem (by omega)⟩
    obtain ⟨b, off, cs0, rfl, hb, _, _⟩ := hsl.at 0 x0 hx0
    obtain ⟨news, hnews⟩ : ∃ news, news = rowOf w b off (n * i0.size) := ⟨_, rfl⟩
    have hl : news.length = n * i0.size := by rw [hnews, rowOf_len]
    have hat : ∀ i x, xs[i]? = some x → ∃ cs, (∀ j u, cs[j]? = some u → w.cell? ⟨b, off + (i * i0.size + j), none⟩ = some u) ∧ E w cs x := by
      intro i x hx
      obtain ⟨b', off', cs, h1, _, h3, h4⟩ := hsl.at i x hx
      cases h1
      exact ⟨cs, h3, h4⟩
    have hcell : ∀ j u, news[j]? = some u → w.cell? ((⟨b, off, none⟩ : Addr).add j) = some u := by
      intro j u hj
      rw [Addr.add_lit]
      have hjm : j < n * i0.size := by rw [← hl]; exact (List.getElem?_eq_some_iff.1 hj).1
      obtain ⟨d1, d2, d3⟩ := div_lt hjm
      obtain ⟨x, hx⟩ : ∃ x, xs[j / i0.size]? = some x := ⟨_, List.getElem?_eq_getElem (by omega)⟩
      obtain ⟨cs, h3, h4⟩ := hat _ x hx
      have hjl : j % i0.size < cs.length := by rw [hE.len h4]; exact d2
      have hcs : cs[j % i0.size]? = some cs[j % i0.size] := List.getElem?_eq_getElem hjl
      have h5 := h3 _ _ hcs
      rw [← d3] at h5
      rw [hnews] at hj
      unfold rowOf at hj
      rw [List.getElem?_map, List.getElem?_range hjm, Option.map_some, h5] at hj
      simp at hj
      rw [h5, hj]
    have hbyt : n * i0.bytes ≤ 100000000 * 100 := Nat.mul_le_mul (by omega) (by omega)
    have hr := run_append_grow (P := P) w t ty e i0 z ht hi0 hz0 ⟨g0, 0, none⟩ 0 0 [] (by simp) (by simp) ⟨b, off, none⟩ n cap news hl hcell (by omega) (by omega) (growslice_fits (by omega) (by rw [Nat.zero_add]; omega))
    have hge := grownCap_ge w (0 + n) 0 e
    have fresh : ∀ (o : Obj), Below w.heap.size w (w.drew.alloc o) := fun o => (Below.refl _ _).drew.alloc (Nat.le_refl _) o
    have hzl : ∀ k : Nat, (Builtin.zeroCells z.cells k).toList.length = k * i0.size := fun k => by rw [Array.length_toList, size_zeroCells, hzs]
    have e1 : ([] : List Value).toArray ++ news.toArray ++ Builtin.zeroCells z.cells (grownCap w (0 + n) 0 e - (0 + n)) = (news ++ (Builtin.zeroCells z.cells (grownCap w (0 + n) 0 e - (0 + n))).toList).toArray := Array.toList_inj.1 (by simp)
    rw [e1] at hr
    refine ⟨_, _, hr, ?_, fresh _⟩
    refine .inr ⟨w.heap.size, grownCap w (0 + n) 0 e, (news ++ (Builtin.zeroCells z.cells (grownCap w (0 + n) 0 e - (0 + n))).toList).toArray, by rw [Nat.zero_add, ← hn], hB, ?_, by rw [← hn]; omega, grownCap_le_maxLen w (0 + n) 0 e (by simp only [maxLen]; omega), ?_, ?_, ?_⟩
    · show (w.heap.push _)[_]? = _
      simp
    · simp only [List.size_toArray, List.length_append, hzl, hl]
      rw [← Nat.add_mul]
      congr 1
      try omega
    · intro u hu
      simp only [List.mem_append] at hu
      rcases hu with hu | hu
      · obtain ⟨j, hj⟩ := List.mem_iff_getElem?.1 hu
        have hjm : j < n * i0.size := by rw [← hl]; exact (List.getElem?_eq_some_iff.1 hj).1
        obtain ⟨d1, d2, d3⟩ := div_lt hjm
        obtain ⟨x, hx⟩ : ∃ x, xs[j / i0.size]? = some x := ⟨_, List.getElem?_eq_getElem (by omega)⟩
        obtain ⟨cs, h3, h4⟩ := hat _ x hx
        have hjl : j % i0.size < cs.length := by rw [hE.len h4]; exact d2
        have hcs : cs[j % i0.size]? = some cs[j % i0.size] := List.getElem?_eq_getElem hjl
        have h5 := h3 _ _ hcs
        rw [← d3] at h5
        have h6 := hcell j u hj
        rw [Addr.add_lit, h5] at h6
        cases h6
        exact hE.ints h4 _ (List.mem_of_getElem? hcs)
      · exact zeroCells_ints _ _ hzi u hu
    · intro i x hx
      have hin : i < n := by rw [hn]; exact (List.getElem?_eq_some_iff.1 hx).1
      obtain ⟨cs, h3, h4⟩ := hat i x hx
      have hm : i * i0.size + i0.size ≤ n * i0.size := by rw [← Nat.succ_mul]; exact Nat.mul_le_mul_right _ hin
      have h9 : ((news ++ (Builtin.zeroCells z.cells (grownCap w (0 + n) 0 e - (0 + n))).toList).drop (i * i0.size)).take i0.size = cs := by
        rw [seg_lt hl hin, hnews]
        exact rowOf_seg (hE.len h4) hm h3
      show E _ (((news ++ (Builtin.zeroCells z.cells (grownCap w (0 + n) 0 e - (0 + n))).toList).drop (i * i0.size)).take i0.size) x
      rw [h9]
      exact hE.below h4 (fresh _) (Nat.le_refl _)

/-- the same as an operation of a walk -/
theorem wpList_spread0 {α : Type} {P : Program} {w : World} {ops : Array Oper} {rest : List Oper} {o : Oper} {a : Act} {Q : Exit → Act → World → Prop} {sz : Nat} {E : World → List Value → α → Prop} (hE : Elem sz E) (hsz : 0 < sz) (hgd : o.guard = none) (s x : Operand) (t : TypeId)
    (ho : o.op = .call { callee := .builtin .append, args := #[s, x], argTypes := #[t, t] })
    (e : TypeId) (bytes : Nat) (z : Value) (ht : P.underlying t = some (.slice e))
    (hi : (P.info? e).map (fun i => (i.zero, i.size, i.bytes)) = some (some z, sz, bytes)) (hzs : z.cells.size = sz) (hzi : ∀ u ∈ z.cells.toList, notInt u = true) (hby : bytes ≤ 100)
    (B g0 : Nat) (hs : a.eval s = .slice (some ⟨g0, 0, none⟩) 0 0) (h0 : w.heap[g0]? = some (.cells #[] e (0, 0))) (hB0 : B ≤ g0) (hB : B ≤ w.heap.size) (v : Value) (hx : a.eval x = v) (xs : List α) (h : SlE sz E w v xs) (hlen : xs.length ≤ 100000000)
    (hK : ∀ ao n c w', OwE sz E e w' B (.slice ao n c) xs → n = xs.length → Below w.heap.size w w' → wpList P ops Q rest (a.put o.dst (.slice ao n c)) w') : wpList P ops Q (o :: rest) a w := by
  obtain ⟨v', w', hr, h2, h4⟩ := run_spread0 (P := P) hE hsz t o.type e bytes z ht hi hzs hzi hby B g0 h0 hB0 hB v xs h hlen
  refine wpList_plain hgd fun K hK' => ?_
  unfold Oper.wp execOp
  obtain ⟨ao, n, c, rfl, hn⟩ := h2.shape
  simp only [ho, resolve, invoke, builtin, Sem.run_bind, Sem.run_pure, Result.andThen_ok, List.map_toArray, List.map_cons, List.map_nil, hx, hs, hr]
  exact hK' _ _ (hK ao n c w' h2 (by simpa using hn) h4)
end Go.Proofs.YtdkjcdfkoahfkaaGreatDoor

namespace Go.Proofs.YtdkjcdfkoahfkaaGreatDoor
open Go Go.RowKit

/-- the sum of what f tells of the elements -/
def sumOf {α : Type} (f : α → Nat) (l : List α) : Nat := (l.map f).sum
theorem sumOf_succ {α : Type} (f : α → Nat) (l : List α) (k : Nat) (x : α) (h : l[k]? = some x) : sumOf f (l.take (k + 1)) = sumOf f (l.take k) + f x := by
  unfold sumOf
  rw [List.take_add_one, h]
  simp
theorem sumOf_take_le {α : Type} (f : α → Nat) (l : List α) (k : Nat) : sumOf f (l.take k) ≤ sumOf f l := by
  unfold sumOf
  conv => rhs; rw [← List.take_append_drop k l]
  rw [List.map_append, List.sum_append]; omega
theorem sumOf_mem {α : Type} (f : α → Nat) : ∀ (l : List α) (x : α), x ∈ l → f x ≤ sumOf f l
  | [], _, h => by simp at h
  | y :: l, x, h => by
    unfold sumOf
    rw [List.map_cons, List.sum_cons]
    rcases List.mem_cons.1 h with rfl | h
    · omega
    · have := sumOf_mem f l x h
      unfold sumOf at this
      omega
def tot2 (LL : List (List ByteArray)) : Nat := LL.length + sumOf tot LL
def tot3 (M : List (List (List ByteArray))) : Nat := M.length + sumOf tot2 M
def FineSS (L : List ByteArray) : Prop := L.length ≤ maxLen ∧ ∀ s ∈ L, s.size ≤ maxLen
def FineSSS (LL : List (List ByteArray)) : Prop := LL.length ≤ maxLen ∧ ∀ L ∈ LL, FineSS L
def SizeSS (L : List ByteArray) : Prop := L.length ≤ 1048576 ∧ ∀ s ∈ L, s.size ≤ 1048576
def SizeSSS (LL : List (List ByteArray)) : Prop := LL.length ≤ 1048576 ∧ ∀ L ∈ LL, SizeSS L
theorem sizeSS {L : List ByteArray} (h : tot L ≤ 1048576) : SizeSS L := sizes_each h
theorem sizeSSS {LL : List (List ByteArray)} (h : tot2 LL ≤ 1048576) : SizeSSS LL := by
  unfold tot2 at h
  exact ⟨by omega, fun L hL => sizeSS (by have := sumOf_mem tot LL L hL; omega)⟩
theorem sizeM {M : List (List (List ByteArray))} (h : tot3 M ≤ 1048576) : M.length ≤ 1048576 ∧ ∀ LL ∈ M, SizeSSS LL := by
  unfold tot3 at h
  exact ⟨by omega, fun L hL => sizeSSS (by have := sumOf_mem tot2 M L hL; omega)⟩
theorem info_sl1 : (Tryz.prog.info? 38).map (fun i => (i.zero, i.size, i.bytes)) = some (some (.slice none 0 0), 1, 24) := by kernel_rfl
theorem info_sl2 : (Tryz.prog.info? 137).map (fun i => (i.zero, i.size, i.bytes)) = some (some (.slice none 0 0), 1, 24) := by kernel_rfl
/-- own lists of texts -/
def OwT1 (w : World) (B : Nat) (x : Value) (L : List ByteArray) : Prop := OwE 1 ET 9 w B x L
theorem fbT1 : FbP OwT1 := fbO elemT 9
/-- own lists of own lists of texts -/
def OwT2 (w : World) (B : Nat) (x : Value) (LL : List (List ByteArray)) : Prop := OwL 38 OwT1 w B x LL
theorem fbT2 : FbP OwT2 := fbL fbT1 38
theorem OwT1.shape {w : World} {B : Nat} {x : Value} {L : List ByteArray} (h : OwT1 w B x L) : ∃ q m c, x = .slice q m c ∧ m = L.length := OwE.shape h
theorem OwT2.rd {w : World} {B : Nat} {x : Value} {LL : List (List ByteArray)} (h : OwT2 w B x LL) : RdE TxL w x LL := OwL.rd (fun w B x a k => OwE.sl k) h

set_option maxRecDepth 100000 in
set_option maxHeartbeats 2000000 in
theorem szSS_any (v : Value) (LL : List (List ByteArray)) (w : World) (left : Nat) (h : RdE TxL w v LL) (hn : LL.length ≤ maxLen) (hs : ∀ a ∈ LL, FineSS a) (hl : left ≤ 1048576) (R : Ending → World → Prop)
    (hR : tot2 LL ≤ left → R (.returned (.int .i64 ((left - tot2 LL : Nat) : Int))) w) (hR2 : left < tot2 LL → R (.returned (.int .i64 (-1))) w) :
    Calls Tryz.prog 159 #[v, .int .i64 (left : Int)] w R := by
  have HR := Lib.hid hR; clear hR
  have HR2 := Lib.hid hR2; clear hR2
  obtain ⟨ao, n, cap, rfl, hnl, hh⟩ := h.open
  have HH := Lib.hid hh
  rw [maxLen_eq] at hn
  have HS := Lib.hid hs
  have HN := Lib.hid hnl
  rw [← hnl] at hn
  clear h hs hnl hh
  by_cases h0 : left < n
  · obtain ⟨y, hy⟩ : ∃ y : Int, y = (left : Int) - (n : Int) := ⟨_, rfl⟩
    have hw : IntKind.i64.wrap ((left : Int) - (n : Int)) = y := by rw [hy]; exact IntWalk.i64_in _ (by omega)
    have hyn : y < 0 := by omega
    have HF := Lib.hid (HR2.out (by unfold tot2; rw [← HN.out]; omega))
    clear hy h0
    go_enter Tryz.func159, Tryz.ntmps159
    go_wp2
    first | go_ret | skip
    exact HF.out
  · obtain ⟨y, hy⟩ : ∃ y : Nat, left = y + n := ⟨left - n, by omega⟩
    have hw : IntKind.i64.wrap ((left : Int) - (n : Int)) = (y : Int) := by rw [IntWalk.i64_in _ (by omega)]; omega
    have HY := Lib.hid hy
    clear hy h0
    go_enter Tryz.func159, Tryz.ntmps159
    go_wp2
    clear hw
    go_loop [5, 1] (fun i l => ∃ k x : Nat, i = .int .i64 (k : Int) ∧ k ≤ n ∧ l = .int .i64 (x : Int) ∧ y = x + sumOf tot (LL.take k)) (fun i _ => n - (intOf i).toNat)
    case atStart => exact ⟨0, y, rfl, Nat.zero_le _, rfl, by simp [sumOf]⟩
    case round =>
      obtain ⟨k, x, rfl, hk, rfl, hx⟩ := hrel
      have HX := Lib.hid hx
      clear hx
      by_cases hkn : k = n
      · subst hkn
        have hfin : R (.returned (.int .i64 (x : Int))) w := by
          have h1 := HX.out
          rw [HN.out, List.take_length] at h1
          have h2 := HY.out
          have h3 := HR.out (by unfold tot2; rw [← HN.out]; omega)
          rw [show left - tot2 LL = x by unfold tot2; rw [← HN.out]; omega] at h3
          exact h3
        have HF := Lib.hid hfin
        have hkk : ¬ ((k : Int) < (k : Int)) := by omega
        clear hfin
        go_wp2
        first | go_ret | skip
        exact HF.out
      · have hkl : k < n := by omega
        obtain ⟨L, hL⟩ : ∃ L, LL[k]? = some L := ⟨_, List.getElem?_eq_getElem (by rw [← HN.out]; exact hkl)⟩
        have HLS := Lib.hid (HS.out L (List.mem_of_getElem? hL))
        obtain ⟨b, off, q, m, c, rfl, hb, hcell, hP⟩ := HH.out.at k L hL
        have HP := Lib.hid hP
        have HSZ := Lib.hid (sumOf_succ tot LL k L hL)
        have HLE := Lib.hid (sumOf_take_le tot LL (k + 1))
        have hxb : x ≤ 1048576 := by have := HX.out; have := HY.out; omega
        have hk1 : (k : Int) < (n : Int) := by omega
        have hk0 : (0 : Int) ≤ (k : Int) := by omega
        have hw1 : IntKind.i64.wrap ((k : Int) + 1) = ((k + 1 : Nat) : Int) := by rw [IntWalk.i64_in _ (by omega)]; omega
        clear hL hP hb
        go_wp2_with fail
        refine szT_any _ L _ x HP.out HLS.out.1 HLS.out.2 hxb _ ?_ ?_
        · intro ht
          obtain ⟨z, hz⟩ : ∃ z : Nat, z = x - tot L := ⟨_, rfl⟩
          have HZ := Lib.hid (show y = z + sumOf tot (LL.take (k + 1)) by have h1 := HX.out; have h3 := HSZ.out; omega)
          rw [← hz]
          have hz0 : ¬ ((z : Int) < 0) := by omega
          have HKL := Lib.hid hkl
          clear hz ht
          dsimp only
          go_wp2
          go_round
          case rel => exact ⟨k + 1, z, by first | rfl | go_num, HKL.out, rfl, HZ.out⟩
          case measure => simp [intOf]; have := HKL.out; omega
        · intro ht
          have HF := Lib.hid (HR2.out (by have h1 := HX.out; have h2 := HY.out; have h3 := HSZ.out; have h4 := HLE.out; unfold tot2; rw [← HN.out]; omega))
          clear ht
          dsimp only
          go_wp2
          first | go_ret | skip
          exact HF.out

set_option maxRecDepth 100000 in
set_option maxHeartbeats 2000000 in
theorem szSSS_any (v : Value) (LL : List (List (List ByteArray))) (w : World) (left : Nat) (h : RdE (RdE TxL) w v LL) (hn : LL.length ≤ maxLen) (hs : ∀ a ∈ LL, FineSSS a) (hl : left ≤ 1048576) (R : Ending → World → Prop)
    (hR : tot3 LL ≤ left → R (.returned (.int .i64 ((left - tot3 LL : Nat) : Int))) w) (hR2 : left < tot3 LL → R (.returned (.int .i64 (-1))) w) :
    Calls Tryz.prog 101 #[v, .int .i64 (left : Int)] w R := by
  have HR := Lib.hid hR; clear hR
  have HR2 := Lib.hid hR2; clear hR2
  obtain ⟨ao, n, cap, rfl, hnl, hh⟩ := h.open
  have HH := Lib.hid hh
  rw [maxLen_eq] at hn
  have HS := Lib.hid hs
  have HN := Lib.hid hnl
  rw [← hnl] at hn
  clear h hs hnl hh
  by_cases h0 : left < n
  · obtain ⟨y, hy⟩ : ∃ y : Int, y = (left : Int) - (n : Int) := ⟨_, rfl⟩
    have hw : IntKind.i64.wrap ((left : Int) - (n : Int)) = y := by rw [hy]; exact IntWalk.i64_in _ (by omega)
    have hyn : y < 0 := by omega
    have HF := Lib.hid (HR2.out (by unfold tot3; rw [← HN.out]; omega))
    clear hy h0
    go_enter Tryz.func101, Tryz.ntmps101
    go_wp2
    first | go_ret | skip
    exact HF.out
  · obtain ⟨y, hy⟩ : ∃ y : Nat, left = y + n := ⟨left - n, by omega⟩
    have hw : IntKind.i64.wrap ((left : Int) - (n : Int)) = (y : Int) := by rw [IntWalk.i64_in _ (by omega)]; omega
    have HY := Lib.hid hy
    clear hy h0
    go_enter Tryz.func101, Tryz.ntmps101
    go_wp2
    clear hw
    go_loop [5, 1] (fun i l => ∃ k x : Nat, i = .int .i64 (k : Int) ∧ k ≤ n ∧ l = .int .i64 (x : Int) ∧ y = x + sumOf tot2 (LL.take k)) (fun i _ => n - (intOf i).toNat)
    case atStart => exact ⟨0, y, rfl, Nat.zero_le _, rfl, by simp [sumOf]⟩
    case round =>
      obtain ⟨k, x, rfl, hk, rfl, hx⟩ := hrel
      have HX := Lib.hid hx
      clear hx
      by_cases hkn : k = n
      · subst hkn
        have hfin : R (.returned (.int .i64 (x : Int))) w := by
          have h1 := HX.out
          rw [HN.out, List.take_length] at h1
          have h2 := HY.out
          have h3 := HR.out (by unfold tot3; rw [← HN.out]; omega)
          rw [show left - tot3 LL = x by unfold tot3; rw [← HN.out]; omega] at h3
          exact h3
        have HF := Lib.hid hfin
        have hkk : ¬ ((k : Int) < (k : Int)) := by omega
        clear hfin
        go_wp2
        first | go_ret | skip
        exact HF.out
      · have hkl : k < n := by omega
        obtain ⟨L, hL⟩ : ∃ L, LL[k]? = some L := ⟨_, List.getElem?_eq_getElem (by rw [← HN.out]; exact hkl)⟩
        have HLS := Lib.hid (HS.out L (List.mem_of_getElem? hL))
        obtain ⟨b, off, q, m, c, rfl, hb, hcell, hP⟩ := HH.out.at k L hL
        have HP := Lib.hid hP
        have HSZ := Lib.hid (sumOf_succ tot2 LL k L hL)
        have HLE := Lib.hid (sumOf_take_le tot2 LL (k + 1))
        have hxb : x ≤ 1048576 := by have := HX.out; have := HY.out; omega
        have hk1 : (k : Int) < (n : Int) := by omega
        have hk0 : (0 : Int) ≤ (k : Int) := by omega
        have hw1 : IntKind.i64.wrap ((k : Int) + 1) = ((k + 1 : Nat) : Int) := by rw [IntWalk.i64_in _ (by omega)]; omega
        clear hL hP hb
        go_wp2_with fail
        refine szSS_any _ L _ x HP.out HLS.out.1 HLS.out.2 hxb _ ?_ ?_
        · intro ht
          obtain ⟨z, hz⟩ : ∃ z : Nat, z = x - tot2 L := ⟨_, rfl⟩
          have HZ := Lib.hid (show y = z + sumOf tot2 (LL.take (k + 1)) by have h1 := HX.out; have h3 := HSZ.out; omega)
          rw [← hz]
          have hz0 : ¬ ((z : Int) < 0) := by omega
          have HKL := Lib.hid hkl
          clear hz ht
          dsimp only
          go_wp2
          go_round
          case rel => exact ⟨k + 1, z, by first | rfl | go_num, HKL.out, rfl, HZ.out⟩
          case measure => simp [intOf]; have := HKL.out; omega
        · intro ht
          have HF := Lib.hid (HR2.out (by have h1 := HX.out; have h2 := HY.out; have h3 := HSZ.out; have h4 := HLE.out; unfold tot3; rw [← HN.out]; omega))
          clear ht
          dsimp only
          go_wp2
          first | go_ret | skip
          exact HF.out

def ToSSRel (w : World) (n : Nat) (LL : List (List ByteArray)) (i : Value) (wr : World) : Prop :=
  ∃ k : Nat, i = .int .i64 (k : Int) ∧ k ≤ n ∧ VB OwT1 38 wr w.heap.size n (LL.take k) ∧ Below w.heap.size w wr

set_option maxRecDepth 100000 in
set_option maxHeartbeats 2000000 in
theorem toSS_own (v : Value) (LL : List (List ByteArray)) (w : World) (h : RdE TxL w v LL) (hn : LL.length ≤ 1048576) (hs : ∀ a ∈ LL, SizeSS a) (R : Ending → World → Prop)
    (hR : ∀ v' w', OwL 38 OwT1 w' w.heap.size v' LL → Below w.heap.size w w' → R (.returned v') w') :
    Calls Tryz.prog 162 #[v] w R := by
  have HR := Lib.hid hR; clear hR
  obtain ⟨ao, n, cap, rfl, hnl, hh⟩ := h.open
  have HH := Lib.hid hh
  have HN := Lib.hid hnl
  have HS := Lib.hid hs
  rw [← hnl] at hn
  clear h hnl hh hs
  go_enter Tryz.func162, Tryz.ntmps162
  go_wp2_with (at_make; go_must (refine wpList_makev _ rfl (.tmp 6) 137 rfl (.slice none 0 0) rfl 38 24 Tryz.underlying137 info_sl1 (by omega) .i64 _ n rfl (by omega) (by omega) ?_))
  intro W hA hbW hsW
  have HST : Hid (ToSSRel w n LL (.int .i64 0) W) := Lib.hid ⟨0, rfl, Nat.zero_le _, VB.start _ hA, hbW⟩
  clear hA hbW hsW
  go_wp2
  go_loopw [4] (fun i wr => ToSSRel w n LL i wr) (fun i _ => n - (intOf i).toNat)
  case atStart => exact HST.out
  case round =>
    clear HST
    obtain ⟨k, rfl, hk, hA, hbel⟩ := hrel
    have HB := Lib.hid hbel
    have HA := Lib.hid hA
    by_cases hkn : k = n
    · subst hkn
      have hL : LL.take k = LL := by rw [HN.out, List.take_length]
      rw [hL] at hA
      have HT := Lib.hid (hA.own fbT1 HN.out.symm (Nat.le_refl _) (by omega))
      have hkk : ¬ ((k : Int) < (k : Int)) := by omega
      clear hA hbel hL
      go_wp2
      first | go_ret | skip
      exact HR.out _ _ HT.out HB.out
    · have hkl : k < n := by omega
      obtain ⟨L, hL⟩ : ∃ L, LL[k]? = some L := ⟨_, List.getElem?_eq_getElem (by rw [← HN.out]; exact hkl)⟩
      have HLS := Lib.hid (HS.out L (List.mem_of_getElem? hL))
      have HTK : Hid (LL.take (k + 1) = LL.take k ++ [L]) := Lib.hid (by rw [List.take_add_one, hL]; rfl)
      have HTL : Hid ((LL.take k).length = k) := Lib.hid (by rw [List.length_take, ← HN.out]; omega)
      obtain ⟨b, off, q, m, c, rfl, hb, hcell, hP⟩ := HH.out.at k L hL
      rw [← hbel.cell (p := ⟨b, off + k, none⟩) hb] at hcell
      have HP := Lib.hid (stay_T _ _ _ _ hP hbel)
      have hk1 : (k : Int) < (n : Int) := by omega
      have hk0 : (0 : Int) ≤ (k : Int) := by omega
      have hw1 : IntKind.i64.wrap ((k : Int) + 1) = ((k + 1 : Nat) : Int) := by rw [IntWalk.i64_in _ (by omega)]; omega
      have HKL := Lib.hid hkl
      have HGR : Hid (w.heap.size < wr.heap.size) := Lib.hid hA.lt
      clear hL hP hb hA hbel hkn hk
      go_wp2_with fail
      refine toT_own _ L _ HP.out HLS.out.1 _ ?_
      intro v6 w6 hv6 hb6
      obtain ⟨a6, n6, c6, rfl, e6⟩ := hv6.shape
      have HA6 := Lib.hid (HA.out.later fbT1 hb6)
      obtain ⟨u6, hu6⟩ := HA6.out.cell k HKL.out
      have hf6 := HA6.out.frozen k
      have HREL : Hid (ToSSRel w n LL (.int .i64 ((k + 1 : Nat) : Int)) (w6.setCell ⟨w.heap.size, k, none⟩ (.slice a6 n6 c6))) := Lib.hid ⟨k + 1, rfl, HKL.out, by
        rw [HTK.out]
        exact HA6.out.put fbT1 HTL.out HKL.out (fbT1.2.2 _ _ _ _ _ hv6 (by have := HGR.out; omega)), (HB.out.trans (hb6.mono HB.out.size)).setCell (Nat.le_refl _) _⟩
      clear hv6 hb6 e6
      dsimp only
      go_wp2
      go_roundw
      case rel => exact HREL.out
      case measure => simp [intOf]; have := HKL.out; omega

def ToSSSRel (w : World) (n : Nat) (LL : List (List (List ByteArray))) (i : Value) (wr : World) : Prop :=
  ∃ k : Nat, i = .int .i64 (k : Int) ∧ k ≤ n ∧ VB OwT2 137 wr w.heap.size n (LL.take k) ∧ Below w.heap.size w wr

set_option maxRecDepth 100000 in
set_option maxHeartbeats 2000000 in
theorem toSSS_own (v : Value) (LL : List (List (List ByteArray))) (w : World) (h : RdE (RdE TxL) w v LL) (hn : LL.length ≤ 1048576) (hs : ∀ a ∈ LL, SizeSSS a) (R : Ending → World → Prop)
    (hR : ∀ v' w', OwL 137 OwT2 w' w.heap.size v' LL → Below w.heap.size w w' → R (.returned v') w') :
    Calls Tryz.prog 103 #[v] w R := by
  have HR := Lib.hid hR; clear hR
  obtain ⟨ao, n, cap, rfl, hnl, hh⟩ := h.open
  have HH := Lib.hid hh
  have HN := Lib.hid hnl
  have HS := Lib.hid hs
  rw [← hnl] at hn
  clear h hnl hh hs
  go_enter Tryz.func103, Tryz.ntmps103
  go_wp2_with (at_make; go_must (refine wpList_makev _ rfl (.tmp 6) 52 rfl (.slice none 0 0) rfl 137 24 Tryz.underlying52 info_sl2 (by omega) .i64 _ n rfl (by omega) (by omega) ?_))
  intro W hA hbW hsW
  have HST : Hid (ToSSSRel w n LL (.int .i64 0) W) := Lib.hid ⟨0, rfl, Nat.zero_le _, VB.start _ hA, hbW⟩
  clear hA hbW hsW
  go_wp2
  go_loopw [4] (fun i wr => ToSSSRel w n LL i wr) (fun i _ => n - (intOf i).toNat)
  case atStart => exact HST.out
  case round =>
    clear HST
    obtain ⟨k, rfl, hk, hA, hbel⟩ := hrel
    have HB := Lib.hid hbel
    have HA := Lib.hid hA
    by_cases hkn : k = n
    · subst hkn
      have hL : LL.take k = LL := by rw [HN.out, List.take_length]
      rw [hL] at hA
      have HT := Lib.hid (hA.own fbT2 HN.out.symm (Nat.le_refl _) (by omega))
      have hkk : ¬ ((k : Int) < (k : Int)) := by omega
      clear hA hbel hL
      go_wp2
      first | go_ret | skip
      exact HR.out _ _ HT.out HB.out
    · have hkl : k < n := by omega
      obtain ⟨L, hL⟩ : ∃ L, LL[k]? = some L := ⟨_, List.getElem?_eq_getElem (by rw [← HN.out]; exact hkl)⟩
      have HLS := Lib.hid (HS.out L (List.mem_of_getElem? hL))
      have HTK : Hid (LL.take (k + 1) = LL.take k ++ [L]) := Lib.hid (by rw [List.take_add_one, hL]; rfl)
      have HTL : Hid ((LL.take k).length = k) := Lib.hid (by rw [List.length_take, ← HN.out]; omega)
      obtain ⟨b, off, q, m, c, rfl, hb, hcell, hP⟩ := HH.out.at k L hL
      rw [← hbel.cell (p := ⟨b, off + k, none⟩) hb] at hcell
      have HP := Lib.hid ((stay_D stay_T) _ _ _ _ hP hbel)
      have hk1 : (k : Int) < (n : Int) := by omega
      have hk0 : (0 : Int) ≤ (k : Int) := by omega
      have hw1 : IntKind.i64.wrap ((k : Int) + 1) = ((k + 1 : Nat) : Int) := by rw [IntWalk.i64_in _ (by omega)]; omega
      have HKL := Lib.hid hkl
      have HGR : Hid (w.heap.size < wr.heap.size) := Lib.hid hA.lt
      clear hL hP hb hA hbel hkn hk
      go_wp2_with fail
      refine toSS_own _ L _ HP.out HLS.out.1 HLS.out.2 _ ?_
      intro v6 w6 hv6 hb6
      obtain ⟨a6, n6, c6, rfl, e6⟩ := hv6.shape
      have HA6 := Lib.hid (HA.out.later fbT2 hb6)
      obtain ⟨u6, hu6⟩ := HA6.out.cell k HKL.out
      have hf6 := HA6.out.frozen k
      have HREL : Hid (ToSSSRel w n LL (.int .i64 ((k + 1 : Nat) : Int)) (w6.setCell ⟨w.heap.size, k, none⟩ (.slice a6 n6 c6))) := Lib.hid ⟨k + 1, rfl, HKL.out, by
        rw [HTK.out]
        exact HA6.out.put fbT2 HTL.out HKL.out (fbT2.2.2 _ _ _ _ _ hv6 (by have := HGR.out; omega)), (HB.out.trans (hb6.mono HB.out.size)).setCell (Nat.le_refl _) _⟩
      clear hv6 hb6 e6
      dsimp only
      go_wp2
      go_roundw
      case rel => exact HREL.out
      case measure => simp [intOf]; have := HKL.out; omega

set_option maxRecDepth 100000 in
set_option maxHeartbeats 2000000 in
theorem eqSSS_any (v1 v2 : Value) (M : List (List (List ByteArray))) (w : World) (h1 : RdE (RdE TxL) w v1 M) (h2 : RdE (RdE TxL) w v2 M) (hn : M.length ≤ 1048576) (hs : ∀ LL ∈ M, SizeSSS LL) (R : Ending → World → Prop)
    (hR : ∀ w', Below w.heap.size w w' → R (.returned (.bool true)) w') :
    Calls Tryz.prog 105 #[v1, v2] w R := by
  have HR := Lib.hid hR; clear hR
  obtain ⟨a1, n, c1, rfl, e1, k1⟩ := h1.open
  obtain ⟨a2, n2, c2, rfl, e2, k2⟩ := h2.open
  obtain rfl : n = n2 := by omega
  have H1 := Lib.hid k1
  have H2 := Lib.hid k2
  have HN := Lib.hid e1
  have HS := Lib.hid hs
  have hnn : n ≤ 1048576 := by omega
  have e0 : ((n : Int) != (n : Int)) = false := by simp
  clear h1 h2 k1 k2 e1 e2 hs hn
  go_enter Tryz.func105, Tryz.ntmps105
  go_wp2
  go_loopw [5] (fun iv wr => ∃ k : Nat, iv = .int .i64 (k : Int) ∧ k ≤ n ∧ Below w.heap.size w wr) (fun iv _ => n - (intOf iv).toNat)
  case atStart => exact ⟨0, rfl, Nat.zero_le _, Below.refl _ _⟩
  case round =>
    obtain ⟨k, rfl, hk, hbel⟩ := hrel
    have HB := Lib.hid hbel
    by_cases hkn : k = n
    · subst hkn
      have hk0 : ¬ ((k : Int) < (k : Int)) := by omega
      clear hbel
      go_wp2
      first | go_ret | skip
      exact HR.out _ HB.out
    · have hkl : k < n := by omega
      obtain ⟨L, hL⟩ : ∃ L, M[k]? = some L := ⟨_, List.getElem?_eq_getElem (by rw [← HN.out]; exact hkl)⟩
      have HLS := Lib.hid (HS.out L (List.mem_of_getElem? hL))
      obtain ⟨b1, o1, x1, m1, y1, rfl, hb1, hc1, t1⟩ := H1.out.at k L hL
      obtain ⟨b2, o2, x2, m2, y2, rfl, hb2, hc2, t2⟩ := H2.out.at k L hL
      rw [← hbel.cell (p := ⟨b1, o1 + k, none⟩) hb1] at hc1
      rw [← hbel.cell (p := ⟨b2, o2 + k, none⟩) hb2] at hc2
      have T1 := Lib.hid (stay_D stay_T _ _ _ _ t1 hbel)
      have T2 := Lib.hid (stay_D stay_T _ _ _ _ t2 hbel)
      have hw1 : IntKind.i64.wrap ((k : Int) + 1) = ((k + 1 : Nat) : Int) := by rw [IntWalk.i64_in _ (by omega)]; omega
      have hk0 : (0 : Int) ≤ (k : Int) := by omega
      have hk1 : (k : Int) < (n : Int) := by omega
      have HKL := Lib.hid hkl
      clear hL t1 t2 hbel hkn
      go_wp2_with fail
      go_region_law (first
        | ((try go_simp); go_at_call 166; refine eqSS_any _ _ L _ (stay_D stay_T _ _ _ _ T1.out (Below.refl _ _).drew) (stay_D stay_T _ _ _ _ T2.out (Below.refl _ _).drew) (by have := HLS.out.1; omega) (fun X hX => by have := (HLS.out.2 X hX).1; omega) _ ?_; intro w3 hb3; have HB3 : Hid (Below w.heap.size w w3) := Lib.hid (HB.out.trans ((below_unD hb3).mono HB.out.size)); clear hb3; dsimp only))
      all_goals
        go_wp2
        go_roundw
        case rel => exact ⟨k + 1, by first | rfl | go_num, HKL.out, HB3.out⟩
        case measure => simp [intOf]; have := HKL.out; omega
end Go.Proofs.YtdkjcdfkoahfkaaGreatDoor

namespace Go.Proofs.YtdkjcdfkoahfkaaGreatDoor
open Go Go.RowKit

/-- a value reads as an automaton of texts -/
def IsAut (w : World) (v : Value) (S E : List ByteArray) (M : List (List (List ByteArray))) : Prop :=
  ∃ s1 s2 s3, v = .agg #[s1, s2, s3] ∧ TxL w s1 S ∧ TxL w s2 E ∧ RdE (RdE TxL) w s3 M
theorem IsAut.later {w w' : World} {v : Value} {S E : List ByteArray} {M : List (List (List ByteArray))} (h : IsAut w v S E M) (hb : Below w.heap.size w w') : IsAut w' v S E M := by
  obtain ⟨s1, s2, s3, rfl, h1, h2, h3⟩ := h
  exact ⟨s1, s2, s3, rfl, h1.later hb (Nat.le_refl _), h2.later hb (Nat.le_refl _), stay_D (stay_D stay_T) _ _ _ _ h3 hb⟩
theorem IsAut.parts {w : World} {v : Value} {S E : List ByteArray} {M : List (List (List ByteArray))} (h : IsAut w v S E M) : ∃ a1 n1 c1 a2 n2 c2 a3 n3 c3, v = .agg #[.slice a1 n1 c1, .slice a2 n2 c2, .slice a3 n3 c3] ∧ n1 = S.length ∧ n2 = E.length ∧ n3 = M.length ∧
    TxL w (.slice a1 n1 c1) S ∧ TxL w (.slice a2 n2 c2) E ∧ RdE (RdE TxL) w (.slice a3 n3 c3) M := by
  obtain ⟨s1, s2, s3, rfl, h1, h2, h3⟩ := h
  obtain ⟨a1, n1, c1, rfl, e1, _, k1⟩ := h1.open
  obtain ⟨a2, n2, c2, rfl, e2, _, k2⟩ := h2.open
  obtain ⟨a3, n3, c3, rfl, e3, k3⟩ := h3.open
  exact ⟨_, _, _, _, _, _, _, _, _, rfl, e1, e2, e3, k1, k2, k3⟩
/-- an automaton of texts whose lists a call owns -/
def OwA (w : World) (B : Nat) (v : Value) (S E : List ByteArray) (M : List (List (List ByteArray))) : Prop :=
  ∃ s1 s2 s3, v = .agg #[s1, s2, s3] ∧ OwT1 w B s1 S ∧ OwT1 w B s2 E ∧ OwL 137 OwT2 w B s3 M
theorem OwA.rd {w : World} {B : Nat} {v : Value} {S E : List ByteArray} {M : List (List (List ByteArray))} (h : OwA w B v S E M) : IsAut w v S E M := by
  obtain ⟨s1, s2, s3, rfl, h1, h2, h3⟩ := h
  exact ⟨s1, s2, s3, rfl, OwE.sl h1, OwE.sl h2, OwL.rd (fun w B x a k => OwT2.rd k) h3⟩
def totA (S E : List ByteArray) (M : List (List (List ByteArray))) : Nat := tot S + tot E + tot3 M
def FineA (S E : List ByteArray) (M : List (List (List ByteArray))) : Prop := FineSS S ∧ FineSS E ∧ M.length ≤ maxLen ∧ ∀ LL ∈ M, FineSSS LL
def SizeA (S E : List ByteArray) (M : List (List (List ByteArray))) : Prop := SizeSS S ∧ SizeSS E ∧ M.length ≤ 1048576 ∧ ∀ LL ∈ M, SizeSSS LL
theorem sizeA {S E : List ByteArray} {M : List (List (List ByteArray))} (h : totA S E M ≤ 1048576) : SizeA S E M := by
  unfold totA at h
  exact ⟨sizeSS (by omega), sizeSS (by omega), (sizeM (by omega)).1, (sizeM (by omega)).2⟩

set_option maxRecDepth 100000 in
set_option maxHeartbeats 2000000 in
theorem szA_any (v : Value) (S E : List ByteArray) (M : List (List (List ByteArray))) (w : World) (left : Nat) (h : IsAut w v S E M) (hf : FineA S E M) (hl : left ≤ 1048576) (R : Ending → World → Prop)
    (hR : ∀ w', Below w.heap.size w w' → totA S E M ≤ left → R (.returned (.int .i64 ((left - totA S E M : Nat) : Int))) w') (hR2 : ∀ w', Below w.heap.size w w' → left < totA S E M → R (.returned (.int .i64 (-1))) w') :
    Calls Tryz.prog 43 #[v, .int .i64 (left : Int)] w R := by
  have HR := Lib.hid hR; clear hR
  have HR2 := Lib.hid hR2; clear hR2
  have HFI := Lib.hid hf; clear hf
  obtain ⟨a1, n1, c1, a2, n2, c2, a3, n3, c3, rfl, e1, e2, e3, h1, h2, h3⟩ := h.parts
  obtain ⟨L, hL⟩ : ∃ L, L = w.alloc (.cells #[.slice a1 n1 c1, .slice a2 n2 c2, .slice a3 n3 c3] 54) := ⟨_, rfl⟩
  have HBL : Hid (Below w.heap.size w L) := Lib.hid (by rw [hL]; exact (Below.refl _ _).alloc (Nat.le_refl _) _)
  have HBX : Hid (Box3 L w.heap.size (.slice a1 n1 c1) (.slice a2 n2 c2) (.slice a3 n3 c3) 54) := Lib.hid (by rw [hL]; exact Box3.made _ _ _ _ _)
  have HL := Lib.hid hL
  have H1 := Lib.hid (h1.later HBL.out (Nat.le_refl _))
  have H2 := Lib.hid (h2.later HBL.out (Nat.le_refl _))
  have H3 := Lib.hid (stay_D (stay_D stay_T) _ _ _ _ h3 HBL.out)
  obtain ⟨⟨hA0, hA1, hA2⟩, _, _, _⟩ := HBX.out.cells
  clear h h1 h2 h3 e1 e2 e3 hL
  go_enter Tryz.func43, Tryz.ntmps43
  rw [HL.out] at hA0 hA1 hA2
  go_wp2_with fail
  rw [← HL.out] at hA0 hA1 hA2 ⊢
  refine szT_any _ S _ left H1.out HFI.out.1.1 HFI.out.1.2 hl _ ?_ ?_
  rotate_left
  · intro ht
    have HF := Lib.hid (HR2.out L HBL.out (by unfold totA; omega))
    clear ht
    dsimp only
    go_wp2
    first | go_ret | skip
    exact HF.out
  intro ht
  obtain ⟨x, hx⟩ : ∃ x : Nat, x = left - tot S := ⟨_, rfl⟩
  have HX := Lib.hid (show left = x + tot S by omega)
  rw [← hx]
  have hx0 : ¬ ((x : Int) < 0) := by omega
  have hxl : x ≤ 1048576 := by omega
  clear ht hx
  dsimp only
  go_wp2_with fail
  refine szT_any _ E _ x H2.out HFI.out.2.1.1 HFI.out.2.1.2 hxl _ ?_ ?_
  rotate_left
  · intro ht
    have HF := Lib.hid (HR2.out L HBL.out (by unfold totA; have := HX.out; omega))
    clear ht
    dsimp only
    go_wp2
    first | go_ret | skip
    exact HF.out
  intro ht
  obtain ⟨y, hy⟩ : ∃ y : Nat, y = x - tot E := ⟨_, rfl⟩
  have HY := Lib.hid (show x = y + tot E by omega)
  rw [← hy]
  have hy0 : ¬ ((y : Int) < 0) := by omega
  have hyl : y ≤ 1048576 := by omega
  clear ht hy
  dsimp only
  go_wp2_with fail
  refine szSSS_any _ M _ y H3.out HFI.out.2.2.1 HFI.out.2.2.2 hyl _ ?_ ?_
  rotate_left
  · intro ht
    have HF := Lib.hid (HR2.out L HBL.out (by unfold totA; have := HX.out; have := HY.out; omega))
    clear ht
    dsimp only
    go_wp2
    first | go_ret | skip
    exact HF.out
  intro ht
  obtain ⟨z, hz⟩ : ∃ z : Nat, z = y - tot3 M := ⟨_, rfl⟩
  have hz2 : left - totA S E M = z := by unfold totA; have := HX.out; have := HY.out; omega
  have HF := Lib.hid (HR.out L HBL.out (by unfold totA; have := HX.out; have := HY.out; omega))
  rw [hz2] at HF
  rw [← hz]
  have hz0 : ¬ ((z : Int) < 0) := by omega
  clear ht hz hz2
  dsimp only
  go_wp2
  first | go_ret | skip
  exact HF.out

theorem fb_set {B : Nat} {w0 w : World} {b o : Nat} {u : Value} (h : Fb B w0 w) (hb : b < B) (hn : NoInt w b) : Fb B w0 (w.setCell ⟨b, o, none⟩ u) := fun Q q h1 h2 => h2 _ _ b (h Q q h1 h2) hb hn ((But.refl b w).setCell o u)
theorem fb_later {B : Nat} {w0 w w' : World} (h : Fb B w0 w) (hb : Below w.heap.size w w') : Fb B w0 w' := fun Q q h1 h2 => h1 _ _ (h Q q h1 h2) hb
theorem Box3.setX {w : World} {b : Nat} {x0 x1 x2 : Value} {t : TypeId} (h : Box3 w b x0 x1 x2 t) (y : Value) : Box3 (w.setCell ⟨b, 0, none⟩ y) b y x1 x2 t ∧ Box3 (w.setCell ⟨b, 1, none⟩ y) b x0 y x2 t ∧ Box3 (w.setCell ⟨b, 2, none⟩ y) b x0 x1 y t := by
  unfold Box3 at *
  refine ⟨?_, ?_, ?_⟩ <;> simp [World.setCell, Array.getElem?_modify, h]
theorem Box3.setOther {w : World} {b g o : Nat} {x0 x1 x2 u : Value} {t : TypeId} (h : Box3 w b x0 x1 x2 t) (hne : b ≠ g) : Box3 (w.setCell ⟨g, o, none⟩ u) b x0 x1 x2 t := by
  unfold Box3 at *
  rw [Below.heap_setCell _ _ _ _ hne]; exact h

set_option maxRecDepth 100000 in
set_option maxHeartbeats 4000000 in
theorem toA_own (v : Value) (S E : List ByteArray) (M : List (List (List ByteArray))) (w : World) (h : IsAut w v S E M) (hs : SizeA S E M) (R : Ending → World → Prop)
    (hR : ∀ v' w', OwA w' w.heap.size v' S E M → Below w.heap.size w w' → R (.returned v') w') :
    Calls Tryz.prog 45 #[v] w R := by
  have HR := Lib.hid hR; clear hR
  have HSZ := Lib.hid hs; clear hs
  obtain ⟨a1, n1, c1, a2, n2, c2, a3, n3, c3, rfl, e1, e2, e3, h1, h2, h3⟩ := h.parts
  obtain ⟨L, hL⟩ : ∃ L, L = ((w.alloc (.cells #[.slice a1 n1 c1, .slice a2 n2 c2, .slice a3 n3 c3] 54)).alloc (.cells #[.slice none 0 0, .slice none 0 0, .slice none 0 0] 57)).alloc (.cells #[.slice none 0 0, .slice none 0 0, .slice none 0 0] 57) := ⟨_, rfl⟩
  have HLS : Hid (L.heap.size = w.heap.size + 3) := Lib.hid (by rw [hL]; simp)
  have B0 : Hid (Box3 L w.heap.size (.slice a1 n1 c1) (.slice a2 n2 c2) (.slice a3 n3 c3) 54) := Lib.hid (by
    rw [hL]; exact ((Box3.made w _ _ _ _).later (B := w.heap.size + 1) ((Below.refl _ _).alloc (by simp) _) (by omega)).later (B := w.heap.size + 2) ((Below.refl _ _).alloc (by simp) _) (by omega))
  have B1 : Hid (Box3 L (w.heap.size + 1) (.slice none 0 0) (.slice none 0 0) (.slice none 0 0) 57) := Lib.hid (by
    have := (Box3.made (w.alloc (.cells #[.slice a1 n1 c1, .slice a2 n2 c2, .slice a3 n3 c3] 54)) (.slice none 0 0) (.slice none 0 0) (.slice none 0 0) 57).later (B := w.heap.size + 2) ((Below.refl _ _).alloc (by simp) (.cells #[.slice none 0 0, .slice none 0 0, .slice none 0 0] 57)) (by simp)
    rw [World.size_alloc, ← hL] at this; exact this)
  have B2 : Hid (Box3 L (w.heap.size + 2) (.slice none 0 0) (.slice none 0 0) (.slice none 0 0) 57) := Lib.hid (by
    have := Box3.made ((w.alloc (.cells #[.slice a1 n1 c1, .slice a2 n2 c2, .slice a3 n3 c3] 54)).alloc (.cells #[.slice none 0 0, .slice none 0 0, .slice none 0 0] 57)) (.slice none 0 0) (.slice none 0 0) (.slice none 0 0) 57
    rw [World.size_alloc, World.size_alloc, ← hL] at this; exact this)
  have HEX : Hid (Below w.heap.size w L) := Lib.hid (by rw [hL]; exact (((Below.refl w.heap.size w).alloc (Nat.le_refl _) _).alloc (by simp) _).alloc (by simp; omega) _)
  have H1 := Lib.hid h1
  have H2 := Lib.hid h2
  have H3 := Lib.hid h3
  have HL := Lib.hid hL
  obtain ⟨⟨hA0, hA1, hA2⟩, _, _, _⟩ := B0.out.cells
  clear h h1 h2 h3 e1 e2 e3
  go_enter Tryz.func45, Tryz.ntmps45
  rw [hL] at hA0 hA1 hA2
  clear hL
  go_wp2_with fail
  rw [← HL.out] at hA0 hA1 hA2 ⊢
  refine toT_own _ S L (H1.out.later HEX.out (Nat.le_refl _)) HSZ.out.1.1 _ ?_
  intro v1 w1 hv1 hb1
  obtain ⟨x1, m1, y1, rfl, ex1⟩ := hv1.shape
  have HV1 : Hid (OwT1 w1 L.heap.size (.slice x1 m1 y1) S) := Lib.hid hv1
  have B0a := Lib.hid (B0.out.later hb1 (by have := HLS.out; omega))
  have B1a := Lib.hid (B1.out.later hb1 (by have := HLS.out; omega))
  have B2a := Lib.hid (B2.out.later hb1 (by have := HLS.out; omega))
  obtain ⟨W1, hW1⟩ : ∃ W1, W1 = w1.setCell ⟨w.heap.size + 2, 0, none⟩ (.slice x1 m1 y1) := ⟨_, rfl⟩
  have HW1 := Lib.hid hW1
  have B0b : Hid (Box3 W1 w.heap.size (.slice a1 n1 c1) (.slice a2 n2 c2) (.slice a3 n3 c3) 54) := Lib.hid (by rw [hW1]; exact B0a.out.setOther (by omega))
  have B1b : Hid (Box3 W1 (w.heap.size + 1) (.slice none 0 0) (.slice none 0 0) (.slice none 0 0) 57) := Lib.hid (by rw [hW1]; exact B1a.out.setOther (by omega))
  have B2b : Hid (Box3 W1 (w.heap.size + 2) (.slice x1 m1 y1) (.slice none 0 0) (.slice none 0 0) 57) := Lib.hid (by rw [hW1]; exact (B2a.out.setX _).1)
  have F1 : Hid (Fb L.heap.size w1 W1) := Lib.hid (by rw [hW1]; exact fb_set (Fb.refl _ _) (by have := HLS.out; omega) (B2a.out.noInt rfl rfl rfl))
  have HBW1 : Hid (Below w.heap.size w W1) := Lib.hid (by rw [hW1]; exact (HEX.out.trans (hb1.mono HEX.out.size)).setCell (by simp) _)
  have HZ1 : Hid (L.heap.size ≤ W1.heap.size) := Lib.hid (by rw [hW1, heap_size_set]; exact hb1.size)
  obtain ⟨⟨hC0, hC1, hC2⟩, hF0, hF1, hF2⟩ := B2a.out.cells
  clear hA0 hA1 hA2
  obtain ⟨⟨hA0, hA1, hA2⟩, _, _, _⟩ := B0b.out.cells
  rw [hW1] at hA0 hA1 hA2
  clear hv1 hb1 ex1 hW1
  dsimp only
  go_wp2_with fail
  rw [← HW1.out] at hA0 hA1 hA2 ⊢
  refine toT_own _ E W1 (H2.out.later HBW1.out (Nat.le_refl _)) HSZ.out.2.1.1 _ ?_
  intro v2 w2 hv2 hb2
  obtain ⟨x2, m2, y2, rfl, ex2⟩ := hv2.shape
  have HV2 : Hid (OwT1 w2 L.heap.size (.slice x2 m2 y2) E) := Lib.hid (OwE.mono hv2 HZ1.out)
  have B0c := Lib.hid (B0b.out.later hb2 (lt_of_block B0b.out))
  have B1c := Lib.hid (B1b.out.later hb2 (lt_of_block B1b.out))
  have B2c := Lib.hid (B2b.out.later hb2 (lt_of_block B2b.out))
  obtain ⟨W2, hW2⟩ : ∃ W2, W2 = w2.setCell ⟨w.heap.size + 2, 1, none⟩ (.slice x2 m2 y2) := ⟨_, rfl⟩
  have HW2 := Lib.hid hW2
  have B0d : Hid (Box3 W2 w.heap.size (.slice a1 n1 c1) (.slice a2 n2 c2) (.slice a3 n3 c3) 54) := Lib.hid (by rw [hW2]; exact B0c.out.setOther (by omega))
  have B1d : Hid (Box3 W2 (w.heap.size + 1) (.slice none 0 0) (.slice none 0 0) (.slice none 0 0) 57) := Lib.hid (by rw [hW2]; exact B1c.out.setOther (by omega))
  have B2d : Hid (Box3 W2 (w.heap.size + 2) (.slice x1 m1 y1) (.slice x2 m2 y2) (.slice none 0 0) 57) := Lib.hid (by rw [hW2]; exact (B2c.out.setX _).2.1)
  have F1b : Hid (Fb L.heap.size w1 W2) := Lib.hid (by rw [hW2]; exact fb_set (fb_later F1.out hb2) (by have := HLS.out; omega) (B2c.out.noInt rfl rfl rfl))
  have F2 : Hid (Fb L.heap.size w2 W2) := Lib.hid (by rw [hW2]; exact fb_set (Fb.refl _ _) (by have := HLS.out; omega) (B2c.out.noInt rfl rfl rfl))
  have HBW2 : Hid (Below w.heap.size w W2) := Lib.hid (by rw [hW2]; exact (HBW1.out.trans (hb2.mono HBW1.out.size)).setCell (by simp) _)
  have HZ2 : Hid (L.heap.size ≤ W2.heap.size) := Lib.hid (by rw [hW2, heap_size_set]; exact Nat.le_trans HZ1.out hb2.size)
  clear hC0 hC1 hC2 hF0 hF1 hF2
  obtain ⟨⟨hC0, hC1, hC2⟩, hF0, hF1, hF2⟩ := B2c.out.cells
  clear hA0 hA1 hA2
  obtain ⟨⟨hA0, hA1, hA2⟩, _, _, _⟩ := B0d.out.cells
  rw [hW2] at hA0 hA1 hA2
  clear hv2 hb2 ex2 hW2
  dsimp only
  go_wp2_with fail
  rw [← HW2.out] at hA0 hA1 hA2 ⊢
  refine toSSS_own _ M W2 (stay_D (stay_D stay_T) _ _ _ _ H3.out HBW2.out) HSZ.out.2.2.1 HSZ.out.2.2.2 _ ?_
  intro v3 w3 hv3 hb3
  obtain ⟨x3, m3, y3, rfl, ex3⟩ := hv3.shape
  have HV3 := Lib.hid ((fbL fbT2 137).2.2 _ _ _ _ _ hv3 HZ2.out)
  have B1e := Lib.hid (B1d.out.later hb3 (lt_of_block B1d.out))
  have B2e := Lib.hid (B2d.out.later hb3 (lt_of_block B2d.out))
  have F1c := Lib.hid (fb_later F1b.out hb3)
  have F2c := Lib.hid (fb_later F2.out hb3)
  have HB3 := Lib.hid (HBW2.out.trans (hb3.mono HBW2.out.size))
  clear hC0 hC1 hC2 hF0 hF1 hF2 hA0 hA1 hA2
  obtain ⟨⟨hC0, hC1, hC2⟩, hF0, hF1, hF2⟩ := B2e.out.cells
  obtain ⟨⟨hD0, hD1, hD2⟩, hG0, hG1, hG2⟩ := B1e.out.cells
  have q1 : ¬ w.heap.size + 1 = w.heap.size + 2 := by omega
  have q2 : ¬ w.heap.size + 2 = w.heap.size + 1 := by omega
  clear hv3 hb3 ex3
  dsimp only
  go_wp2
  refine bodyPost_ret_at (by simp [results, Tryz.results45, go_sem, hC0, hC1, hC2, hF0, hF1, hF2, hD0, hD1, hD2, hG0, hG1, hG2] <;> rfl) rfl ?_
  have n2 := B2e.out.noInt rfl rfl rfl
  have l1 : w.heap.size + 1 < L.heap.size := by have := HLS.out; omega
  have l2 : w.heap.size + 2 < L.heap.size := by have := HLS.out; omega
  have k1 := (B1e.out.setOther (g := w.heap.size + 2) (o := 2) (u := .slice x3 m3 y3) (by omega)).noInt rfl rfl rfl
  have ff : ∀ w0, Fb L.heap.size w0 w3 → Fb L.heap.size w0 ((((w3.setCell ⟨w.heap.size + 2, 2, none⟩ (.slice x3 m3 y3)).setCell ⟨w.heap.size + 1, 0, none⟩ (.slice x1 m1 y1)).setCell ⟨w.heap.size + 1, 1, none⟩ (.slice x2 m2 y2)).setCell ⟨w.heap.size + 1, 2, none⟩ (.slice x3 m3 y3)) := fun w0 hf =>
    fb_set (fb_set (fb_set (fb_set hf l2 n2) l1 k1) l1 (k1.set 0 _ rfl)) l1 ((k1.set 0 _ rfl).set 1 _ rfl)
  have hle : w.heap.size ≤ L.heap.size := by have := HLS.out; omega
  exact HR.out _ _ ⟨_, _, _, rfl, OwE.mono (OwE.fb elemT HV1.out (ff _ F1c.out)) hle, OwE.mono (OwE.fb elemT HV2.out (ff _ F2c.out)) hle, (fbL fbT2 137).2.2 _ _ _ _ _ ((fbL fbT2 137).1 _ _ _ _ _ HV3.out (ff _ (Fb.refl _ _))) hle⟩
    ((((HB3.out.setCell (by simp <;> omega) _).setCell (by simp) _).setCell (by simp) _).setCell (by simp) _)

set_option maxRecDepth 100000 in
set_option maxHeartbeats 4000000 in
theorem eqA_any (v1 v2 : Value) (S E : List ByteArray) (M : List (List (List ByteArray))) (w : World) (h1 : IsAut w v1 S E M) (h2 : IsAut w v2 S E M) (hs : SizeA S E M) (R : Ending → World → Prop)
    (hR : ∀ w', Below w.heap.size w w' → R (.returned (.bool true)) w') :
    Calls Tryz.prog 47 #[v1, v2] w R := by
  have HR := Lib.hid hR; clear hR
  have HSZ := Lib.hid hs; clear hs
  obtain ⟨a1, n1, c1, a2, n2, c2, a3, n3, c3, rfl, u1, u2, u3, k1, k2, k3⟩ := h1.parts
  obtain ⟨b1, m1, d1, b2, m2, d2, b3, m3, d3, rfl, u4, u5, u6, p1, p2, p3⟩ := h2.parts
  clear u1 u2 u3 u4 u5 u6
  obtain ⟨L, hL⟩ : ∃ L, L = (w.alloc (.cells #[.slice a1 n1 c1, .slice a2 n2 c2, .slice a3 n3 c3] 57)).alloc (.cells #[.slice b1 m1 d1, .slice b2 m2 d2, .slice b3 m3 d3] 57) := ⟨_, rfl⟩
  have hb1 : Below (w.heap.size + 1) (w.alloc (.cells #[.slice a1 n1 c1, .slice a2 n2 c2, .slice a3 n3 c3] 57)) L := by rw [hL]; exact (Below.refl _ _).alloc (by simp) _
  have B0 : Hid (Box3 L w.heap.size (.slice a1 n1 c1) (.slice a2 n2 c2) (.slice a3 n3 c3) 57) := Lib.hid ((Box3.made w _ _ _ _).later hb1 (by omega))
  have B1 : Hid (Box3 L (w.heap.size + 1) (.slice b1 m1 d1) (.slice b2 m2 d2) (.slice b3 m3 d3) 57) := Lib.hid (by
    have := Box3.made (w.alloc (.cells #[.slice a1 n1 c1, .slice a2 n2 c2, .slice a3 n3 c3] 57)) (.slice b1 m1 d1) (.slice b2 m2 d2) (.slice b3 m3 d3) 57
    rw [World.size_alloc, ← hL] at this; exact this)
  have HEX : Hid (Below w.heap.size w L) := Lib.hid (by rw [hL]; exact ((Below.refl w.heap.size w).alloc (Nat.le_refl _) _).alloc (by simp) _)
  have K1 := Lib.hid (k1.later HEX.out (Nat.le_refl _))
  have K2 := Lib.hid (k2.later HEX.out (Nat.le_refl _))
  have K3 := Lib.hid (stay_D (stay_D stay_T) _ _ _ _ k3 HEX.out)
  have P1 := Lib.hid (p1.later HEX.out (Nat.le_refl _))
  have P2 := Lib.hid (p2.later HEX.out (Nat.le_refl _))
  have P3 := Lib.hid (stay_D (stay_D stay_T) _ _ _ _ p3 HEX.out)
  have HL := Lib.hid hL
  have HLS : Hid (L.heap.size = w.heap.size + 2) := Lib.hid (by rw [hL]; simp)
  obtain ⟨⟨hA0, hA1, hA2⟩, _, _, _⟩ := B0.out.cells
  obtain ⟨⟨hC0, hC1, hC2⟩, _, _, _⟩ := B1.out.cells
  rw [hL] at hA0 hA1 hA2 hC0 hC1 hC2
  clear h1 h2 k1 k2 k3 p1 p2 p3 hb1 hL
  go_enter Tryz.func47, Tryz.ntmps47
  go_wp2_with fail
  rw [← HL.out] at hA0 hA1 hA2 hC0 hC1 hC2 ⊢
  refine eqT_any _ _ S S L K1.out P1.out (by have := HSZ.out.1.1; omega) (by have := HSZ.out.1.1; omega) _ ?_
  intro w3 hb3
  rw [decide_eq_true rfl]
  have HB3 := Lib.hid hb3
  have B0a := Lib.hid (B0.out.later hb3 (by have := HLS.out; omega))
  have B1a := Lib.hid (B1.out.later hb3 (by have := HLS.out; omega))
  clear hA0 hA1 hA2 hC0 hC1 hC2 hb3
  obtain ⟨⟨hA0, hA1, hA2⟩, _, _, _⟩ := B0a.out.cells
  obtain ⟨⟨hC0, hC1, hC2⟩, _, _, _⟩ := B1a.out.cells
  dsimp only
  go_wp2_with fail
  refine eqT_any _ _ E E w3 (K2.out.later HB3.out (Nat.le_refl _)) (P2.out.later HB3.out (Nat.le_refl _)) (by have := HSZ.out.2.1.1; omega) (by have := HSZ.out.2.1.1; omega) _ ?_
  intro w4 hb4
  rw [decide_eq_true rfl]
  have HB4 := Lib.hid (HB3.out.trans (hb4.mono HB3.out.size))
  have B0b := Lib.hid (B0a.out.later hb4 (lt_of_block B0a.out))
  have B1b := Lib.hid (B1a.out.later hb4 (lt_of_block B1a.out))
  clear hA0 hA1 hA2 hC0 hC1 hC2 hb4
  obtain ⟨⟨hA0, hA1, hA2⟩, _, _, _⟩ := B0b.out.cells
  obtain ⟨⟨hC0, hC1, hC2⟩, _, _, _⟩ := B1b.out.cells
  dsimp only
  go_wp2_with fail
  refine eqSSS_any _ _ M w4 (stay_D (stay_D stay_T) _ _ _ _ K3.out HB4.out) (stay_D (stay_D stay_T) _ _ _ _ P3.out HB4.out) HSZ.out.2.2.1 HSZ.out.2.2.2 _ ?_
  intro w5 hb5
  have HB5 := Lib.hid (HEX.out.trans ((HB4.out.trans (hb5.mono HB4.out.size)).mono HEX.out.size))
  clear hA0 hA1 hA2 hC0 hC1 hC2 hb5
  dsimp only
  go_wp2
  first | go_ret | skip
  exact HR.out _ HB5.out
end Go.Proofs.YtdkjcdfkoahfkaaGreatDoor

namespace Go.Proofs.YtdkjcdfkoahfkaaGreatDoor
open Go Go.RowKit

set_option maxRecDepth 100000 in
theorem in_any (n low high : Int) (w : World) (R : Ending → World → Prop) (hR : R (.returned (.bool (decide (low ≤ n ∧ n ≤ high)))) w) :
    Calls Tryz.prog 161 #[.int .i64 n, .int .i64 low, .int .i64 high] w R := by
  have HR := Lib.hid hR; clear hR
  by_cases h1 : low ≤ n
  · by_cases h2 : n ≤ high
    · rw [decide_eq_true ⟨h1, h2⟩] at HR
      go_enter Tryz.func161, Tryz.ntmps161
      go_wp2
      first | go_ret | skip
      exact HR.out
    · rw [decide_eq_false (fun h => h2 h.2)] at HR
      go_enter Tryz.func161, Tryz.ntmps161
      go_wp2
      first | go_ret | skip
      exact HR.out
  · rw [decide_eq_false (fun h => h1 h.1)] at HR
    go_enter Tryz.func161, Tryz.ntmps161
    go_wp2
    first | go_ret | skip
    exact HR.out

end Go.Proofs.YtdkjcdfkoahfkaaGreatDoor

namespace Go.Proofs.YtdkjcdfkoahfkaaGreatDoor
open Go Go.RowKit

/-- whether texts are a row of n numbers -/
noncomputable def rowB (n : Nat) (L : List ByteArray) : Bool := decide (L.length = n) && L.all isNum
/-- whether texts are a matrix with n rows and columns -/
noncomputable def matB (n : Nat) (LL : List (List ByteArray)) : Bool := decide (LL.length = n) && LL.all (rowB n)
/-- whether texts are an automaton -/
noncomputable def autB (S E : List ByteArray) (M : List (List (List ByteArray))) : Bool :=
  decide (S.length ≤ 6) && (decide (E.length = S.length) && (S.all isNum && (E.all isNum && (decide (1 ≤ M.length ∧ M.length ≤ 3) && M.all (matB S.length)))))
theorem all_succ {α : Type} {f : α → Bool} {l : List α} {k : Nat} {x : α} (h : l[k]? = some x) : (l.take (k + 1)).all f = ((l.take k).all f && f x) := by
  rw [List.take_add_one, h, List.all_append]; simp
theorem all_false {α : Type} {f : α → Bool} {l : List α} {k : Nat} {x : α} (h : l[k]? = some x) (hf : f x = false) : l.all f = false := by
  cases hh : l.all f with
  | false => rfl
  | true => rw [List.all_eq_true.1 hh x (List.mem_of_getElem? h)] at hf; cases hf

def AutRel (w : World) (n : Nat) (M : List (List (List ByteArray))) (x : Value) (wr : World) : Prop :=
  ∃ k : Nat, x = .int .i64 (k : Int) ∧ k ≤ M.length ∧ (M.take k).all (matB n) = true ∧ Below w.heap.size w wr
def MatRel (w : World) (n : Nat) (LL : List (List ByteArray)) (x : Value) (wr : World) : Prop :=
  ∃ i : Nat, x = .int .i64 (i : Int) ∧ i ≤ n ∧ (LL.take i).all (rowB n) = true ∧ Below w.heap.size w wr

set_option maxRecDepth 100000 in
set_option maxHeartbeats 8000000 in
theorem l06is_any (b : Nat) (v1 v2 v3 : Value) (S E : List ByteArray) (M : List (List (List ByteArray))) (w : World) (hbx : Box3 w b v1 v2 v3 57) (h : IsAut w (.agg #[v1, v2, v3]) S E M) (hs : SizeA S E M) (R : Ending → World → Prop)
    (hR : ∀ w', Below w.heap.size w w' → R (.returned (.bool (autB S E M))) w') :
    Calls Tryz.prog 102 #[.pointer (some ⟨b, 0, none⟩)] w R := by
  have HR := Lib.hid hR; clear hR
  have HSZ := Lib.hid hs; clear hs
  obtain ⟨a1, n, c1, a2, n2, c2, a3, n3, c3, e0, u1, u2, u3, k1, k2, k3⟩ := h.parts
  simp at e0
  obtain ⟨rfl, rfl, rfl⟩ := e0
  have HN := Lib.hid (And.intro u1 (And.intro u2 u3))
  have HBX := Lib.hid hbx
  have K1 := Lib.hid k1
  have K2 := Lib.hid k2
  have K3 := Lib.hid k3
  have HOFF : Hid (∀ w', autB S E M = false → Below w.heap.size w w' → R (.returned (.bool false)) w') := Lib.hid (fun w' hf hb => by have := HR.out w' hb; rw [hf] at this; exact this)
  obtain ⟨⟨hA0, hA1, hA2⟩, _, _, _⟩ := hbx.cells
  have hb1 := lt_of_block hbx
  clear hbx h k1 k2 k3 u1 u2 u3
  by_cases h6 : 6 < n
  · have e1 : (6 : Int) < (n : Int) := by omega
    have HF := Lib.hid (HOFF.out w (by unfold autB; rw [decide_eq_false (by have := HN.out.1; omega), Bool.false_and]) (Below.refl _ _))
    clear h6
    go_enter Tryz.func102, Tryz.ntmps102
    go_wp2
    first | go_ret | skip
    exact HF.out
  have e1 : ¬ (6 : Int) < (n : Int) := by omega
  by_cases hne : ¬ n2 = n
  · have e2 : ((n2 : Int) != (n : Int)) = true := by rw [bne_iff_ne]; omega
    have HF := Lib.hid (HOFF.out w (by unfold autB; rw [decide_eq_false (p := E.length = S.length) (by have := HN.out; omega), Bool.false_and, Bool.and_false]) (Below.refl _ _))
    clear h6 hne
    go_enter Tryz.func102, Tryz.ntmps102
    go_wp2
    first | go_ret | skip
    exact HF.out
  obtain rfl : n2 = n := Classical.not_not.1 hne
  have e2 : ((n2 : Int) != (n2 : Int)) = false := by simp
  have HN6 := Lib.hid (show n2 ≤ 6 by omega)
  clear hne h6
  go_enter Tryz.func102, Tryz.ntmps102
  go_wp2_with fail
  refine isList_any _ S _ K1.out HSZ.out.1.1 HSZ.out.1.2 _ ?_
  intro w3 hb3
  have HB3 := Lib.hid hb3
  have HX3 := Lib.hid (HBX.out.later hb3 hb1)
  clear hA0 hA1 hA2 hb3
  obtain ⟨⟨hA0, hA1, hA2⟩, _, _, _⟩ := HX3.out.cells
  rw [show (decide (S.length ≤ 60) && S.all isNum) = S.all isNum by rw [decide_eq_true (by have := HN.out.1; have := HN6.out; omega), Bool.true_and]]
  dsimp only
  cases hS : S.all isNum with
  | false =>
    have HF := Lib.hid (HOFF.out w3 (by unfold autB; rw [hS]; simp) HB3.out)
    clear hS
    go_wp2
    first | go_ret | skip
    exact HF.out
  | true =>
  have HSN := Lib.hid hS
  clear hS
  go_wp2_with fail
  refine isList_any _ E _ (K2.out.later HB3.out (Nat.le_refl _)) HSZ.out.2.1.1 HSZ.out.2.1.2 _ ?_
  intro w4 hb4
  have HB4 := Lib.hid (HB3.out.trans (hb4.mono HB3.out.size))
  have HX4 := Lib.hid (HX3.out.later hb4 (lt_of_block HX3.out))
  clear hA0 hA1 hA2 hb4
  obtain ⟨⟨hA0, hA1, hA2⟩, _, _, _⟩ := HX4.out.cells
  rw [show (decide (E.length ≤ 60) && E.all isNum) = E.all isNum by rw [decide_eq_true (by have := HN.out.2.1; have := HN6.out; omega), Bool.true_and]]
  dsimp only
  cases hE : E.all isNum with
  | false =>
    have HF := Lib.hid (HOFF.out w4 (by unfold autB; rw [hE]; simp) HB4.out)
    clear hE
    go_wp2
    first | go_ret | skip
    exact HF.out
  | true =>
  have HEN := Lib.hid hE
  clear hE
  go_wp2_with fail
  refine in_any _ _ _ _ _ ?_
  dsimp only
  cases hM : decide ((1 : Int) ≤ (n3 : Int) ∧ (n3 : Int) ≤ 3) with
  | false =>
    have HF := Lib.hid (HOFF.out w4 (by
      have := of_decide_eq_false hM
      unfold autB
      rw [decide_eq_false (p := 1 ≤ M.length ∧ M.length ≤ 3) (by have := HN.out.2.2; omega)]
      simp) HB4.out)
    clear hM
    go_wp2
    first | go_ret | skip
    exact HF.out
  | true =>
  have hM3 := of_decide_eq_true hM
  have HM3 := Lib.hid (show 1 ≤ n3 ∧ n3 ≤ 3 by omega)
  have HTR : Hid (autB S E M = M.all (matB n2)) := Lib.hid (by
    unfold autB
    rw [HSN.out, HEN.out, decide_eq_true (p := S.length ≤ 6) (by have := HN.out.1; have := HN6.out; omega), decide_eq_true (p := E.length = S.length) (by have := HN.out; omega), decide_eq_true (p := 1 ≤ M.length ∧ M.length ≤ 3) (by have := HN.out.2.2; omega), ← HN.out.1]
    simp)
  have HST : Hid (AutRel w4 n2 M (.int .i64 0) w4) := Lib.hid ⟨0, rfl, Nat.zero_le _, by simp, Below.refl _ _⟩
  have hb4 := lt_of_block HX4.out
  clear hM hM3 e1 e2
  go_wp2
  clear hA0 hA1 hA2
  go_loopw [4] (fun x wr => AutRel w4 n2 M x wr) (fun x _ => n3 - (intOf x).toNat)
  case atStart => exact HST.out
  case round =>
  clear HST
  obtain ⟨k, rfl, hk, hall, hbel⟩ := hrel
  have HB := Lib.hid hbel
  have HALL := Lib.hid hall
  have HXR := Lib.hid (HX4.out.later hbel hb4)
  obtain ⟨⟨hA0, hA1, hA2⟩, _, _, _⟩ := HXR.out.cells
  by_cases hkn : k = n3
  · subst hkn
    have hkk : ¬ ((k : Int) < (k : Int)) := by omega
    have hfin : autB S E M = true := by
      rw [HTR.out]
      rw [HN.out.2.2, List.take_length] at hall
      exact hall
    have HF := Lib.hid (HR.out wr (HB4.out.trans (HB.out.mono HB4.out.size)))
    rw [hfin] at HF
    clear hall hbel hfin hk
    go_wp2
    first | go_ret | skip
    exact HF.out
  have hkl : k < n3 := by have := HN.out.2.2; omega
  obtain ⟨LL, hLL⟩ : ∃ LL, M[k]? = some LL := ⟨_, List.getElem?_eq_getElem (by have := HN.out.2.2; omega)⟩
  have HLLS := Lib.hid (HSZ.out.2.2.2 LL (List.mem_of_getElem? hLL))
  have HK3 := Lib.hid (stay_D (stay_D stay_T) _ _ _ _ K3.out (HB4.out.trans (HB.out.mono HB4.out.size)))
  obtain ⟨b3, o3, q, m, c, rfl, hb5, hcell, hP⟩ := HK3.out.at k LL hLL
  have HPP := Lib.hid hP
  obtain ⟨_, m', _, e5, e6, _⟩ := hP.open
  simp only [Value.slice.injEq] at e5
  obtain ⟨rfl, rfl, rfl⟩ := e5
  have HML := Lib.hid e6
  have hk1 : (k : Int) < (n3 : Int) := by omega
  have hk0 : (0 : Int) ≤ (k : Int) := by omega
  have hw1 : IntKind.i64.wrap ((k : Int) + 1) = ((k + 1 : Nat) : Int) := by rw [IntWalk.i64_in _ (by have := HM3.out; omega)]; omega
  have HLLG := Lib.hid hLL
  have HKL := Lib.hid hkl
  clear hall hbel hk hkn hLL hP e6 hb5 hkl
  by_cases hmn : ¬ m = n2
  · have e7 : ((m : Int) != (n2 : Int)) = true := by rw [bne_iff_ne]; omega
    have HF := Lib.hid (HOFF.out wr (by
      rw [HTR.out]
      exact all_false HLLG.out (by unfold matB; rw [decide_eq_false (by have := HML.out; omega), Bool.false_and])) (HB4.out.trans (HB.out.mono HB4.out.size)))
    clear hmn
    go_wp2
    first | go_ret | skip
    exact HF.out
  have hmE : n2 = m := (Classical.not_not.1 hmn).symm
  clear hmn
  subst hmE
  have e7 : ((n2 : Int) != (n2 : Int)) = false := by simp
  obtain ⟨wo, hwo⟩ : ∃ wo, wo = wr := ⟨_, rfl⟩
  have HWO := Lib.hid hwo
  have HST : Hid (MatRel wo n2 LL (.int .i64 0) wo) := Lib.hid ⟨0, rfl, Nat.zero_le _, by simp, Below.refl _ _⟩
  clear hwo
  go_wp2
  rw [← HWO.out] at HB HXR HPP hcell HK3 ⊢
  clear hA0 hA1 hA2 HWO e7
  go_loopw [5] (fun x wr2 => MatRel wo n2 LL x wr2) (fun x _ => n2 - (intOf x).toNat)
  case atStart => exact HST.out
  case round =>
  clear HST
  obtain ⟨i, rfl, hi, hali, hbel⟩ := hrel
  have HBI := Lib.hid hbel
  have HALI := Lib.hid hali
  have HBO : Hid (Below w.heap.size w wr) := Lib.hid ((HB4.out.trans (HB.out.mono HB4.out.size)).trans (HBI.out.mono (HB4.out.trans (HB.out.mono HB4.out.size)).size))
  have HXI := Lib.hid (HXR.out.later hbel (lt_of_block HXR.out))
  obtain ⟨⟨hA0, hA1, hA2⟩, _, _, _⟩ := HXI.out.cells
  have hb5 : b3 < wo.heap.size := by
    obtain ⟨_, _, _, _, _, e, hlt, _⟩ := HK3.out.at k LL HLLG.out
    cases e
    exact hlt
  have hcell2 : wr.cell? ⟨b3, o3 + k, none⟩ = some (.slice q n2 c) := by rw [hbel.cell (p := ⟨b3, o3 + k, none⟩) hb5]; exact hcell
  by_cases hin : i = n2
  · subst hin
    have hii : ¬ ((i : Int) < (i : Int)) := by omega
    have hfin : (M.take (k + 1)).all (matB i) = true := by
      rw [all_succ HLLG.out, HALL.out]
      have h9 : LL.take i = LL := by rw [HML.out, List.take_length]
      rw [h9] at hali
      unfold matB
      rw [decide_eq_true HML.out.symm, hali]
      rfl
    have HREL : Hid (AutRel w4 i M (.int .i64 ((k + 1 : Nat) : Int)) wr) := Lib.hid ⟨k + 1, rfl, by have := HN.out.2.2; have := HKL.out; omega, hfin, HB.out.trans (HBI.out.mono HB.out.size)⟩
    clear hali hbel hfin hi hb5
    go_wp2
    go_roundw
    case rel => exact HREL.out
    case measure => simp [intOf]; have := HKL.out; omega
  have hil : i < n2 := by omega
  obtain ⟨L, hL⟩ : ∃ L, LL[i]? = some L := ⟨_, List.getElem?_eq_getElem (by have := HML.out; omega)⟩
  have HLS := Lib.hid (HLLS.out.2 L (List.mem_of_getElem? hL))
  have HPI := Lib.hid (stay_D stay_T _ _ _ _ HPP.out hbel)
  obtain ⟨b4, o4, q4, m4, c4, rfl, hb6, hcell4, hT⟩ := HPI.out.at i L hL
  have HT := Lib.hid hT
  obtain ⟨_, m5, _, e5, e6, _, _⟩ := hT.open
  simp only [Value.slice.injEq] at e5
  obtain ⟨rfl, rfl, rfl⟩ := e5
  have HLM := Lib.hid e6
  have HLG := Lib.hid hL
  have hi1 : (i : Int) < (n2 : Int) := by omega
  have hi0 : (0 : Int) ≤ (i : Int) := by omega
  have hw2 : IntKind.i64.wrap ((i : Int) + 1) = ((i + 1 : Nat) : Int) := by rw [IntWalk.i64_in _ (by have := HN6.out; omega)]; omega
  have HIL := Lib.hid hil
  clear hali hbel hi hin hL hT e6 hb6 hb5 hil
  by_cases hmm : ¬ m4 = n2
  · have e8 : ((m4 : Int) != (n2 : Int)) = true := by rw [bne_iff_ne]; omega
    have HF := Lib.hid (HOFF.out wr (by
      rw [HTR.out]
      refine all_false HLLG.out ?_
      unfold matB
      rw [all_false HLG.out (by unfold rowB; rw [decide_eq_false (by have := HLM.out; omega), Bool.false_and]), Bool.and_false]) HBO.out)
    clear hmm
    go_wp2
    first | go_ret | skip
    exact HF.out
  have hmE : n2 = m4 := (Classical.not_not.1 hmm).symm
  clear hmm
  subst hmE
  have e8 : ((n2 : Int) != (n2 : Int)) = false := by simp
  go_wp2_with fail
  refine isList_any _ L _ HT.out HLS.out.1 HLS.out.2 _ ?_
  intro w7 hb7
  have HB7 := Lib.hid (HBO.out.trans (hb7.mono HBO.out.size))
  have HBI7 := Lib.hid (HBI.out.trans (hb7.mono HBI.out.size))
  clear hA0 hA1 hA2 hb7 hcell2 hcell4
  rw [show (decide (L.length ≤ 60) && L.all isNum) = L.all isNum by rw [decide_eq_true (by have := HLM.out; have := HN6.out; omega), Bool.true_and]]
  dsimp only
  cases hx : L.all isNum with
  | false =>
    have HF := Lib.hid (HOFF.out w7 (by
      rw [HTR.out]
      refine all_false HLLG.out ?_
      unfold matB
      rw [all_false HLG.out (by unfold rowB; rw [hx, Bool.and_false]), Bool.and_false]) HB7.out)
    clear hx
    go_wp2
    first | go_ret | skip
    exact HF.out
  | true =>
    have HREL : Hid (MatRel wo n2 LL (.int .i64 ((i + 1 : Nat) : Int)) w7) := Lib.hid ⟨i + 1, rfl, HIL.out, by rw [all_succ HLG.out, HALI.out]; unfold rowB; rw [hx, decide_eq_true HLM.out.symm]; rfl, HBI7.out⟩
    clear hx
    go_wp2
    go_roundw
    case rel => exact HREL.out
    case measure => simp [intOf]; have := HIL.out; omega

set_option maxRecDepth 100000 in
set_option maxHeartbeats 2000000 in
theorem spec_vaut (v : Value) (S E : List ByteArray) (M : List (List (List ByteArray))) (w : World) (h : IsAut w v S E M) (hs : SizeA S E M) (R : Ending → World → Prop)
    (hR : ∀ w', Below w.heap.size w w' → R (.returned (.bool (autB S E M))) w') :
    Calls Tryz.prog 44 #[v] w R := by
  have HR := Lib.hid hR; clear hR
  obtain ⟨a1, n1, c1, a2, n2, c2, a3, n3, c3, rfl, u1, u2, u3, _, _, _⟩ := h.parts
  obtain ⟨L, hL⟩ : ∃ L, L = w.alloc (.cells #[.slice a1 n1 c1, .slice a2 n2 c2, .slice a3 n3 c3] 57) := ⟨_, rfl⟩
  have HBL : Hid (Below w.heap.size w L) := Lib.hid (by rw [hL]; exact (Below.refl _ _).alloc (Nat.le_refl _) _)
  have HBX : Hid (Box3 L w.heap.size (.slice a1 n1 c1) (.slice a2 n2 c2) (.slice a3 n3 c3) 57) := Lib.hid (by rw [hL]; exact Box3.made _ _ _ _ _)
  have HL := Lib.hid hL
  have HA := Lib.hid (h.later HBL.out)
  have HSZ := Lib.hid hs
  clear h u1 u2 u3 hL hs
  go_enter Tryz.func44, Tryz.ntmps44
  go_wp2_with fail
  rw [← HL.out]
  refine l06is_any _ _ _ _ S E M L HBX.out HA.out HSZ.out _ ?_
  intro w2 hb2
  have HB2 := Lib.hid (HBL.out.trans (hb2.mono HBL.out.size))
  obtain ⟨x, hx⟩ : ∃ x, x = autB S E M := ⟨_, rfl⟩
  have HF := Lib.hid (HR.out w2 HB2.out)
  rw [← hx] at HF ⊢
  clear hx hb2
  dsimp only
  go_wp2
  first | go_ret | skip
  exact HF.out
end Go.Proofs.YtdkjcdfkoahfkaaGreatDoor

namespace Go.Proofs.YtdkjcdfkoahfkaaGreatDoor
open Go Go.RowKit

theorem add_divint (a b : Rat) : Rat.divInt (a.num * (b.den : Int) + b.num * (a.den : Int)) ((a.den : Int) * (b.den : Int)) = a + b := by
  have h1 := a.den_pos; have h2 := b.den_pos
  rw [← Rat.divInt_add_divInt _ _ (by omega) (by omega), Rat.num_divInt_den, Rat.num_divInt_den]
theorem add_len (x y : Int) (N : Nat) (hx : (dig 10000 x.natAbs).length ≤ N) (hy : (dig 10000 y.natAbs).length ≤ N) : (dig 10000 (x + y).natAbs).length ≤ N + 1 := by
  apply dig_length_le (by omega)
  have h1 := Nat.lt_of_lt_of_le (lt_pow_dig (by omega : 2 ≤ 10000) x.natAbs) (Nat.pow_le_pow_right (by omega) hx)
  have h2 := Nat.lt_of_lt_of_le (lt_pow_dig (by omega : 2 ≤ 10000) y.natAbs) (Nat.pow_le_pow_right (by omega) hy)
  rw [Nat.pow_succ]
  omega

set_option maxRecDepth 100000 in
set_option maxHeartbeats 8000000 in
theorem addQ_any (va vb : Value) (a b : Rat) (w : World) (ha : IsQ w va a) (hb : IsQ w vb b) (hla : (dig 10000 a.num.natAbs).length ≤ 400000) (hla2 : (dig 10000 a.den).length ≤ 400000)
    (hlb : (dig 10000 b.num.natAbs).length ≤ 400000) (hlb2 : (dig 10000 b.den).length ≤ 400000)
    (R : Ending → World → Prop) (hR : ∀ v w', IsQ w' v (a + b) → Below w.heap.size w w' → R (.returned v) w') :
    Calls Tryz.prog 198 #[va, vb] w R := by
  have HR := Lib.hid hR; clear hR
  obtain ⟨na, a1, n1, c1, a2, n2, c2, rfl, hz1, hz2⟩ := ha.parts
  obtain ⟨nb, a3, n3, c3, a4, n4, c4, rfl, hz3, hz4⟩ := hb.parts
  clear ha hb
  obtain ⟨L, hL⟩ : ∃ L, L = ((w.alloc (.cells #[.bool na, .slice a1 n1 c1, .bool false, .slice a2 n2 c2] 75)).alloc (.cells #[.bool nb, .slice a3 n3 c3, .bool false, .slice a4 n4 c4] 75)).alloc (.cells #[.bool false, .slice none 0 0, .bool false, .slice none 0 0] 75) := ⟨_, rfl⟩
  have hLs : L.heap.size = w.heap.size + 3 := by rw [hL]; simp
  have B0 : Box4 L w.heap.size (.bool na) (.slice a1 n1 c1) (.bool false) (.slice a2 n2 c2) 75 := by
    rw [hL]; exact ((Box4.made w _ _ _ _ _).later (B := w.heap.size + 1) ((Below.refl _ _).alloc (by simp) _) (by omega)).later (B := w.heap.size + 2) ((Below.refl _ _).alloc (by simp) _) (by omega)
  have B1 : Box4 L (w.heap.size + 1) (.bool nb) (.slice a3 n3 c3) (.bool false) (.slice a4 n4 c4) 75 := by
    rw [hL]; have := (Box4.made (w.alloc (.cells #[.bool na, .slice a1 n1 c1, .bool false, .slice a2 n2 c2] 75)) (.bool nb) (.slice a3 n3 c3) (.bool false) (.slice a4 n4 c4) 75).later (B := w.heap.size + 2) ((Below.refl _ _).alloc (by simp) (.cells #[.bool false, .slice none 0 0, .bool false, .slice none 0 0] 75)) (by simp); simpa using this
  have B2 : Box4 L (w.heap.size + 2) (.bool false) (.slice none 0 0) (.bool false) (.slice none 0 0) 75 := by
    rw [hL]; have := Box4.made ((w.alloc (.cells #[.bool na, .slice a1 n1 c1, .bool false, .slice a2 n2 c2] 75)).alloc (.cells #[.bool nb, .slice a3 n3 c3, .bool false, .slice a4 n4 c4] 75)) (.bool false) (.slice none 0 0) (.bool false) (.slice none 0 0) 75; simpa using this
  have HEXT : Below w.heap.size w L := by rw [hL]; exact (((Below.refl w.heap.size w).alloc (Nat.le_refl _) _).alloc (by simp) _).alloc (by simp; omega) _
  have HL := Lib.hid hL
  have y1 := (hz1.later HEXT (Nat.le_refl _))
  have y2 := (hz2.later HEXT (Nat.le_refl _))
  have y3 := (hz3.later HEXT (Nat.le_refl _))
  have y4 := (hz4.later HEXT (Nat.le_refl _))
  clear hL hz1 hz2 hz3 hz4
  go_enter Tryz.func198, Tryz.ntmps198
  go_wp2_with fail
  rw [← HL.out]
  obtain ⟨⟨hA0, hA1, hA2, hA3⟩, _, _, _, _⟩ := B0.cells
  obtain ⟨⟨hB0, hB1, hB2, hB3⟩, _, _, _, _⟩ := B1.cells
  have hk0 : w.heap.size < L.heap.size := by omega
  have hk1 : w.heap.size + 1 < L.heap.size := by omega
  have hk2 : w.heap.size + 2 < L.heap.size := by omega
  have hla' : (dig 10000 (a.num.natAbs)).length ≤ 10000000 := by omega
  have hlb' : (dig 10000 (b.num.natAbs)).length ≤ 10000000 := by omega
  have hla2' : (dig 10000 ((a.den : Int).natAbs)).length ≤ 10000000 := by rw [Int.natAbs_natCast]; omega
  have hlb2' : (dig 10000 ((b.den : Int).natAbs)).length ≤ 10000000 := by rw [Int.natAbs_natCast]; omega
  have hp1 : (dig 10000 ((a.num * (b.den : Int)).natAbs)).length ≤ 800000 := by rw [Int.natAbs_mul, Int.natAbs_natCast]; have := mul_len _ _ _ _ hla hlb2; omega
  have hp2 : (dig 10000 ((b.num * (a.den : Int)).natAbs)).length ≤ 800000 := by rw [Int.natAbs_mul, Int.natAbs_natCast]; have := mul_len _ _ _ _ hlb hla2; omega
  have hp3 : (dig 10000 ((a.num * (b.den : Int) + b.num * (a.den : Int)).natAbs)).length ≤ 1000000 := by
    have := add_len _ _ _ hp1 hp2; omega
  have hm2 : (dig 10000 (((a.den : Int) * (b.den : Int)).natAbs)).length ≤ 1000000 := by rw [Int.natAbs_mul, Int.natAbs_natCast, Int.natAbs_natCast]; have := mul_len _ _ _ _ hla2 hlb2; omega
  have hd0 : (a.den : Int) * (b.den : Int) ≠ 0 := by
    have h1 := a.den_pos; have h2 := b.den_pos
    have := Nat.mul_pos h1 h2
    intro h; rw [← Int.natCast_mul] at h; omega
  have HLN := Lib.hid (And.intro hla' (And.intro hlb' (And.intro hla2' (And.intro hlb2' (And.intro hp1 (And.intro hp2 (And.intro hp3 (And.intro hm2 hd0))))))))
  clear hla hlb hla2 hlb2 hla' hlb' hla2' hlb2' hp1 hp2 hp3 hm2 hd0
  have hSof : ∀ w', Below (w.heap.size + 2) L w' → (Below (w.heap.size + 2) L w' ∧ (w'.cell? ⟨w.heap.size, 0, none⟩ = some (.bool na) ∧ w'.cell? ⟨w.heap.size, 1, none⟩ = some (.slice a1 n1 c1) ∧ w'.cell? ⟨w.heap.size, 2, none⟩ = some (.bool false) ∧ w'.cell? ⟨w.heap.size, 3, none⟩ = some (.slice a2 n2 c2)) ∧
      (w'.cell? ⟨w.heap.size + 1, 0, none⟩ = some (.bool nb) ∧ w'.cell? ⟨w.heap.size + 1, 1, none⟩ = some (.slice a3 n3 c3) ∧ w'.cell? ⟨w.heap.size + 1, 2, none⟩ = some (.bool false) ∧ w'.cell? ⟨w.heap.size + 1, 3, none⟩ = some (.slice a4 n4 c4))) :=
    fun w' hb => ⟨hb, (B0.later hb (by omega)).cells.1, (B1.later hb (by omega)).cells.1⟩
  have HSOF := Lib.hid hSof
  have HB2L := Lib.hid B2
  clear hA0 hA1 hA2 hA3 hB0 hB1 hB2 hB3 hSof B0 B1 B2
  go_region_held3 (fun w' => Below (w.heap.size + 2) L w' ∧ (w'.cell? ⟨w.heap.size, 0, none⟩ = some (.bool na) ∧ w'.cell? ⟨w.heap.size, 1, none⟩ = some (.slice a1 n1 c1) ∧ w'.cell? ⟨w.heap.size, 2, none⟩ = some (.bool false) ∧ w'.cell? ⟨w.heap.size, 3, none⟩ = some (.slice a2 n2 c2)) ∧
      (w'.cell? ⟨w.heap.size + 1, 0, none⟩ = some (.bool nb) ∧ w'.cell? ⟨w.heap.size + 1, 1, none⟩ = some (.slice a3 n3 c3) ∧ w'.cell? ⟨w.heap.size + 1, 2, none⟩ = some (.bool false) ∧ w'.cell? ⟨w.heap.size + 1, 3, none⟩ = some (.slice a4 n4 c4)))
    (first
      | exact HSOF.out _ HQ5.out
      | exact HSOF.out _ HQ4.out
      | exact HSOF.out _ HQ3.out
      | exact HSOF.out _ HQ2.out
      | exact HSOF.out _ HQ1.out
      | exact HSOF.out _ (Below.refl _ _).drew
      | exact HSOF.out _ ((((HQ5.out.setCell (by simp) _).setCell (by simp) _).setCell (by simp) _).setCell (by simp) _))
    (first
      | (go_at_call 154; refine make_any v3 v4 (a.num * (b.den : Int) + b.num * (a.den : Int)) ((a.den : Int) * (b.den : Int)) _ (HV3.out.later HB4.out (Nat.le_refl _)) HV4.out HLN.out.2.2.2.2.2.2.1 HLN.out.2.2.2.2.2.2.2.1 HLN.out.2.2.2.2.2.2.2.2 _ ?_; intro v5 w5 hv5 hb5; obtain ⟨n5, a5, m5, c5, a6, m6, c6, rfl, _, _⟩ := hv5.parts; have HV5 := Lib.hid hv5; have HT5 := Lib.hid (HT4.out.trans (hb5.mono HT4.out.size)); have HQ5 := Lib.hid (HT5.out.mono (Nat.le_of_lt hk2)); have d2 := HB2L.out.later HT5.out hk2; obtain ⟨⟨hR0, hR1, hR2, hR3⟩, hR4, hR5, hR6, hR7⟩ := d2.cells; have HD2 := Lib.hid d2; clear hv5 hb5 d2; dsimp only)
      | (have hguard := HQ3; go_at_call 176; refine zmul_any (.agg #[.bool false, .slice a2 n2 c2]) (.agg #[.bool false, .slice a4 n4 c4]) (a.den : Int) (b.den : Int) _ (y2.later HT3.out (Nat.le_refl _)) (y4.later HT3.out (Nat.le_refl _)) HLN.out.2.2.1 HLN.out.2.2.2.1 _ ?_; intro v4 w4 hv4 hb4; have HV4 := Lib.hid hv4; have HB4 := Lib.hid hb4; have HT4 := Lib.hid (HT3.out.trans (hb4.mono HT3.out.size)); have HQ4 := Lib.hid (HT4.out.mono (Nat.le_of_lt hk2)); clear hguard hv4 hb4; dsimp only)
      | (go_at_call 236; refine zadd_any v1 v2 (a.num * (b.den : Int)) (b.num * (a.den : Int)) _ (HV1.out.later HB2.out (Nat.le_refl _)) HV2.out (Nat.le_trans HLN.out.2.2.2.2.1 (by omega)) (Nat.le_trans HLN.out.2.2.2.2.2.1 (by omega)) _ ?_; intro v3 w3 hv3 hb3; have HV3 := Lib.hid hv3; have HB3 := Lib.hid hb3; have HT3 := Lib.hid (HT2.out.trans (hb3.mono HT2.out.size)); have HQ3 := Lib.hid (HT3.out.mono (Nat.le_of_lt hk2)); clear hv3 hb3; dsimp only)
      | (have hguard := HQ1; go_at_call 176; refine zmul_any (.agg #[.bool nb, .slice a3 n3 c3]) (.agg #[.bool false, .slice a2 n2 c2]) b.num (a.den : Int) _ (y3.later HT1.out (Nat.le_refl _)) (y2.later HT1.out (Nat.le_refl _)) HLN.out.2.1 HLN.out.2.2.1 _ ?_; intro v2 w2 hv2 hb2; have HV2 := Lib.hid hv2; have HB2 := Lib.hid hb2; have HT2 := Lib.hid (HT1.out.trans (hb2.mono HT1.out.size)); have HQ2 := Lib.hid (HT2.out.mono (Nat.le_of_lt hk2)); clear hguard hv2 hb2; dsimp only)
      | (go_at_call 176; refine zmul_any (.agg #[.bool na, .slice a1 n1 c1]) (.agg #[.bool false, .slice a4 n4 c4]) a.num (b.den : Int) _ y1.drew y4.drew HLN.out.1 HLN.out.2.2.2.1 _ ?_; intro v1 w1 hv1 hb1; have HV1 := Lib.hid hv1; have HT1 : Hid (Below L.heap.size L w1) := Lib.hid (below_ofDrew hb1); have HQ1 := Lib.hid (HT1.out.mono (Nat.le_of_lt hk2)); clear hv1 hb1; dsimp only))
  all_goals
    go_wp2
    refine bodyPost_ret_at (by simp [results, Tryz.results198, go_sem, hR0, hR1, hR2, hR3, hR4, hR5, hR6, hR7] <;> rfl) rfl ?_
    have hv5 := HV5.out
    rw [add_divint] at hv5
    have hn := HD2.out.noInt rfl rfl rfl rfl
    obtain ⟨s1, s2, e, h1, h2⟩ := hv5
    refine HR.out _ _ ⟨s1, s2, e, h1.set4 hn _ _ _ _ rfl rfl rfl, h2.set4 hn _ _ _ _ rfl rfl rfl⟩ (((((HEXT.trans (HT5.out.mono (by omega))).setCell (by simp <;> omega) _).setCell (by simp <;> omega) _).setCell (by simp <;> omega) _).setCell (by simp <;> omega) _)
end Go.Proofs.YtdkjcdfkoahfkaaGreatDoor

namespace Go.Proofs.YtdkjcdfkoahfkaaGreatDoor
open Go Go.RowKit

theorem isNum_at {L : List ByteArray} (h : L.all isNum = true) {k : Nat} {s : ByteArray} (hs : L[k]? = some s) : numO s.data.toList = some (qOf s) :=
  isNum_some (List.all_eq_true.1 h s (List.mem_of_getElem? hs))

/-- a fraction of the model as an element -/
def EQ (w : World) (cs : List Value) (q : Rat) : Prop := ∃ a1 n1 c1 a2 n2 c2, cs = [.bool (decide (q.num < 0)), .slice a1 n1 c1, .bool false, .slice a2 n2 c2] ∧ IsQ w (.agg #[.bool (decide (q.num < 0)), .slice a1 n1 c1, .bool false, .slice a2 n2 c2]) q
theorem Sl.keepB {k : IntKind} {w w' : World} {v : Value} {xs : List Nat} {g : Nat} (h : Sl k w v xs) (hb : But g w w') (hg : NoInt w g) : Sl k w' v xs := by
  refine Sl.but h hb fun h0 e => ?_
  rcases Sl.cases h with ⟨h1, _⟩ | ⟨_, b, off, cap, rfl, _, hbl, hc⟩
  · rw [h1] at h0; simp at h0
  · simp [blk] at e
    subst e
    have := hg _ _ (hc 0 h0)
    cases this
theorem elemQ : Elem 4 EQ where
  len := by rintro w cs x ⟨_, _, _, _, _, _, rfl, _⟩; rfl
  ints := by
    rintro w cs x ⟨_, _, _, _, _, _, rfl, _⟩ u hu
    simp only [List.mem_cons, List.not_mem_nil, or_false] at hu
    rcases hu with rfl | rfl | rfl | rfl <;> rfl
  one := by
    rintro w cs x ⟨_, _, _, _, _, _, rfl, _⟩ u hu
    simp only [List.mem_cons, List.not_mem_nil, or_false] at hu
    rcases hu with rfl | rfl | rfl | rfl <;> rfl
  keep := by
    rintro w w' g cs x ⟨a1, n1, c1, a2, n2, c2, rfl, h⟩ hb hg
    refine ⟨a1, n1, c1, a2, n2, c2, rfl, ?_⟩
    obtain ⟨s1, s2, e, k1, k2⟩ := h
    exact ⟨s1, s2, e, k1.keepB hb hg, k2.keepB hb hg⟩

def zeroQ : Value := .agg #[.bool false, .slice none 0 0, .bool false, .slice none 0 0]
theorem info_q : (Tryz.prog.info? 75).map (fun i => (i.zero, i.size, i.bytes)) = some (some zeroQ, 4, 64) := by kernel_rfl
theorem zeroQ_ints : ∀ u ∈ zeroQ.cells.toList, notInt u = true := by
  intro u hu
  simp only [zeroQ, Value.cells, List.mem_cons, List.not_mem_nil, or_false] at hu
  rcases hu with rfl | rfl | rfl | rfl <;> rfl

/-- the loop of the model's reading of a list -/
def OfRel (w : World) (n : Nat) (L : List ByteArray) (v i : Value) (wr : World) : Prop :=
  ∃ k : Nat, i = .int .i64 (k : Int) ∧ k ≤ n ∧ OwE 4 EQ 75 wr w.heap.size v ((L.take k).map qOf) ∧ Below w.heap.size w wr

end Go.Proofs.YtdkjcdfkoahfkaaGreatDoor

namespace Go.Proofs.YtdkjcdfkoahfkaaGreatDoor
open Go Go.RowKit

/-- the texts of fractions -/
def textsQ (qs : List Rat) : List ByteArray := qs.map fun q => ⟨(textQ q).toArray⟩
/-- whether all of them fit -/
def fitsQ (qs : List Rat) : Bool := qs.all fun q => decide ((decs q.num.natAbs).length ≤ 60) && decide ((decs q.den).length ≤ 60)
/-- few enough digits to be written -/
def DigsQ (qs : List Rat) : Prop := ∀ (i : Nat) (q : Rat), qs[i]? = some q → (dig 10000 q.num.natAbs).length ≤ 1000000000 ∧ (dig 10000 q.den).length ≤ 1000000000

theorem fitsQ_not {qs : List Rat} {k : Nat} {q : Rat} (hq : qs[k]? = some q) (h : (decide ((decs q.num.natAbs).length ≤ 60) && decide ((decs q.den).length ≤ 60)) = false) : fitsQ qs = false := by
  unfold fitsQ
  rw [List.all_eq_false]
  exact ⟨q, List.mem_of_getElem? hq, by rw [h]; decide⟩

def TextRel (w : World) (n : Nat) (qs : List Rat) (v i : Value) (wr : World) : Prop :=
  ∃ k : Nat, i = .int .i64 (k : Int) ∧ k ≤ n ∧ fitsQ (qs.take k) = true ∧ OwE 1 ET 9 wr w.heap.size v (textsQ (qs.take k)) ∧ Below w.heap.size w wr

end Go.Proofs.YtdkjcdfkoahfkaaGreatDoor

namespace Go.Proofs.YtdkjcdfkoahfkaaGreatDoor
open Go Go.RowKit

theorem num_len_zero (q : Rat) (n : Nat) (h : n = (dig 10000 q.num.natAbs).length) : n = 0 ↔ q = 0 := by
  rw [h, List.length_eq_zero_iff, dig_eq_nil (by omega), Int.natAbs_eq_zero]
  exact Rat.num_eq_zero

end Go.Proofs.YtdkjcdfkoahfkaaGreatDoor

namespace Go.Proofs.YtdkjcdfkoahfkaaGreatDoor
open Go Go.RowKit

end Go.Proofs.YtdkjcdfkoahfkaaGreatDoor

namespace Go.Proofs.YtdkjcdfkoahfkaaGreatDoor
open Go Go.RowKit

def trimN (qs : List Rat) : Nat → Nat
  | 0 => 0
  | n + 1 => if qs[n]? = some 0 then trimN qs n else n + 1
/-- a list without the zeros at its end -/
def trimQ (qs : List Rat) : List Rat := qs.take (trimN qs qs.length)
theorem trimN_le (qs : List Rat) : ∀ n, trimN qs n ≤ n
  | 0 => Nat.le_refl _
  | n + 1 => by
    have := trimN_le qs n
    rw [trimN]; split <;> omega

theorem SlE.prefix {α : Type} {sz : Nat} {E : World → List Value → α → Prop} {w : World} {ao : Option Addr} {n cap : Nat} {xs : List α} (h : SlE sz E w (.slice ao n cap) xs) (hn : n = xs.length) (hc : n ≤ cap) {i : Nat} (hi : i ≤ n) : SlE sz E w (.slice ao i cap) (xs.take i) := by
  refine ⟨ao, cap, by rw [List.length_take]; congr 1; omega, by rw [List.length_take]; omega, fun j x hx => ?_⟩
  have hj : j < i := by have := (List.getElem?_eq_some_iff.1 hx).1; rw [List.length_take] at this; omega
  rw [List.getElem?_take_of_lt hj] at hx
  exact h.at j x hx

end Go.Proofs.YtdkjcdfkoahfkaaGreatDoor

namespace Go.Proofs.YtdkjcdfkoahfkaaGreatDoor
open Go Go.RowKit

theorem Box3.set012 {w : World} {b : Nat} {x0 x1 x2 : Value} {t : TypeId} (h : Box3 w b x0 x1 x2 t) (y0 y1 y2 : Value) : Box3 (((w.setCell ⟨b, 0, none⟩ y0).setCell ⟨b, 1, none⟩ y1).setCell ⟨b, 2, none⟩ y2) b y0 y1 y2 t := by
  unfold Box3 at *
  simp [World.setCell, Array.getElem?_modify, h]

/-- the sum of a list of fractions -/
def sumQ (l : List Rat) : Rat := l.foldl (· + ·) 0
theorem sumQ_nil : sumQ [] = 0 := rfl
theorem sumQ_take {l : List Rat} {k : Nat} {q : Rat} (h : l[k]? = some q) : sumQ (l.take (k + 1)) = sumQ (l.take k) + q := by
  rw [List.take_add_one, h]
  unfold sumQ
  rw [List.foldl_append]; rfl

theorem IsI.nil (w : World) : IsI w (.agg #[.bool false, .slice none 0 0]) 0 := ⟨_, rfl, by
  show Sl .u64 w _ (dig W64 0)
  have : dig W64 0 = [] := by simp [dig]
  rw [this]; exact Sl.nil _ _ _ _⟩

/-- what all numbers of a list keep to -/
def AllBd (N : Nat) (l : List Rat) : Prop := ∀ (k : Nat) (q : Rat), l[k]? = some q → Bd N q
theorem allBd_of {L : List ByteArray} (h : L.all isNum = true) : AllBd 60 (L.map qOf) := by
  intro k q hq
  rw [List.getElem?_map] at hq
  cases hs : L[k]? with
  | none => rw [hs] at hq; cases hq
  | some s =>
    rw [hs] at hq
    simp only [Option.map_some, Option.some.injEq] at hq
    subst hq
    exact Bd.of (numO_few (isNum_some (List.all_eq_true.1 h s (List.mem_of_getElem? hs))))

/-- what is told of a list -/
noncomputable def sumO (L : List ByteArray) : Option Rat := if (decide (L.length ≤ 60) && L.all isNum) = true then some (sumQ (L.map qOf)) else none

/-- the loop of the program's sum -/
def SumRel (w1 : World) (n : Nat) (qs : List Rat) (i : Value) (wr : World) : Prop :=
  ∃ k m a5 n5 c5 a6 n6 c6, i = .int .i64 ((k : Nat) : Int) ∧ k ≤ n ∧ Box3 wr w1.heap.size (.bool m) (.slice a5 n5 c5) (.slice a6 n6 c6) 85 ∧ IsR wr (.agg #[.bool m, .slice a5 n5 c5, .slice a6 n6 c6]) (sumQ (qs.take k)) ∧
    Bd (61 * k + 1) (sumQ (qs.take k)) ∧ Below w1.heap.size w1 wr

set_option maxRecDepth 100000 in
set_option maxHeartbeats 4000000 in
theorem impl_sum (v : Value) (L : List ByteArray) (w : World) (hE : Env w) (htab : Lib.TabIs Tryz.prog w "internal/strconv.uint64pow10" .u64 Lib.pow10Tab) (h : TxL w v L) (hn : L.length ≤ 1048576) (R : Ending → World → Prop)
    (hR : ∀ w', Below w.heap.size w w' → R (.returned (.tuple #[.string (outS (sumO L)), .bool (outB (sumO L))])) w') :
    Calls Tryz.prog 31 #[v] w R := by
  have HR := Lib.hid hR; clear hR
  have HE := Lib.hid hE
  have HTAB := Lib.hid htab
  obtain ⟨a0, n0, c0, rfl, h'⟩ := h.op
  have HH := Lib.hid h'
  have HN := Lib.hid hn
  clear hE htab h h' hn
  go_enter Tryz.func31, Tryz.ntmps31
  go_wp2_with fail
  refine readrs_own _ L _ HE.out HH.out HN.out _ ?_ ?_
  · intro v1 w1 h60 hall hown hb1
    have hO : sumO L = some (sumQ (L.map qOf)) := by unfold sumO; rw [if_pos (by rw [Bool.and_eq_true]; exact ⟨decide_eq_true h60, hall⟩)]
    rw [hO] at HR
    have HBD := Lib.hid (allBd_of hall)
    obtain ⟨qs, hqs⟩ : ∃ qs, qs = L.map qOf := ⟨_, rfl⟩
    have hql : qs.length ≤ 60 := by rw [hqs, List.length_map]; exact h60
    rw [← hqs] at hown HBD HR
    have hsl := hown.sl
    obtain ⟨a1, n1, c1, rfl, hn1, hc1, hsl'⟩ := hsl.open
    have HSL := Lib.hid hsl'
    have HN1 := Lib.hid hn1
    have HB1 := Lib.hid hb1
    have hn60 : n1 ≤ 60 := by omega
    clear hqs h60 hall hown hsl hsl' hn1 hb1 hO hql hc1
    dsimp only
    go_wp2_with fail
    refine ratioOf_any _ 0 _ (IsI.nil _) _ ?_
    intro v2 w2 hr2 hb2
    obtain ⟨m0, a5, n5, c5, a6, n6, c6, hm0, rfl, hx1, hx2⟩ := hr2.parts
    obtain ⟨W, hW⟩ : ∃ W, W = w2.alloc (.cells #[.bool m0, .slice a5 n5 c5, .slice a6 n6 c6] 85) := ⟨_, rfl⟩
    have HW := Lib.hid hW
    have hbW : Below w2.heap.size w2 W := by rw [hW]; exact (Below.refl _ _).alloc (Nat.le_refl _) _
    have HSL2 := Lib.hid (HSL.out.later elemR hb2 (Nat.le_refl _))
    have HB2 := Lib.hid (HB1.out.trans (hb2.mono HB1.out.size))
    have HST : Hid (SumRel w2 n1 qs (.int .i64 0) W) := Lib.hid ⟨0, m0, a5, n5, c5, a6, n6, c6, rfl, Nat.zero_le _, by rw [hW]; exact Box3.made _ _ _ _ _, by rw [List.take_zero, sumQ_nil]; exact hr2.later hbW (Nat.le_refl _), by rw [List.take_zero, sumQ_nil]; exact Bd.zero, hbW⟩
    clear hr2 hb2 hm0 hx1 hx2 hW hbW
    dsimp only
    go_wp2_with fail
    rw [← HW.out]
    go_loopw [20] (fun i wr => SumRel w2 n1 qs i wr) (fun i _ => n1 - (intOf i).toNat)
    case atStart => exact HST.out
    case round =>
      clear HST
      obtain ⟨k, m, a7, n7, c7, a8, n8, c8, rfl, hk, hbox, hr, hbd, hbel⟩ := hrel
      have HBOX := Lib.hid hbox
      have HRR := Lib.hid hr
      have HBDK := Lib.hid hbd
      have HB := Lib.hid hbel
      clear hr hbd
      by_cases hkn : k = n1
      · subst hkn
        have he : qs.take k = qs := by rw [HN1.out, List.take_length]
        rw [he] at HRR
        obtain ⟨⟨hP0, hP1, hP2⟩, _, _, _⟩ := HBOX.out.cells
        have HB3 := Lib.hid (HB2.out.trans (hbel.mono HB2.out.size))
        clear he hbox hbel
        go_wp2_with fail
        refine rtext_o _ (sumQ qs) _ HRR.out (tab_later HTAB.out HB3.out (Nat.le_refl _)) _ ?_
        intro w3 hb3
        have HB4 := Lib.hid (HB3.out.trans (hb3.mono HB3.out.size))
        obtain ⟨S, hS⟩ : ∃ S, S = outS (some (sumQ qs)) := ⟨_, rfl⟩
        obtain ⟨B, hB⟩ : ∃ B, B = outB (some (sumQ qs)) := ⟨_, rfl⟩
        rw [← hS, ← hB] at HR ⊢
        clear hS hB hb3
        dsimp only
        go_wp2
        first | go_ret | skip
        exact HR.out _ HB4.out
      · have hkl : k < n1 := by omega
        obtain ⟨q, hq⟩ : ∃ q, qs[k]? = some q := ⟨_, List.getElem?_eq_getElem (by rw [← HN1.out]; exact hkl)⟩
        have HQ := Lib.hid hq
        have HBQ := Lib.hid (HBD.out k q hq)
        obtain ⟨b, off, cs, rfl, hb, hcell, hE⟩ := HSL2.out.at k q hq
        obtain ⟨x1, y1, z1, x2, y2, z2, hcs, hi1, hi2⟩ := hE
        obtain ⟨ng, hng⟩ : ∃ ng, ng = decide (q.num < 0) := ⟨_, rfl⟩
        rw [← hng] at hcs
        have hd0 : wr.cell? ⟨b, off + k * 3, none⟩ = some (.bool ng) := by rw [hbel.cell (p := ⟨b, off + k * 3, none⟩) hb]; exact hcell 0 _ (by rw [hcs]; rfl)
        have hd1 : wr.cell? ⟨b, off + k * 3 + 1, none⟩ = some (.slice x1 y1 z1) := by rw [hbel.cell (p := ⟨b, off + k * 3 + 1, none⟩) hb]; exact hcell 1 _ (by rw [hcs]; rfl)
        have hd2 : wr.cell? ⟨b, off + k * 3 + 2, none⟩ = some (.slice x2 y2 z2) := by rw [hbel.cell (p := ⟨b, off + k * 3 + 2, none⟩) hb]; exact hcell 2 _ (by rw [hcs]; rfl)
        have HX : Hid (IsR w2 (.agg #[.bool ng, .slice x1 y1 z1, .slice x2 y2 z2]) q) := Lib.hid ⟨_, _, by rw [hng], hi1, hi2⟩
        have hw1 : IntKind.i64.wrap ((k : Int) + 1) = ((k + 1 : Nat) : Int) := by rw [IntWalk.i64_in _ (by omega)]; omega
        obtain ⟨V, hV⟩ : ∃ V, V = wr.alloc (.cells #[.bool ng, .slice x1 y1 z1, .slice x2 y2 z2] 85) := ⟨_, rfl⟩
        have hbV : Below wr.heap.size wr V := by rw [hV]; exact (Below.refl _ _).alloc (Nat.le_refl _) _
        have HBV : Hid (Below w2.heap.size w2 V) := Lib.hid (hbel.trans (hbV.mono hbel.size))
        have HKB := Lib.hid (HBOX.out.later hbV (lt_of_block HBOX.out))
        have HXV := Lib.hid (HX.out.later HBV.out (Nat.le_refl _))
        have HRV := Lib.hid (HRR.out.later hbV (Nat.le_refl _))
        have HV := Lib.hid hV
        obtain ⟨⟨hP0, hP1, hP2⟩, _, _, _⟩ := HKB.out.cells
        rw [hV] at hP0 hP1 hP2
        have HL1 := Lib.hid (HBDK.out.len (B := W64) (by rw [W64_eq]; omega))
        have HL2 := Lib.hid (HBQ.out.len (B := W64) (by rw [W64_eq]; omega))
        have hk60 : k < 60 := by omega
        have HKL := Lib.hid hkl
        clear hq hcell hcs hi1 hi2 hng hV hbV hbox hbel hkn
        go_wp2_with fail
        rw [← HV.out]
        refine rplus_any _ _ (sumQ (qs.take k)) q _ HRV.out HXV.out (Nat.le_trans HL1.out.1 (by omega)) (Nat.le_trans HL1.out.2 (by omega)) (Nat.le_trans HL2.out.1 (by omega)) (Nat.le_trans HL2.out.2 (by omega)) _ ?_
        rw [← sumQ_take HQ.out]
        intro v3 w3 hr3 hb3
        obtain ⟨m3, a9, n9, c9, b9, d9, e9, hm3, rfl, _, _⟩ := hr3.parts
        have HR3 := Lib.hid hr3
        have HB3 := Lib.hid (HBV.out.trans (hb3.mono HBV.out.size))
        have HK3 := Lib.hid (HKB.out.later hb3 (lt_of_block HKB.out))
        have HBD3 : Hid (Bd (61 * (k + 1) + 1) (sumQ (qs.take (k + 1)))) := Lib.hid (by
          rw [sumQ_take HQ.out]
          exact (HBDK.out.add HBQ.out).mono (by omega))
        clear hr3 hb3 hm3 hP0 hP1 hP2 hd0 hd1 hd2
        obtain ⟨⟨hP0, hP1, hP2⟩, hF0, hF1, hF2⟩ := HK3.out.cells
        have HNI := Lib.hid (HK3.out.noInt rfl rfl rfl)
        dsimp only
        go_wp2
        go_roundw
        case rel => exact ⟨k + 1, m3, a9, n9, c9, b9, d9, e9, by first | rfl | go_num, HKL.out, HK3.out.set012 _ _ _, HR3.out.set3 HNI.out _ _ _ rfl rfl, HBD3.out, below_set3 HB3.out (Nat.le_refl _) _ _ _⟩
        case measure => simp [intOf]; have := HKL.out; omega
  · intro e w1 hnone he hb1
    obtain ⟨t, p, rfl⟩ := he
    have hO : sumO L = none := by unfold sumO; rw [if_neg (by rw [hnone]; decide)]
    rw [hO] at HR
    have HF := Lib.hid (HR.out w1 hb1)
    clear hb1 hnone hO
    dsimp only
    go_wp2
    first | go_ret | skip
    exact HF.out
end Go.Proofs.YtdkjcdfkoahfkaaGreatDoor

namespace Go.Proofs.YtdkjcdfkoahfkaaGreatDoor
open Go Go.RowKit

/-- a coefficient, 0 behind the last one -/
def atQ (qs : List Rat) (i : Nat) : Rat := (qs[i]?).getD 0
theorem atQ_some {qs : List Rat} {i : Nat} {q : Rat} (h : qs[i]? = some q) : atQ qs i = q := by unfold atQ; rw [h]; rfl
theorem atQ_none {qs : List Rat} {i : Nat} (h : qs.length ≤ i) : atQ qs i = 0 := by unfold atQ; rw [List.getElem?_eq_none h]; rfl

theorem trimN_nz (qs : List Rat) : ∀ n, trimN qs n = 0 ∨ ∃ j, trimN qs n = j + 1 ∧ qs[j]? ≠ some 0
  | 0 => .inl rfl
  | n + 1 => by
    rw [trimN]
    split
    · exact trimN_nz qs n
    · rename_i h; exact .inr ⟨n, rfl, h⟩
theorem trimN_take (qs : List Rat) (m : Nat) : ∀ n, n ≤ m → trimN (qs.take m) n = trimN qs n
  | 0, _ => rfl
  | n + 1, h => by
    rw [trimN, trimN, List.getElem?_take_of_lt (by omega), trimN_take qs m n (by omega)]
theorem trimN_done (qs : List Rat) {n : Nat} (h : n = 0 ∨ ∃ j, n = j + 1 ∧ qs[j]? ≠ some 0) : trimN qs n = n := by
  rcases h with rfl | ⟨j, rfl, h⟩
  · rfl
  · rw [trimN, if_neg h]
theorem trimQ_len (qs : List Rat) : (trimQ qs).length = trimN qs qs.length := by
  unfold trimQ; rw [List.length_take]; have := trimN_le qs qs.length; omega
theorem trimQ_idem (qs : List Rat) : trimQ (trimQ qs) = trimQ qs := by
  have h1 := trimQ_len qs
  have h2 : trimN (trimQ qs) (trimQ qs).length = (trimQ qs).length := by
    refine trimN_done _ ?_
    rw [h1]
    rcases trimN_nz qs qs.length with h | ⟨j, h, h3⟩
    · exact .inl h
    · refine .inr ⟨j, h, ?_⟩
      unfold trimQ
      rw [List.getElem?_take_of_lt (by omega)]; exact h3
  show (trimQ qs).take (trimN (trimQ qs) (trimQ qs).length) = trimQ qs
  rw [h2, List.take_length]
theorem trimQ_of (qs : List Rat) (h : ∀ q, qs.getLast? = some q → q ≠ 0) : trimQ qs = qs := by
  unfold trimQ
  rw [trimN_done qs, List.take_length]
  rcases Nat.eq_zero_or_pos qs.length with h0 | h0
  · exact .inl h0
  · refine .inr ⟨qs.length - 1, by omega, fun e => ?_⟩
    rw [← List.getLast?_eq_getElem?] at e
    exact h 0 e rfl
theorem trimQ_append_zero (qs : List Rat) : trimQ (qs ++ [0]) = trimQ qs := by
  unfold trimQ
  rw [List.length_append, List.length_singleton, trimN, if_pos (by simp)]
  have h1 : trimN (qs ++ [0]) qs.length = trimN qs qs.length := by
    have := trimN_take (qs ++ [0]) qs.length qs.length (Nat.le_refl _)
    rw [List.take_left] at this
    exact this.symm
  rw [h1, List.take_append_of_le_length (trimN_le _ _)]
theorem trimQ_zeros (qs : List Rat) : ∀ n, trimQ (qs ++ List.replicate n 0) = trimQ qs
  | 0 => by simp
  | n + 1 => by rw [List.replicate_succ', ← List.append_assoc, trimQ_append_zero, trimQ_zeros qs n]

/-- a sum of polynomials, one of them times a number, with as many coefficients as the longer one -/
def sumP (a b : List Rat) (by' : Rat) : List Rat := (List.range (max a.length b.length)).map fun i => atQ a i + atQ b i * by'
theorem sumP_len (a b : List Rat) (y : Rat) : (sumP a b y).length = max a.length b.length := by unfold sumP; rw [List.length_map, List.length_range]
theorem sumP_at (a b : List Rat) (y : Rat) {i : Nat} (h : i < max a.length b.length) : (sumP a b y)[i]? = some (atQ a i + atQ b i * y) := by
  unfold sumP; rw [List.getElem?_map, List.getElem?_range h]; rfl
theorem sumP_take (a b : List Rat) (y : Rat) {k : Nat} (h : k < max a.length b.length) : (sumP a b y).take (k + 1) = (sumP a b y).take k ++ [atQ a k + atQ b k * y] := by
  rw [List.take_add_one, sumP_at a b y h]; rfl
theorem atQ_bd {N : Nat} {qs : List Rat} (h : AllBd N qs) (hN : 1 ≤ N) (i : Nat) : Bd N (atQ qs i) := by
  unfold atQ
  cases hq : qs[i]? with
  | none => exact Bd.zero.mono hN
  | some q => exact h i q hq

/-- a number is added to an element -/
def addTo (l : List Rat) (j : Nat) (x : Rat) : List Rat := l.set j (atQ l j + x)
theorem addTo_len (l : List Rat) (j : Nat) (x : Rat) : (addTo l j x).length = l.length := by unfold addTo; rw [List.length_set]
theorem addTo_bd {N M : Nat} {l : List Rat} (h : AllBd N l) (hN : 1 ≤ N) {x : Rat} (hx : Bd M x) (j : Nat) : AllBd (N + M + 1) (addTo l j x) := by
  intro i q hi
  unfold addTo at hi
  rw [List.getElem?_set] at hi
  split at hi
  · split at hi
    · cases hi; exact (atQ_bd h hN j).add hx
    · cases hi
  · exact (h i q hi).mono (by omega)
/-- a multiple of a polynomial is added, from a place on: its first coefficients -/
def rowF (c : Rat) (b : List Rat) (i : Nat) (l : List Rat) : Nat → List Rat
  | 0 => l
  | k + 1 => addTo (rowF c b i l k) (i + k) (c * atQ b k)
/-- the first rounds of a product -/
def mulF (a b : List Rat) (n : Nat) : Nat → List Rat
  | 0 => List.replicate n 0
  | i + 1 => rowF (atQ a i) b i (mulF a b n i) b.length
theorem rowF_len (c : Rat) (b : List Rat) (i : Nat) (l : List Rat) : ∀ k, (rowF c b i l k).length = l.length
  | 0 => rfl
  | k + 1 => by rw [rowF, addTo_len, rowF_len c b i l k]
theorem mulF_len (a b : List Rat) (n : Nat) : ∀ i, (mulF a b n i).length = n
  | 0 => by rw [mulF, List.length_replicate]
  | i + 1 => by rw [mulF, rowF_len, mulF_len a b n i]
theorem rowF_bd {c : Rat} {b : List Rat} (hc : Bd 60 c) (hb : AllBd 60 b) (i : Nat) {l : List Rat} {N : Nat} (hl : AllBd N l) (hN : 1 ≤ N) : ∀ k, AllBd (N + 121 * k) (rowF c b i l k)
  | 0 => hl
  | k + 1 => fun j q hj => (addTo_bd (rowF_bd hc hb i hl hN k) (by omega) (hc.mul (atQ_bd hb (by omega) k)) (i + k) j q hj).mono (by omega)
theorem mulF_bd {a b : List Rat} (ha : AllBd 60 a) (hb : AllBd 60 b) (n : Nat) : ∀ i, AllBd (1 + 121 * (b.length * i)) (mulF a b n i)
  | 0 => fun j q hj => by
    rw [mulF] at hj
    rw [List.getElem?_replicate] at hj
    split at hj
    · cases hj; exact Bd.zero.mono (by omega)
    · cases hj
  | i + 1 => fun j q hj => (rowF_bd (atQ_bd ha (by omega) i) hb i (mulF_bd ha hb n i) (by omega) b.length j q hj).mono (by rw [Nat.mul_succ]; omega)
theorem addTo_snoc {l : List Rat} {j : Nat} (h : j < l.length) (x : Rat) : addTo (l ++ [0]) j x = addTo l j x ++ [0] := by
  unfold addTo atQ
  rw [List.getElem?_append_left h, List.set_append_left _ _ h]
theorem rowF_snoc (c : Rat) (b : List Rat) (i : Nat) (l : List Rat) : ∀ k, i + k ≤ l.length → rowF c b i (l ++ [0]) k = rowF c b i l k ++ [0]
  | 0, _ => rfl
  | k + 1, h => by rw [rowF, rowF, rowF_snoc c b i l k (by omega), addTo_snoc (by rw [rowF_len]; omega)]
theorem mulF_snoc (a b : List Rat) (n : Nat) : ∀ i, i + b.length ≤ n + 1 → mulF a b (n + 1) i = mulF a b n i ++ [0]
  | 0, _ => by rw [mulF, mulF, List.replicate_succ']
  | i + 1, h => by rw [mulF, mulF, mulF_snoc a b n i (by omega), rowF_snoc _ _ _ _ _ (by rw [mulF_len]; omega)]
theorem mulF_nil_right (a : List Rat) (n : Nat) : ∀ i, mulF a [] n i = List.replicate n 0
  | 0 => rfl
  | i + 1 => by rw [mulF]; exact mulF_nil_right a n i
/-- the product of polynomials -/
def mulP (a b : List Rat) : List Rat := trimQ (mulF a b (a.length + b.length) a.length)
theorem mulP_eq {a b : List Rat} (ha : a ≠ []) (hb : b ≠ []) : mulP a b = trimQ (mulF a b (a.length + b.length - 1) a.length) := by
  have h1 := List.length_pos_iff.2 ha
  have h2 := List.length_pos_iff.2 hb
  unfold mulP
  have e : a.length + b.length = (a.length + b.length - 1) + 1 := by omega
  rw [e, mulF_snoc a b _ a.length (by omega), trimQ_append_zero, ← e]
theorem mulP_nil {a b : List Rat} (h : a = [] ∨ b = []) : mulP a b = [] := by
  have key : ∀ n, trimQ (List.replicate n 0) = [] := fun n => by
    have := trimQ_zeros [] n
    rw [List.nil_append] at this
    rw [this]; rfl
  unfold mulP
  rcases h with rfl | rfl
  · exact key _
  · rw [mulF_nil_right]; exact key _

/-- the derivative of a polynomial -/
def derP (a : List Rat) : List Rat := (List.range (a.length - 1)).map fun i => ((i + 1 : Nat) : Rat) * atQ a (i + 1)
theorem derP_len (a : List Rat) : (derP a).length = a.length - 1 := by unfold derP; rw [List.length_map, List.length_range]
theorem derP_at (a : List Rat) {i : Nat} (h : i < a.length - 1) : (derP a)[i]? = some (((i + 1 : Nat) : Rat) * atQ a (i + 1)) := by
  unfold derP; rw [List.getElem?_map, List.getElem?_range h]; rfl
theorem derP_take (a : List Rat) {k : Nat} (h : k < a.length - 1) : (derP a).take (k + 1) = (derP a).take k ++ [((k + 1 : Nat) : Rat) * atQ a (k + 1)] := by
  rw [List.take_add_one, derP_at a h]; rfl
theorem derP_trim {a : List Rat} (h : ∀ q, a.getLast? = some q → q ≠ 0) : trimQ (derP a) = derP a := by
  refine trimQ_of _ fun q hq => ?_
  rw [List.getLast?_eq_getElem?, derP_len] at hq
  have hlt : a.length - 1 - 1 < a.length - 1 := by
    have := (List.getElem?_eq_some_iff.1 hq).1
    rw [derP_len] at this; exact this
  rw [derP_at a hlt] at hq
  have hl : a.getLast? = some (atQ a (a.length - 1)) := by
    rw [List.getLast?_eq_getElem?]
    have hx : a[a.length - 1]? = some a[a.length - 1] := List.getElem?_eq_getElem (by omega)
    rw [atQ_some hx, hx]
  have h1 := h _ hl
  have e : a.length - 1 - 1 + 1 = a.length - 1 := by omega
  rw [e] at hq
  cases hq
  intro h0
  rcases Rat.mul_eq_zero.1 h0 with h2 | h2
  · have : a.length - 1 = 0 := by exact_mod_cast h2
    omega
  · exact h1 h2
end Go.Proofs.YtdkjcdfkoahfkaaGreatDoor

namespace Go.Proofs.YtdkjcdfkoahfkaaGreatDoor
open Go Go.RowKit

theorem textQ_z0 : textQ 0 = [48] := by
  have h1 : (0 : Rat).num = 0 := rfl
  have h2 : (0 : Rat).den = 1 := rfl
  unfold textQ
  rw [h1, h2]
  simp [decs]

theorem few_zero : few 0 := by
  have h1 : (0 : Rat).num = 0 := rfl
  have h2 : (0 : Rat).den = 1 := rfl
  unfold few
  rw [h1, h2]
  constructor
  · simp [decs]
  · rw [decs, if_neg (by omega), dig_small (by omega) (by omega)]; simp

theorem zero_iff {L : List UInt8} {q : Rat} (h : numO L = some q) : q = 0 ↔ L = [48] := by
  obtain ⟨h1, h2⟩ := numO_some.1 h
  constructor
  · rintro rfl; rw [h1, textQ_z0]
  · intro e
    exact textQ_inj h2 few_zero (by rw [← h1, e, textQ_z0])

theorem num_zero_iff (q : Rat) : q.num.natAbs = 0 ↔ q = 0 := by
  constructor
  · intro h
    exact Rat.num_eq_zero.1 (Int.natAbs_eq_zero.1 h)
  · rintro rfl; rfl

set_option maxRecDepth 100000 in
set_option maxHeartbeats 1000000 in
theorem izero_any (b : Bool) (v : Value) (n : Nat) (w : World) (h : IsN w v n) (R : Ending → World → Prop)
    (hR : ∀ w', Below w.heap.size w w' → R (.returned (.bool (decide (n = 0)))) w') :
    Calls Tryz.prog 125 #[.agg #[.bool b, v]] w R := by
  have HR := Lib.hid hR; clear hR
  obtain ⟨a1, n1, c1, rfl, h'⟩ := h.op
  have HH := Lib.hid (h'.later ((Below.refl w.heap.size w).alloc (Nat.le_refl _) (.cells #[.bool b, .slice a1 n1 c1] 83)) (Nat.le_refl _))
  clear h h'
  go_enter Tryz.func125, Tryz.ntmps125
  go_wp2_with fail
  refine nzero_any _ n _ HH.out _ ?_
  obtain ⟨x, hx⟩ : ∃ x, x = decide (n = 0) := ⟨_, rfl⟩
  rw [← hx] at HR ⊢
  clear hx
  dsimp only
  go_wp2
  first | go_ret | skip
  exact HR.out _ ((Below.refl _ _).alloc (Nat.le_refl _) _)

set_option maxRecDepth 100000 in
set_option maxHeartbeats 1000000 in
theorem rzero_any (v : Value) (q : Rat) (w : World) (h : IsR w v q) (R : Ending → World → Prop)
    (hR : ∀ w', Below w.heap.size w w' → R (.returned (.bool (decide (q.num.natAbs = 0)))) w') :
    Calls Tryz.prog 69 #[v] w R := by
  have HR := Lib.hid hR; clear hR
  obtain ⟨s1, s2, rfl, hn1, hn2⟩ := h
  obtain ⟨a1, n1, c1, rfl, hn1'⟩ := hn1.op
  obtain ⟨a2, n2, c2, rfl, hn2'⟩ := hn2.op
  obtain ⟨ng, hng⟩ : ∃ ng, ng = decide (q.num < 0) := ⟨_, rfl⟩
  rw [← hng]
  obtain ⟨L, hL⟩ : ∃ L, L = w.alloc (.cells #[.bool ng, .slice a1 n1 c1, .slice a2 n2 c2] 85) := ⟨_, rfl⟩
  have HBL : Hid (Below w.heap.size w L) := Lib.hid (by rw [hL]; exact (Below.refl _ _).alloc (Nat.le_refl _) _)
  have HBX : Hid (Box3 L w.heap.size (.bool ng) (.slice a1 n1 c1) (.slice a2 n2 c2) 85) := Lib.hid (by rw [hL]; exact Box3.made _ _ _ _ _)
  have HN := Lib.hid (hn1'.later HBL.out (Nat.le_refl _))
  have HL := Lib.hid hL
  obtain ⟨⟨hP0, hP1, hP2⟩, _, _, _⟩ := Box3.cells HBX.out
  clear hn1 hn2 hn1' hn2' hng hL
  go_enter Tryz.func69, Tryz.ntmps69
  rw [HL.out] at hP0 hP1 hP2
  go_wp2_with fail
  rw [← HL.out]
  refine izero_any ng _ _ _ HN.out _ ?_
  intro w1 hb1
  obtain ⟨x, hx⟩ : ∃ x, x = decide (q.num.natAbs = 0) := ⟨_, rfl⟩
  rw [← hx] at HR ⊢
  have HB := Lib.hid (HBL.out.trans (hb1.mono HBL.out.size))
  clear hx hb1 hP0 hP1 hP2
  dsimp only
  go_wp2
  first | go_ret | skip
  exact HR.out _ HB.out

set_option maxRecDepth 100000 in
theorem dzero_any (v : Value) (qs : List Rat) (w : World) (h : RsL w v qs) (R : Ending → World → Prop)
    (hR : R (.returned (.bool (decide (qs.length = 0)))) w) :
    Calls Tryz.prog 155 #[v] w R := by
  have HR := Lib.hid hR; clear hR
  obtain ⟨ao, n, cap, rfl, hn, hc, hh⟩ := SlE.open h
  rw [← hn] at HR
  clear hn h hh hc
  by_cases h0 : n = 0
  · subst h0
    rw [decide_eq_true rfl] at HR
    go_enter Tryz.func155, Tryz.ntmps155
    go_wp2
    first | go_ret | skip
    exact HR.out
  · have e : ((n : Int) == 0) = false := by simp; omega
    rw [decide_eq_false h0] at HR
    clear h0
    go_enter Tryz.func155, Tryz.ntmps155
    go_wp2
    first | go_ret | skip
    exact HR.out

set_option maxRecDepth 100000 in
set_option maxHeartbeats 1000000 in
theorem dlast_any (v : Value) (qs : List Rat) (q : Rat) (w : World) (h : RsL w v qs) (hq : qs.getLast? = some q) (hl : qs.length ≤ 1000000) (R : Ending → World → Prop)
    (hR : ∀ v' w', IsR w' v' q → Below w.heap.size w w' → R (.returned v') w') :
    Calls Tryz.prog 156 #[v] w R := by
  have HR := Lib.hid hR; clear hR
  obtain ⟨ao, n, cap, rfl, hn, hc, hh⟩ := SlE.open h
  have hne : qs ≠ [] := fun e => by subst e; simp at hq
  have hpos : 0 < qs.length := List.length_pos_iff.2 hne
  obtain ⟨j, hj⟩ : ∃ j, n = j + 1 := ⟨n - 1, by omega⟩
  have hqj : qs[j]? = some q := by
    rw [List.getLast?_eq_getElem?] at hq
    rw [show j = qs.length - 1 by omega]; exact hq
  obtain ⟨b, off, cs, rfl, hb, hcell, hE⟩ := SlE.at hh j q hqj
  obtain ⟨a1, n1, c1, a2, n2, c2, rfl, hn1, hn2⟩ := hE
  obtain ⟨ng, hng⟩ : ∃ ng, ng = decide (q.num < 0) := ⟨_, rfl⟩
  rw [← hng] at hcell
  obtain ⟨L, hL⟩ : ∃ L, L = w.alloc (.cells #[.bool false, .slice none 0 0, .slice none 0 0] 85) := ⟨_, rfl⟩
  have HBL : Hid (Below w.heap.size w L) := Lib.hid (by rw [hL]; exact (Below.refl _ _).alloc (Nat.le_refl _) _)
  have HBX : Hid (Box3 L w.heap.size (.bool false) (.slice none 0 0) (.slice none 0 0) 85) := Lib.hid (by rw [hL]; exact Box3.made _ _ _ _ _)
  have HL := Lib.hid hL
  have HN1 := Lib.hid hn1
  have HN2 := Lib.hid hn2
  have HNG := Lib.hid hng
  have k0 : L.cell? ⟨b, off + j * 3, none⟩ = some (.bool ng) := by rw [HBL.out.cell (p := ⟨b, _, none⟩) hb]; exact hcell 0 _ rfl
  have k1 : L.cell? ⟨b, off + j * 3 + 1, none⟩ = some (.slice a1 n1 c1) := by rw [HBL.out.cell (p := ⟨b, _, none⟩) hb]; exact hcell 1 _ rfl
  have k2 : L.cell? ⟨b, off + j * 3 + 2, none⟩ = some (.slice a2 n2 c2) := by rw [HBL.out.cell (p := ⟨b, _, none⟩) hb]; exact hcell 2 _ rfl
  obtain ⟨⟨hR0, hR1, hR2⟩, hF0, hF1, hF2⟩ := Box3.cells HBX.out
  have hw1 : IntKind.i64.wrap ((n : Int) - 1) = (j : Int) := by rw [IntWalk.i64_in _ (by omega)]; omega
  have hjn : (j : Int) < (n : Int) := by omega
  clear hn h hh hc hcell hn1 hn2 hng hL hq hne hpos hqj hj
  go_enter Tryz.func156, Tryz.ntmps156
  rw [HL.out] at k0 k1 k2 hR0 hR1 hR2 hF0 hF1 hF2
  go_wp2
  clear hR0 hR1 hR2 hF0 hF1 hF2 k0 k1 k2
  have HV := Box3.made w (.bool ng) (.slice a1 n1 c1) (.slice a2 n2 c2) 85
  obtain ⟨⟨hR0, hR1, hR2⟩, hF0, hF1, hF2⟩ := Box3.cells HV
  have HBV : Below w.heap.size w (w.alloc (.cells #[.bool ng, .slice a1 n1 c1, .slice a2 n2 c2] 85)) := (Below.refl _ _).alloc (Nat.le_refl _) _
  refine bodyPost_ret_at (by simp [results, Tryz.results156, go_sem, hR0, hR1, hR2, hF0, hF1, hF2] <;> rfl) rfl ?_
  refine HR.out _ _ ⟨_, _, ?_, HN1.out.later HBV (Nat.le_refl _), HN2.out.later HBV (Nat.le_refl _)⟩ HBV
  rw [HNG.out]

/-- whether texts are the coefficients of a polynomial -/
noncomputable def polyB (L : List ByteArray) : Bool := decide (L.length ≤ 13) && (L.all isNum && decide (∀ s, L.getLast? = some s → s.data.toList ≠ [48]))

theorem polyB_true {L : List ByteArray} (h1 : L.length ≤ 13) (h2 : L.all isNum = true) (h3 : ∀ s, L.getLast? = some s → s.data.toList ≠ [48]) : polyB L = true := by
  unfold polyB; rw [decide_eq_true h1, h2, decide_eq_true h3]; rfl
theorem polyB_len {L : List ByteArray} (h : ¬ L.length ≤ 13) : polyB L = false := by unfold polyB; rw [decide_eq_false h]; rfl
theorem polyB_num {L : List ByteArray} (h : L.all isNum = false) : polyB L = false := by unfold polyB; rw [h]; simp
theorem polyB_last {L : List ByteArray} {s : ByteArray} (h : L.getLast? = some s) (h2 : s.data.toList = [48]) : polyB L = false := by
  unfold polyB
  have h3 : ¬ ∀ t, L.getLast? = some t → t.data.toList ≠ [48] := fun h9 => h9 s h h2
  simp only [h3, decide_false, Bool.and_false]

theorem getLast_map {α β : Type} (f : α → β) (L : List α) (s : α) (h : L.getLast? = some s) : (L.map f).getLast? = some (f s) := by
  rw [List.getLast?_map, h]; rfl

set_option maxRecDepth 100000 in
set_option maxHeartbeats 2000000 in
theorem readc_any (v : Value) (L : List ByteArray) (w : World) (hE : Env w) (h : TxL w v L) (hn : L.length ≤ 1048576) (R : Ending → World → Prop)
    (hR : ∀ v' w', polyB L = true → RsL w' v' (L.map qOf) → Below w.heap.size w w' → R (.returned (.tuple #[v', .nilIface])) w')
    (hR2 : ∀ e w', polyB L = false → ErrV e → Below w.heap.size w w' → R (.returned (.tuple #[.slice none 0 0, e])) w') :
    Calls Tryz.prog 94 #[v] w R := by
  have HR := Lib.hid hR; clear hR
  have HR2 := Lib.hid hR2; clear hR2
  have HE := Lib.hid hE
  obtain ⟨ao, n, cap, rfl, hnl, hc, hh⟩ := h.open
  have HH := Lib.hid hh
  have HN := Lib.hid hnl
  have HNL := Lib.hid hn
  rw [← hnl] at hn
  clear h hnl hh
  by_cases h13 : n ≤ 13
  · have e1 : ¬ ((13 : Int) < (n : Int)) := by omega
    have H13 := Lib.hid h13
    clear h13 hE
    go_enter Tryz.func94, Tryz.ntmps94
    go_wp2_with fail
    refine readrs_any _ L _ HE.out HH.out HNL.out _ ?_ ?_
    · intro v' w1 _ hall hv hb1
      have HB := Lib.hid hb1
      have HALL := Lib.hid hall
      obtain ⟨a5, n5, c5, rfl, hv'⟩ := SlE.op hv
      have HV := Lib.hid hv'
      clear hb1 hall hv hv'
      dsimp only
      go_wp2_with fail
      refine dzero_any _ (L.map qOf) _ HV.out _ ?_
      rw [List.length_map]
      by_cases h0 : L.length = 0
      · rw [decide_eq_true h0]
        have hL : L = [] := List.length_eq_zero_iff.1 h0
        have HF := Lib.hid (HR.out _ w1 (polyB_true (by rw [← HN.out]; exact H13.out) HALL.out (fun s hs => by rw [hL] at hs; simp at hs)) HV.out HB.out)
        clear h0 hL
        dsimp only
        go_wp2
        first | go_ret | skip
        exact HF.out
      · rw [decide_eq_false h0]
        obtain ⟨s, hs⟩ : ∃ s, L.getLast? = some s := by
          cases hl : L.getLast? with
          | none => rw [List.getLast?_eq_none_iff] at hl; rw [hl] at h0; simp at h0
          | some s => exact ⟨s, rfl⟩
        have HS := Lib.hid hs
        have HQL := Lib.hid (getLast_map qOf L s hs)
        clear h0 hs
        dsimp only
        go_wp2_with fail
        refine dlast_any _ (L.map qOf) (qOf s) _ HV.out HQL.out (by rw [List.length_map, ← HN.out]; omega) _ ?_
        intro v2 w2 hv2 hb2
        have HB2 := Lib.hid (HB.out.trans (hb2.mono HB.out.size))
        have HV2 := Lib.hid (SlE.later elemR HV.out hb2 (Nat.le_refl _))
        have hv2k := hv2
        obtain ⟨s1, s2, rfl, hn1, hn2⟩ := hv2
        obtain ⟨x1, m1, y1, rfl, _⟩ := hn1.op
        obtain ⟨x2, m2, y2, rfl, _⟩ := hn2.op
        have HVK := Lib.hid hv2k
        obtain ⟨ng, hng⟩ : ∃ ng, ng = decide ((qOf s).num < 0) := ⟨_, rfl⟩
        rw [← hng] at HVK ⊢
        clear hb2 hn1 hn2 hv2k hng
        dsimp only
        go_wp2_with fail
        refine rzero_any _ (qOf s) _ HVK.out _ ?_
        intro w3 hb3
        have HB3 := Lib.hid (HB2.out.trans (hb3.mono HB2.out.size))
        have HV3 := Lib.hid (SlE.later elemR HV2.out hb3 (Nat.le_refl _))
        have hsnum : isNum s = true := List.all_eq_true.1 HALL.out s (List.mem_of_getLast? HS.out)
        have hz := (num_zero_iff (qOf s)).trans (zero_iff (isNum_some hsnum))
        have HZ := Lib.hid hz
        clear hb3 hsnum hz
        by_cases hzero : (qOf s).num.natAbs = 0
        · rw [decide_eq_true hzero]
          have hp : polyB L = false := polyB_last HS.out (HZ.out.1 hzero)
          obtain ⟨⟨pf, hpf⟩, _, _⟩ := HE.out.later HB3.out (Nat.le_refl _)
          have HF := Lib.hid (fun w' => HR2.out (.iface 299 (.pointer (some pf))) w' hp ⟨_, _, rfl⟩)
          clear hzero hp
          dsimp only
          go_wp2
          go_quiet (fail)
          go_wp2
          first | go_ret | skip
          exact HF.out _ (below_draws HB3.out _)
        · rw [decide_eq_false hzero]
          have hp : polyB L = true := polyB_true (by rw [← HN.out]; exact H13.out) HALL.out (fun t ht e => by
            rw [HS.out] at ht; obtain rfl := Option.some.inj ht
            exact hzero (HZ.out.2 e))
          have HF := Lib.hid (HR.out _ w3 hp HV3.out HB3.out)
          clear hzero hp
          dsimp only
          go_wp2
          first | go_ret | skip
          exact HF.out
    · intro e w1 hf he hb1
      have hp : polyB L = false := by
        refine polyB_num ?_
        rw [← HN.out, decide_eq_true (by have := H13.out; omega)] at hf
        simpa using hf
      obtain ⟨t, p, rfl⟩ := he
      have HF := Lib.hid (HR2.out (.iface t (.pointer (some p))) w1 hp ⟨_, _, rfl⟩ hb1)
      clear hf hp hb1
      dsimp only
      go_wp2
      first | go_ret | skip
      exact HF.out
  · have e1 : ((13 : Int) < (n : Int)) := by omega
    have hp : polyB L = false := polyB_len (by rw [← HN.out]; exact h13)
    have HF := Lib.hid (fun p w' => HR2.out (.iface 299 (.pointer (some p))) w' hp ⟨_, _, rfl⟩)
    obtain ⟨_, ⟨pf, hpf⟩, _⟩ := hE
    clear h13 hp
    go_enter Tryz.func94, Tryz.ntmps94
    go_wp2
    go_quiet (fail)
    go_wp2
    first | go_ret | skip
    exact HF.out _ _ (below_draws (Below.refl _ _) _)

set_option maxRecDepth 100000 in
set_option maxHeartbeats 1000000 in
theorem l02is_any (v : Value) (L : List ByteArray) (w : World) (h : TxL w v L) (hn : L.length ≤ 1048576) (hs : ∀ s ∈ L, s.size ≤ 1048576) (R : Ending → World → Prop)
    (hR : ∀ w', Below w.heap.size w w' → R (.returned (.bool (polyB L))) w') :
    Calls Tryz.prog 168 #[v] w R := by
  have HR := Lib.hid hR; clear hR
  obtain ⟨ao, n, cap, rfl, hnl, hc, hh⟩ := h.open
  have HH := Lib.hid hh
  have HN := Lib.hid hnl
  have HNL := Lib.hid hn
  have HS := Lib.hid hs
  clear h hnl hh hn hs
  by_cases h13 : n ≤ 13
  · have e1 : ¬ ((13 : Int) < (n : Int)) := by omega
    have H13 := Lib.hid h13
    have H13L := Lib.hid (show L.length ≤ 13 by rw [← HN.out]; exact h13)
    clear h13
    go_enter Tryz.func168, Tryz.ntmps168
    go_wp2_with fail
    refine isList_any _ L _ HH.out HNL.out HS.out _ ?_
    intro w1 hb1
    rw [decide_eq_true (show L.length ≤ 60 by have := H13L.out; omega), Bool.true_and]
    have HB := Lib.hid hb1
    cases hall : L.all isNum with
    | false =>
      have hp := polyB_num hall
      have HF := Lib.hid (HR.out w1 hb1)
      rw [hp] at HF
      clear hb1 hall hp
      go_wp2
      first | go_ret | skip
      exact HF.out
    | true =>
      have HALL := Lib.hid hall
      have HF := Lib.hid (HR.out w1 hb1)
      have HH1 := Lib.hid (HH.out.later hb1 (Nat.le_refl _))
      clear hb1 hall
      by_cases h0 : n = 0
      · subst h0
        have hL : L = [] := List.length_eq_zero_iff.1 HN.out.symm
        rw [polyB_true H13L.out HALL.out (fun s hs => by rw [hL] at hs; simp at hs)] at HF
        clear hL
        go_wp2
        first | go_ret | skip
        exact HF.out
      · obtain ⟨j, hj⟩ : ∃ j, n = j + 1 := ⟨n - 1, by omega⟩
        obtain ⟨s, hs⟩ : ∃ s, L[j]? = some s := ⟨_, List.getElem?_eq_getElem (by rw [← HN.out]; omega)⟩
        have hlast : L.getLast? = some s := by rw [List.getLast?_eq_getElem?, ← HN.out, show n - 1 = j by omega]; exact hs
        obtain ⟨b, off, rfl, hb, hcell⟩ := TxL.at HH1.out j s hs
        have e0 : ((n : Int) == 0) = false := by simp; omega
        have hw1 : IntKind.i64.wrap ((n : Int) - 1) = (j : Int) := by rw [IntWalk.i64_in _ (by have := H13.out; omega)]; omega
        have hjn : (j : Int) < (n : Int) := by omega
        by_cases hz : s.data.toList = [48]
        · have e9 : (s.toList == [48]) = true := by rw [Lib.toList_data, hz]; rfl
          rw [polyB_last hlast hz] at HF
          clear hs hlast hz hj h0
          go_wp2
          first | go_ret | skip
          exact HF.out
        · have e9 : (s.toList == [48]) = false := by rw [Lib.toList_data, beq_eq_false_iff_ne]; exact hz
          rw [polyB_true H13L.out HALL.out (fun t ht e => by rw [hlast] at ht; obtain rfl := Option.some.inj ht; exact hz e)] at HF
          clear hs hlast hz hj h0
          go_wp2
          first | go_ret | skip
          exact HF.out
  · have e1 : ((13 : Int) < (n : Int)) := by omega
    have HF := Lib.hid (HR.out w (Below.refl _ _))
    rw [polyB_len (by rw [← HN.out]; exact h13)] at HF
    clear h13
    go_enter Tryz.func168, Tryz.ntmps168
    go_wp2
    first | go_ret | skip
    exact HF.out
end Go.Proofs.YtdkjcdfkoahfkaaGreatDoor

namespace Go.Proofs.YtdkjcdfkoahfkaaGreatDoor
open Go Go.RowKit

theorem m_isZero (x : Value) (w : World) : (Go.method 428 85 x "loop.example/g01120/impl.isZero").run Tryz.prog w = .ok (69, x) w := by kernel_rfl

set_option maxRecDepth 100000 in
set_option maxHeartbeats 2000000 in
theorem trimI_any (v : Value) (qs : List Rat) (w : World) (h : RsL w v qs) (hn : qs.length ≤ 1048576) (R : Ending → World → Prop)
    (hR : ∀ v' w', RsL w' v' (trimQ qs) → Below w.heap.size w w' → R (.returned v') w') :
    Calls Tryz.prog 173 #[v] w R := by
  have HR := Lib.hid hR; clear hR
  obtain ⟨ao, n, cap, rfl, hnl, hc, hh⟩ := SlE.open h
  have HH := Lib.hid hh
  have HN := Lib.hid hnl
  have HC := Lib.hid hc
  have hnn : n ≤ 1048576 := by omega
  clear h hh hn hnl hc
  go_enter Tryz.func173, Tryz.ntmps173
  go_wp2
  go_loopw [3] (fun iv wr => ∃ i : Nat, iv = .int .i64 (i : Int) ∧ i ≤ n ∧ trimN qs i = trimN qs qs.length ∧ Below w.heap.size w wr) (fun iv _ => (intOf iv).toNat)
  case atStart => exact ⟨n, rfl, Nat.le_refl _, by rw [HN.out], Below.refl _ _⟩
  case round =>
    obtain ⟨i, rfl, hi, ht, hbel⟩ := hrel
    have HB := Lib.hid hbel
    have HT := Lib.hid ht
    by_cases h0 : i = 0
    · subst h0
      have e0 : ¬ ((0 : Int) < ((0 : Nat) : Int)) := by omega
      have HTR : Hid (trimQ qs = []) := Lib.hid (by unfold trimQ; rw [← HT.out]; rfl)
      have c1 : (0 : Int) ≤ (cap : Int) := by omega
      have c2 : (0 : Int) ≤ (n : Int) := by omega
      have HF := Lib.hid (fun a c => HR.out (.slice a 0 c) wr (by rw [HTR.out]; exact SlE.nil _ _ _) HB.out)
      clear hbel ht hi
      cases ao with
      | none =>
        go_wp2
        first | go_ret | skip
        exact HF.out _ _
      | some a0 =>
        go_wp2
        first | go_ret | skip
        exact HF.out _ _
    · obtain ⟨j, rfl⟩ : ∃ j, i = j + 1 := ⟨i - 1, by omega⟩
      obtain ⟨q, hq⟩ : ∃ q, qs[j]? = some q := ⟨_, List.getElem?_eq_getElem (by have := HN.out; omega)⟩
      have HQ := Lib.hid hq
      obtain ⟨b, off, cs, rfl, hb, hcell, hE⟩ := HH.out.at j q hq
      obtain ⟨x1, y1, z1, x2, y2, z2, hcs, hi1, hi2⟩ := hE
      obtain ⟨ng, hng⟩ : ∃ ng, ng = decide (q.num < 0) := ⟨_, rfl⟩
      rw [← hng] at hcs
      have hd0 : wr.cell? ⟨b, off + j * 3, none⟩ = some (.bool ng) := by rw [hbel.cell (p := ⟨b, off + j * 3, none⟩) hb]; exact hcell 0 _ (by rw [hcs]; rfl)
      have hd1 : wr.cell? ⟨b, off + j * 3 + 1, none⟩ = some (.slice x1 y1 z1) := by rw [hbel.cell (p := ⟨b, off + j * 3 + 1, none⟩) hb]; exact hcell 1 _ (by rw [hcs]; rfl)
      have hd2 : wr.cell? ⟨b, off + j * 3 + 2, none⟩ = some (.slice x2 y2 z2) := by rw [hbel.cell (p := ⟨b, off + j * 3 + 2, none⟩) hb]; exact hcell 2 _ (by rw [hcs]; rfl)
      have HX := Lib.hid ((show IsR w (.agg #[.bool ng, .slice x1 y1 z1, .slice x2 y2 z2]) q from ⟨_, _, by rw [hng], hi1, hi2⟩).later hbel (Nat.le_refl _))
      have hw1 : IntKind.i64.wrap (((j + 1 : Nat) : Int) - 1) = (j : Int) := by rw [IntWalk.i64_in _ (by omega)]; omega
      have hk0 : (0 : Int) ≤ (j : Int) := by omega
      have hkn2 : (j : Int) < (n : Int) := by omega
      have hp : (0 : Int) < ((j + 1 : Nat) : Int) := by omega
      obtain ⟨m, hm⟩ : ∃ m, m = j + 1 := ⟨_, rfl⟩
      have HM := Lib.hid hm
      rw [← hm] at hw1 hp ⊢
      have HI := Lib.hid hi
      clear hq hcell hcs hi1 hi2 hng hbel ht hm hi h0
      have hm9 := m_isZero
      go_wp2_with fail
      refine rzero_any _ q _ HX.out _ ?_
      intro w1 hb1
      have HB1 := Lib.hid (HB.out.trans (hb1.mono HB.out.size))
      obtain ⟨x, hx⟩ : ∃ x, x = decide (q.num.natAbs = 0) := ⟨_, rfl⟩
      have HXX := Lib.hid hx
      rw [← hx]
      clear hb1 hx hd0 hd1 hd2
      dsimp only
      cases x with
      | true =>
        have HT2 : Hid (trimN qs j = trimN qs qs.length) := Lib.hid (by rw [← HT.out, trimN, HQ.out, (num_zero_iff q).1 (of_decide_eq_true HXX.out.symm), if_pos rfl])
        go_wp2
        go_roundw
        case rel => exact ⟨j, by first | rfl | go_num, by have := HI.out; omega, HT2.out, HB1.out⟩
        case measure => simp [intOf]; have := HM.out; omega
      | false =>
        have hq0 : q ≠ 0 := fun e => (of_decide_eq_false HXX.out.symm) ((num_zero_iff q).2 e)
        have HTR : Hid (trimQ qs = qs.take m) := Lib.hid (by unfold trimQ; rw [← HT.out, trimN, HQ.out, if_neg (by simpa using hq0), HM.out])
        have hmn : m ≤ n := by have := HM.out; have := HI.out; omega
        have HPRE : Hid (∀ c, RsL w1 (.slice (some ⟨b, off, none⟩) m c) (qs.take m) ∨ c < m) := Lib.hid (fun c => by
          rcases Nat.lt_or_ge c m with hc | hc
          · exact .inr hc
          · refine .inl ?_
            obtain ⟨ao, cap', e, h1, h2⟩ := (HH.out.prefix HN.out HC.out hmn).later elemR HB1.out (Nat.le_refl _)
            have hl : (qs.take m).length = m := by rw [List.length_take]; have := HN.out; omega
            exact ⟨some ⟨b, off, none⟩, c, by rw [hl], by rw [hl]; exact hc, fun i x hi => by
              obtain ⟨b', o', cs, k1, k2⟩ := h2 i x hi
              simp only [Value.slice.injEq] at e
              rw [← e.1] at k1
              exact ⟨b', o', cs, k1, k2⟩⟩)
        have c0 : (0 : Int) ≤ (m : Int) := by omega
        have c1 : (m : Int) ≤ (cap : Int) := by have := HC.out; omega
        have c2 : (m : Int) ≤ (n : Int) := by omega
        clear hq0
        go_wp2
        first | go_ret | skip
        rcases HPRE.out m with h | h
        · exact HR.out _ _ (by rw [HTR.out]; exact h) HB1.out
        · omega
end Go.Proofs.YtdkjcdfkoahfkaaGreatDoor

namespace Go.Proofs.YtdkjcdfkoahfkaaGreatDoor
open Go Go.RowKit

/-- a block of n elements, of which the first ones read as a list and the others are z -/
def Blk {α : Type} (sz : Nat) (E : World → List Value → α → Prop) (z : List Value) (e : TypeId) (w : World) (g n : Nat) (xs : List α) : Prop :=
  ∃ cur, w.heap[g]? = some (.cells cur e (0, 0)) ∧ cur.size = n * sz ∧ xs.length ≤ n ∧ (∀ u ∈ cur.toList, notInt u = true) ∧
    (∀ i x, xs[i]? = some x → E w ((cur.toList.drop (i * sz)).take sz) x) ∧ ∀ i, xs.length ≤ i → i < n → (cur.toList.drop (i * sz)).take sz = z

theorem Blk.lt {α : Type} {sz : Nat} {E : World → List Value → α → Prop} {z : List Value} {e : TypeId} {w : World} {g n : Nat} {xs : List α} (h : Blk sz E z e w g n xs) : g < w.heap.size := by
  obtain ⟨cur, h1, _⟩ := h; exact lt_of_block h1
theorem Blk.le {α : Type} {sz : Nat} {E : World → List Value → α → Prop} {z : List Value} {e : TypeId} {w : World} {g n : Nat} {xs : List α} (h : Blk sz E z e w g n xs) : xs.length ≤ n := by
  obtain ⟨cur, _, _, h1, _⟩ := h; exact h1
theorem Blk.noInt {α : Type} {sz : Nat} {E : World → List Value → α → Prop} {z : List Value} {e : TypeId} {w : World} {g n : Nat} {xs : List α} (h : Blk sz E z e w g n xs) : NoInt w g := by
  obtain ⟨cur, h1, _, _, h2, _⟩ := h; exact NoInt.of h1 h2
theorem Blk.later {α : Type} {sz : Nat} {E : World → List Value → α → Prop} (hE : Elem sz E) {z : List Value} {e : TypeId} {w w' : World} {g n B : Nat} {xs : List α} (h : Blk sz E z e w g n xs) (hb : Below B w w') (hB : w.heap.size ≤ B) : Blk sz E z e w' g n xs := by
  have hg := h.lt
  obtain ⟨cur, h1, h2, h3, h4, h5, h6⟩ := h
  exact ⟨cur, by rw [hb.block g (by omega)]; exact h1, h2, h3, h4, fun i x hi => hE.below (h5 i x hi) hb hB, h6⟩
theorem Blk.own {α : Type} {sz : Nat} {E : World → List Value → α → Prop} {z : List Value} {e : TypeId} {w : World} {g n : Nat} {xs : List α} (h : Blk sz E z e w g n xs) {B : Nat} (hB : B ≤ g) (hn : xs.length = n) (hm : n ≤ 1000000000) : OwE sz E e w B (.slice (some ⟨g, 0, none⟩) n n) xs := by
  obtain ⟨cur, h1, h2, h3, h4, h5, _⟩ := h
  exact .inr ⟨g, n, cur, by rw [hn], hB, h1, by omega, by simp only [maxLen]; omega, h2, h4, h5⟩
theorem Blk.frozen {α : Type} {sz : Nat} {E : World → List Value → α → Prop} {z : List Value} {e : TypeId} {w : World} {g n : Nat} {xs : List α} (h : Blk sz E z e w g n xs) (o : Nat) : w.frozen? ⟨g, o, none⟩ = false := by
  obtain ⟨cur, h1, _⟩ := h
  simp [World.frozen?, h1]

theorem seg3 {C : List Value} {i : Nat} (hi : i * 3 + 3 ≤ C.length) : ∃ u0 u1 u2, (C.drop (i * 3)).take 3 = [u0, u1, u2] ∧ C[i * 3]? = some u0 ∧ C[i * 3 + 1]? = some u1 ∧ C[i * 3 + 2]? = some u2 := by
  refine ⟨C[i * 3], C[i * 3 + 1], C[i * 3 + 2], ?_, List.getElem?_eq_getElem _, List.getElem?_eq_getElem _, List.getElem?_eq_getElem _⟩
  rw [List.drop_eq_getElem_cons (by omega), List.drop_eq_getElem_cons (by omega), List.drop_eq_getElem_cons (by omega)]
  rfl

theorem Blk.len3 {sz n i : Nat} {cur : Array Value} (h : cur.size = n * sz) (hi : i < n) : i * sz + sz ≤ cur.toList.length := by
  rw [Array.length_toList, h]; exact seg_le hi

/-- the three cells of an element -/
theorem Blk.cells {α : Type} {E : World → List Value → α → Prop} {z : List Value} {e : TypeId} {w : World} {g n : Nat} {xs : List α} (h : Blk 3 E z e w g n xs) {i : Nat} (hi : i < n) :
    ∃ u0 u1 u2, w.cell? ⟨g, i * 3, none⟩ = some u0 ∧ w.cell? ⟨g, i * 3 + 1, none⟩ = some u1 ∧ w.cell? ⟨g, i * 3 + 2, none⟩ = some u2 ∧ (∀ x, xs[i]? = some x → E w [u0, u1, u2] x) ∧ (xs.length ≤ i → [u0, u1, u2] = z) := by
  obtain ⟨cur, h1, h2, h3, h4, h5, h6⟩ := h
  obtain ⟨u0, u1, u2, k, k0, k1, k2⟩ := seg3 (Blk.len3 h2 hi)
  have hc : ∀ (j : Nat) (u : Value), cur.toList[j]? = some u → w.cell? ⟨g, j, none⟩ = some u := by
    intro j u hj
    simp only [World.cell?, h1, Option.isSome_none, Bool.false_eq_true, if_false]
    rw [← Array.getElem?_toList]; exact hj
  exact ⟨u0, u1, u2, hc _ _ k0, hc _ _ k1, hc _ _ k2, fun x hx => by rw [← k]; exact h5 i x hx, fun hl => by rw [← k]; exact h6 i hl hi⟩

theorem seg_set3 {C : List Value} {i j : Nat} (hi : i * 3 + 3 ≤ C.length) (c0 c1 c2 : Value) :
    ((((C.set (i * 3) c0).set (i * 3 + 1) c1).set (i * 3 + 2) c2).drop (j * 3)).take 3 = if i = j then [c0, c1, c2] else (C.drop (j * 3)).take 3 := by
  apply List.ext_getElem?
  intro m
  by_cases hij : i = j
  · subst hij
    rw [if_pos rfl]
    have hl : i * 3 + 2 < C.length := by omega
    rcases m with _ | _ | _ | m
    · rw [List.getElem?_take_of_lt (by omega), List.getElem?_drop, Nat.add_zero (i * 3), List.getElem?_set_ne (by omega), List.getElem?_set_ne (by omega), List.getElem?_set_self (by omega)]; rfl
    · rw [List.getElem?_take_of_lt (by omega), List.getElem?_drop, List.getElem?_set_ne (by omega), List.getElem?_set_self (by rw [List.length_set]; omega)]; rfl
    · rw [List.getElem?_take_of_lt (by omega), List.getElem?_drop, List.getElem?_set_self (by rw [List.length_set, List.length_set]; omega)]; rfl
    · rw [List.getElem?_eq_none (by rw [List.length_take]; omega)]; rfl
  · rw [if_neg hij]
    rcases Nat.lt_or_ge m 3 with hm | hm
    · rw [List.getElem?_take_of_lt hm, List.getElem?_take_of_lt hm, List.getElem?_drop, List.getElem?_drop, List.getElem?_set_ne (by omega), List.getElem?_set_ne (by omega), List.getElem?_set_ne (by omega)]
    · rw [List.getElem?_eq_none (by rw [List.length_take]; omega), List.getElem?_eq_none (by rw [List.length_take]; omega)]

/-- three stores -/
def set3 (w : World) (g i : Nat) (c0 c1 c2 : Value) : World := ((w.setCell ⟨g, i * 3, none⟩ c0).setCell ⟨g, i * 3 + 1, none⟩ c1).setCell ⟨g, i * 3 + 2, none⟩ c2
theorem set3_but (w : World) (g i : Nat) (c0 c1 c2 : Value) : But g w (set3 w g i c0 c1 c2) := (((But.refl g w).setCell _ _).setCell _ _).setCell _ _
theorem set3_below {B g : Nat} {w0 w : World} (h : Below B w0 w) (hB : B ≤ g) (i : Nat) (c0 c1 c2 : Value) : Below B w0 (set3 w g i c0 c1 c2) := ((h.setCell hB _).setCell hB _).setCell hB _
theorem set3_size (w : World) (g i : Nat) (c0 c1 c2 : Value) : (set3 w g i c0 c1 c2).heap.size = w.heap.size := by simp [set3]

theorem Blk.stored {α : Type} {E : World → List Value → α → Prop} {z : List Value} {e : TypeId} {w : World} {g n : Nat} {xs : List α} (h : Blk 3 E z e w g n xs) {i : Nat} (hi : i < n) (c0 c1 c2 : Value)
    (k0 : notInt c0 = true) (k1 : notInt c1 = true) (k2 : notInt c2 = true) :
    ∃ cur, (set3 w g i c0 c1 c2).heap[g]? = some (.cells cur e (0, 0)) ∧ cur.size = n * 3 ∧ (∀ u ∈ cur.toList, notInt u = true) ∧
      (∀ j, (cur.toList.drop (j * 3)).take 3 = if i = j then [c0, c1, c2] else ((match w.heap[g]? with | some (.cells c _ _) => c | _ => #[]).toList.drop (j * 3)).take 3) := by
  obtain ⟨cur, h1, h2, h3, h4, h5, h6⟩ := h
  refine ⟨((cur.setIfInBounds (i * 3) c0).setIfInBounds (i * 3 + 1) c1).setIfInBounds (i * 3 + 2) c2, ?_, by simp [h2], ?_, ?_⟩
  · simp only [set3, World.setCell, Array.getElem?_modify, h1]
    simp
  · intro u hu
    simp only [Array.toList_setIfInBounds] at hu
    rcases List.mem_or_eq_of_mem_set hu with hu | rfl
    · rcases List.mem_or_eq_of_mem_set hu with hu | rfl
      · rcases List.mem_or_eq_of_mem_set hu with hu | rfl
        · exact h4 u hu
        · exact k0
      · exact k1
    · exact k2
  · intro j
    rw [h1]
    simp only [Array.toList_setIfInBounds]
    exact seg_set3 (Blk.len3 h2 hi) c0 c1 c2

/-- the next element is stored -/
theorem Blk.put {α : Type} {E : World → List Value → α → Prop} (hE : Elem 3 E) {z : List Value} {e : TypeId} {w : World} {g n : Nat} {xs : List α} (h : Blk 3 E z e w g n xs) {i : Nat} (hx : i = xs.length) (hi : i < n) {c0 c1 c2 : Value} {x : α} (hc : E w [c0, c1, c2] x) :
    Blk 3 E z e (set3 w g i c0 c1 c2) g n (xs ++ [x]) := by
  have hno := h.noInt
  obtain ⟨c, s1, s2, s3, s4⟩ := h.stored hi c0 c1 c2 (hE.ints hc _ (by simp)) (hE.ints hc _ (by simp)) (hE.ints hc _ (by simp))
  obtain ⟨cur, h1, h2, h3, h4, h5, h6⟩ := h
  rw [h1] at s4
  dsimp only at s4
  refine ⟨c, s1, s2, by rw [List.length_append]; simp; omega, s3, ?_, ?_⟩
  · intro j y hj
    rw [s4 j]
    rcases get_snoc hj with ⟨hl, hj'⟩ | ⟨hl, rfl⟩
    · rw [if_neg (by omega)]
      exact hE.keep (h5 j y hj') (set3_but _ _ _ _ _ _) hno
    · rw [if_pos (by omega)]
      exact hE.keep hc (set3_but _ _ _ _ _ _) hno
  · intro j hj hjn
    rw [List.length_append] at hj
    simp only [List.length_singleton] at hj
    rw [s4 j, if_neg (by omega)]
    exact h6 j (by omega) hjn

/-- an element is replaced -/
theorem Blk.set {α : Type} {E : World → List Value → α → Prop} (hE : Elem 3 E) {z : List Value} {e : TypeId} {w : World} {g n : Nat} {xs : List α} (h : Blk 3 E z e w g n xs) {i : Nat} (hi : i < xs.length) {c0 c1 c2 : Value} {x : α} (hc : E w [c0, c1, c2] x) :
    Blk 3 E z e (set3 w g i c0 c1 c2) g n (xs.set i x) := by
  have hno := h.noInt
  obtain ⟨c, s1, s2, s3, s4⟩ := h.stored (Nat.lt_of_lt_of_le hi h.le) c0 c1 c2 (hE.ints hc _ (by simp)) (hE.ints hc _ (by simp)) (hE.ints hc _ (by simp))
  obtain ⟨cur, h1, h2, h3, h4, h5, h6⟩ := h
  rw [h1] at s4
  dsimp only at s4
  refine ⟨c, s1, s2, by rw [List.length_set]; exact h3, s3, ?_, ?_⟩
  · intro j y hj
    rw [s4 j]
    rw [List.getElem?_set] at hj
    by_cases hij : i = j
    · subst hij
      rw [if_pos rfl, if_pos hi] at hj
      cases hj
      rw [if_pos rfl]
      exact hE.keep hc (set3_but _ _ _ _ _ _) hno
    · rw [if_neg hij] at hj ⊢
      exact hE.keep (h5 j y hj) (set3_but _ _ _ _ _ _) hno
  · intro j hj hjn
    rw [List.length_set] at hj
    rw [s4 j, if_neg (by omega)]
    exact h6 j hj hjn

theorem zeroCells_seg {z : Array Value} {n i : Nat} (hi : i < n) : ((Builtin.zeroCells z n).toList.drop (i * z.size)).take z.size = z.toList := by
  apply List.ext_getElem?
  intro m
  rcases Nat.lt_or_ge m z.size with hm | hm
  · have h1 := seg_le (sz := z.size) hi
    have hl : i * z.size + m < (Builtin.zeroCells z n).toList.length := by rw [Array.length_toList, size_zeroCells]; omega
    rw [List.getElem?_take_of_lt hm, List.getElem?_drop, List.getElem?_eq_getElem hl]
    simp only [Builtin.zeroCells, Array.toList_map, List.getElem_map]
    have e9 : (i * z.size + m) % z.size = m := by rw [Nat.mul_comm, Nat.mul_add_mod, Nat.mod_eq_of_lt hm]
    simp [e9, hm, getElem!_pos]
  · rw [List.getElem?_eq_none (by rw [List.length_take]; omega), List.getElem?_eq_none (by rw [Array.length_toList]; omega)]

theorem made_zero (z : Array Value) (n : Nat) : madeCells z (n * z.size) = Builtin.zeroCells z n := rfl

theorem wpList_makeE {α : Type} {P : Program} (w : World) {ops : Array Oper} {rest : List Oper} {o : Oper} {a : Act} {Q : Exit → Act → World → Prop} (sz : Nat) (E : World → List Value → α → Prop)
    (hg : o.guard = none) (l : Operand) (t : TypeId) (hop : o.op = Op.makeSlice t l l) (z : Value) (zl : List Value) (hzl : z.cells.toList = zl) (hzs : z.cells.size = sz) (hzi : ∀ u ∈ z.cells.toList, notInt u = true)
    (e : TypeId) (bytes : Nat) (h1 : P.underlying t = some (.slice e)) (hi : (P.info? e).map (fun i => (i.zero, i.size, i.bytes)) = some (some z, sz, bytes)) (hby : bytes ≤ 100)
    (kl : IntKind) (L : Int) (n : Nat) (hl : a.eval l = .int kl L) (hL : L = (n : Int)) (hn : n ≤ 1000000000)
    (hK : ∀ w', Blk sz E zl e w' w.heap.size n ([] : List α) → Below w.heap.size w w' → w'.heap.size = w.heap.size + 1 → wpList P ops Q rest (a.put o.dst (.slice (some ⟨w.heap.size, 0, none⟩) n n)) w') :
    wpList P ops Q (o :: rest) a w := by
  obtain ⟨i0, hi0, hz0, hz1, hz2⟩ := info_parts hi
  refine wpList_plain hg fun K hK' => ?_
  subst hL
  have hb : (i0.bytes : Int) * (n : Int) ≤ 281474976710656 := by
    rw [hz2]
    have : bytes * n ≤ 100 * n := Nat.mul_le_mul_right n hby
    have h2 : ((bytes * n : Nat) : Int) ≤ 281474976710656 := by omega
    rwa [Int.natCast_mul] at h2
  have hr := run_make (P := P) w t e i0 z h1 hi0 hz0 kl kl n n (by omega) (Int.le_refl _) hb (by omega)
  rw [hz1, ← hzs, Int.toNat_natCast, made_zero] at hr
  unfold Oper.wp
  simp [execOp, hop, hl, hr, Result.andThen]
  refine hK' _ _ (hK _ ?_ ?_ ?_)
  · refine ⟨_, by show (w.heap.push _)[_]? = _; rw [Array.getElem?_push, if_pos rfl], ?_, Nat.zero_le _, ?_, fun i x h => by simp at h, fun i _ hin => ?_⟩
    · rw [size_zeroCells, hzs]
    · exact zeroCells_ints _ _ hzi
    · rw [← hzs, ← hzl]; exact zeroCells_seg hin
  · exact (Below.refl _ _).alloc (Nat.le_refl _) _
  · simp

theorem run_copyE {α : Type} {P : Program} {w : World} {sz : Nat} {E : World → List Value → α → Prop} (hE : Elem sz E) (dT sT ty elem : TypeId) (hu : P.underlying dT = some (.slice elem)) (hi : (P.info? elem).map (·.size) = some sz)
    (z : List Value) (e : TypeId) (g n dcap : Nat) (hB : Blk sz E z e w g n ([] : List α)) (v : Value) (xs : List α) (h : SlE sz E w v xs) (hl : xs.length = n) :
    ∃ w', (Builtin.copy_ #[dT, sT] ty #[.slice (some ⟨g, 0, none⟩) n dcap, v]).run P w = .ok (goInt n) w' ∧ Blk sz E z e w' g n xs ∧ But g w w' ∧ w'.heap.size = w.heap.size := by
  have hno := hB.noInt
  obtain ⟨ao, cap, rfl, hc, hx⟩ := h
  obtain ⟨cur, h1, h2, h3, h4, h5, h6⟩ := hB
  cases hq : P.info? elem with
  | none => simp [hq] at hi
  | some i =>
  have hisz : i.size = sz := by simpa [hq] using hi
  rw [hl]
  by_cases h0 : n = 0
  · subst h0
    obtain rfl : xs = [] := List.eq_nil_of_length_eq_zero hl
    refine ⟨w, ?_, ⟨cur, h1, h2, by simp, h4, fun i x hx => by simp at hx, fun i _ hi => by omega⟩, But.refl _ _, rfl⟩
    have hl0 : ∀ (x : Addr), (loadCells x 0).run P w = .ok #[] w := fun x => by simpa using run_loadCells_list (P := P) w x [] (by simp)
    cases ao <;> simp [Builtin.copy_, run_underlying hu, Builtin.lenOf, Builtin.firstCells, sizeOf, typeInfo, hq, hisz, storeCells, hl0]
  · obtain ⟨x0, hx0⟩ : ∃ x, xs[0]? = some x := ⟨_, List.getElem?_eq_getElem (by omega)⟩
    obtain ⟨b, off, cs0, rfl, hb, _, _⟩ := hx 0 x0 hx0
    obtain ⟨news, hnews⟩ : ∃ news, news = rowOf w b off (n * sz) := ⟨_, rfl⟩
    have hln : news.length = n * sz := by rw [hnews, rowOf_len]
    have hat : ∀ i x, xs[i]? = some x → ∃ cs, (∀ j u, cs[j]? = some u → w.cell? ⟨b, off + (i * sz + j), none⟩ = some u) ∧ E w cs x := by
      intro i x hxi
      obtain ⟨b', off', cs, h1, _, h3, h4⟩ := hx i x hxi
      cases h1
      exact ⟨cs, h3, h4⟩
    have hone : ∀ j u, news[j]? = some u → w.cell? ⟨b, off + j, none⟩ = some u ∧ notInt u = true ∧ u.oneCell' = true := by
      intro j u hj
      have hjm : j < n * sz := by rw [← hln]; exact (List.getElem?_eq_some_iff.1 hj).1
      obtain ⟨d1, d2, d3⟩ := div_lt hjm
      obtain ⟨x, hx⟩ : ∃ x, xs[j / sz]? = some x := ⟨_, List.getElem?_eq_getElem (by omega)⟩
      obtain ⟨cs, k3, k4⟩ := hat _ x hx
      have hjl : j % sz < cs.length := by rw [hE.len k4]; exact d2
      have hcs : cs[j % sz]? = some cs[j % sz] := List.getElem?_eq_getElem hjl
      have k5 := k3 _ _ hcs
      rw [← d3] at k5
      rw [hnews] at hj
      unfold rowOf at hj
      rw [List.getElem?_map, List.getElem?_range hjm, Option.map_some, k5] at hj
      simp at hj
      rw [← hj]
      exact ⟨k5, hE.ints k4 _ (List.getElem_mem hjl), hE.one k4 _ (List.getElem_mem hjl)⟩
    have hcell : ∀ j u, news[j]? = some u → w.cell? ((⟨b, off, none⟩ : Addr).add j) = some u := fun j u hj => by rw [Addr.add_lit]; exact (hone j u hj).1
    have hmem : ∀ u ∈ news, notInt u = true ∧ u.oneCell' = true := fun u hu => by
      obtain ⟨j, hj⟩ := List.mem_iff_getElem?.1 hu
      exact (hone j u hj).2
    have hload := run_loadCells_list (P := P) w ⟨b, off, none⟩ news hcell
    rw [hln] at hload
    have hst := run_storeCells_at P g 0 e news 0 cur w h1 (by rw [hln, h2]; omega) (fun u hu => (hmem u hu).2)
    have e9 : cur.toList.take (0 + 0) ++ news ++ cur.toList.drop (0 + 0 + news.length) = news := by
      rw [List.drop_eq_nil_of_le (by rw [Array.length_toList, h2, hln]; omega)]; simp
    rw [e9] at hst
    refine ⟨w.setRow g news.toArray, ?_, ⟨news.toArray, setRow_heap w g _ _ e _ h1, by simp [hln], by omega, fun u hu => (hmem u (by simpa using hu)).1, ?_, fun i hi hin => by omega⟩, ⟨rfl, rfl, rfl, by simp [World.setRow], fun i hi hg => setRow_other w g i _ hg⟩, by simp [World.setRow]⟩
    · simp [Builtin.copy_, run_underlying hu, Builtin.lenOf, Builtin.firstCells, sizeOf, typeInfo, hq, hisz, hload, hst]
    · intro i x hxi
      have hin : i < n := by rw [← hl]; exact (List.getElem?_eq_some_iff.1 hxi).1
      obtain ⟨cs, k3, k4⟩ := hat i x hxi
      have hm := seg_le (sz := sz) hin
      have k9 : (news.drop (i * sz)).take sz = cs := by rw [hnews]; exact rowOf_seg (hE.len k4) hm k3
      show E _ ((news.drop (i * sz)).take sz) x
      rw [k9]
      exact hE.keep k4 ⟨rfl, rfl, rfl, by simp [World.setRow], fun i hi hg => setRow_other w g i _ hg⟩ hno

theorem wpList_copyE {α : Type} {P : Program} {w : World} {ops : Array Oper} {rest : List Oper} {o : Oper} {a : Act} {Q : Exit → Act → World → Prop} {sz : Nat} {E : World → List Value → α → Prop} (hE : Elem sz E) (hgd : o.guard = none) (d s : Operand) (dT sT : TypeId)
    (ho : o.op = .call { callee := .builtin .copy, args := #[d, s], argTypes := #[dT, sT] }) (elem : TypeId) (hu : P.underlying dT = some (.slice elem)) (hi : (P.info? elem).map (·.size) = some sz)
    (z : List Value) (e : TypeId) (g n dcap : Nat) (hB : Blk sz E z e w g n ([] : List α)) (hd : a.eval d = .slice (some ⟨g, 0, none⟩) n dcap) (v : Value) (hs : a.eval s = v) (xs : List α) (h : SlE sz E w v xs) (hl : xs.length = n)
    (hK : ∀ w', Blk sz E z e w' g n xs → But g w w' → w'.heap.size = w.heap.size → wpList P ops Q rest (a.put o.dst (goInt n)) w') : wpList P ops Q (o :: rest) a w := by
  obtain ⟨w', hr, k1, k2, k3⟩ := run_copyE (P := P) hE dT sT o.type elem hu hi z e g n dcap hB v xs h hl
  refine wpList_plain hgd fun K hK' => ?_
  unfold Oper.wp
  simp [execOp, ho, resolve, invoke, builtin, hd, hs, hr, Result.andThen]
  exact hK' _ _ (hK w' k1 k2 k3)
/-- the cells of a fraction that is not made yet -/
def zR : List Value := [.bool false, .slice none 0 0, .slice none 0 0]
end Go.Proofs.YtdkjcdfkoahfkaaGreatDoor

namespace Go.Proofs.YtdkjcdfkoahfkaaGreatDoor
open Go Go.RowKit

/-- the value of a polynomial -/
def evalQ : List Rat → Rat → Rat
  | [], _ => 0
  | c :: l, x => evalQ l x * x + c
theorem evalQ_nil (x : Rat) : evalQ [] x = 0 := rfl
theorem evalQ_drop {l : List Rat} {k : Nat} {q : Rat} (x : Rat) (h : l[k]? = some q) : evalQ (l.drop k) x = evalQ (l.drop (k + 1)) x * x + q := by
  obtain ⟨hk, e⟩ := List.getElem?_eq_some_iff.1 h
  rw [List.drop_eq_getElem_cons hk, e]; rfl

theorem m_zero (x : Value) (w : World) : (Go.method 428 85 x "loop.example/g01120/impl.zero").run Tryz.prog w = .ok (170, x) w := by kernel_rfl
theorem m_times (x : Value) (w : World) : (Go.method 428 85 x "loop.example/g01120/impl.times").run Tryz.prog w = .ok (65, x) w := by kernel_rfl
theorem m_plus (x : Value) (w : World) : (Go.method 428 85 x "loop.example/g01120/impl.plus").run Tryz.prog w = .ok (63, x) w := by kernel_rfl

set_option maxRecDepth 100000 in
set_option maxHeartbeats 1000000 in
theorem rzeroM_any (v : Value) (q : Rat) (w : World) (h : IsR w v q) (R : Ending → World → Prop)
    (hR : ∀ v' w', IsR w' v' 0 → Below w.heap.size w w' → R (.returned v') w') :
    Calls Tryz.prog 170 #[v] w R := by
  have HR := Lib.hid hR; clear hR
  obtain ⟨na, a1, n1, c1, a2, n2, c2, hna, rfl, hn1, hn2⟩ := h.parts
  obtain ⟨L, hL⟩ : ∃ L, L = (w.alloc (.cells #[.bool na, .slice a1 n1 c1, .slice a2 n2 c2] 85)).alloc (.cells #[.bool false, .slice none 0 0, .slice none 0 0] 85) := ⟨_, rfl⟩
  have HEXT : Hid (Below w.heap.size w L) := Lib.hid (by rw [hL]; exact ((Below.refl w.heap.size w).alloc (Nat.le_refl _) _).alloc (by simp) _)
  have HB2 : Hid (Box3 L (w.heap.size + 1) (.bool false) (.slice none 0 0) (.slice none 0 0) 85) := Lib.hid (by
    have := Box3.made (w.alloc (.cells #[.bool na, .slice a1 n1 c1, .slice a2 n2 c2] 85)) (.bool false) (.slice none 0 0) (.slice none 0 0) 85
    rw [World.size_alloc, ← hL] at this; exact this)
  have HL := Lib.hid hL
  clear h hna hn1 hn2 hL
  go_enter Tryz.func170, Tryz.ntmps170
  go_wp2_with fail
  rw [← HL.out]
  refine ratioOf_any _ 0 _ (IsI.nil _) _ ?_
  intro v2 w2 hr2 hb2
  obtain ⟨m0, a5, n5, c5, a6, n6, c6, hm0, rfl, _, _⟩ := hr2.parts
  have HR2 := Lib.hid hr2
  have d2 := HB2.out.later hb2 (lt_of_block HB2.out)
  obtain ⟨⟨hR0, hR1, hR2⟩, hF0, hF1, hF2⟩ := d2.cells
  have HD2 := Lib.hid d2
  have HT2 := Lib.hid (HEXT.out.trans (hb2.mono HEXT.out.size))
  clear hr2 hb2 hm0 d2
  dsimp only
  go_wp2
  refine bodyPost_ret_at (by simp [results, Tryz.results170, go_sem, hR0, hR1, hR2, hF0, hF1, hF2] <;> rfl) rfl ?_
  exact HR.out _ _ (IsR.set3 HR2.out (HD2.out.noInt rfl rfl rfl) _ _ _ rfl rfl) (below_set3 HT2.out (show w.heap.size ≤ w.heap.size + 1 by omega) _ _ _)

/-- the loop of the program's evaluation -/
def AtRel (w2 : World) (n : Nat) (qs : List Rat) (x : Rat) (i : Value) (wr : World) : Prop :=
  ∃ k m a5 n5 c5 a6 n6 c6, i = .int .i64 (((k : Nat) : Int) - 1) ∧ k ≤ n ∧ Box3 wr w2.heap.size (.bool m) (.slice a5 n5 c5) (.slice a6 n6 c6) 85 ∧ IsR wr (.agg #[.bool m, .slice a5 n5 c5, .slice a6 n6 c6]) (evalQ (qs.drop k) x) ∧
    Bd (121 * (n - k) + 1) (evalQ (qs.drop k) x) ∧ Below w2.heap.size w2 wr

end Go.Proofs.YtdkjcdfkoahfkaaGreatDoor

namespace Go.Proofs.YtdkjcdfkoahfkaaGreatDoor
open Go Go.RowKit

/-- the first rounds of a sum -/
def plusSt (xs ys : List Rat) : Nat → List Rat
  | 0 => xs
  | k + 1 => (plusSt xs ys k).set k (atQ (plusSt xs ys k) k + atQ ys k)
theorem plusSt_len (xs ys : List Rat) : ∀ k, (plusSt xs ys k).length = xs.length
  | 0 => rfl
  | k + 1 => by rw [plusSt, List.length_set, plusSt_len xs ys k]
theorem plusSt_succ {xs ys : List Rat} {k : Nat} {p q : Rat} (hp : (plusSt xs ys k)[k]? = some p) (hq : ys[k]? = some q) : plusSt xs ys (k + 1) = (plusSt xs ys k).set k (p + q) := by
  rw [plusSt, atQ_some hp, atQ_some hq]
theorem plusSt_at (xs ys : List Rat) : ∀ (k i : Nat), i < xs.length → (plusSt xs ys k)[i]? = some (atQ xs i + if i < k then atQ ys i else 0)
  | 0, i, hi => by
    rw [plusSt, if_neg (by omega), Rat.add_zero]
    have := List.getElem?_eq_getElem hi
    rw [this, atQ_some this]
  | k + 1, i, hi => by
    have ih := plusSt_at xs ys k i hi
    rw [plusSt, List.getElem?_set]
    by_cases hki : k = i
    · subst hki
      rw [if_pos rfl, plusSt_len, if_pos hi, atQ_some ih, if_neg (by omega), if_pos (by omega), Rat.add_zero]
    · rw [if_neg hki, ih]
      congr 2
      by_cases h1 : i < k
      · rw [if_pos h1, if_pos (by omega)]
      · rw [if_neg h1, if_neg (by omega)]
theorem plusSt_all {xs ys : List Rat} (h : ys.length ≤ xs.length) : plusSt xs ys ys.length = sumP xs ys 1 := by
  apply List.ext_getElem?
  intro i
  rcases Nat.lt_or_ge i xs.length with hi | hi
  · rw [plusSt_at _ _ _ _ hi, sumP_at _ _ _ (by omega), Rat.mul_one]
    congr 2
    by_cases h1 : i < ys.length
    · rw [if_pos h1]
    · rw [if_neg h1, atQ_none (by omega)]
  · rw [List.getElem?_eq_none (by rw [plusSt_len]; exact hi), List.getElem?_eq_none (by rw [sumP_len]; omega)]
theorem sumP_comm (a b : List Rat) : sumP a b 1 = sumP b a 1 := by
  unfold sumP
  rw [Nat.max_comm]
  congr 1
  funext i
  rw [Rat.mul_one, Rat.mul_one, Rat.add_comm]
theorem plus_same {a b : List Rat} (h : b.length ≤ a.length) : plusSt a b b.length = sumP a b 1 := plusSt_all h
theorem plus_swap {a b : List Rat} (h : a.length ≤ b.length) : plusSt b a a.length = sumP a b 1 := by rw [plusSt_all h, sumP_comm]
theorem plusSt_bd {N M : Nat} {xs ys : List Rat} (hx : AllBd N xs) (hy : AllBd M ys) (k : Nat) : AllBd (N + M + 3) (plusSt xs ys k) := by
  intro i q hi
  have hl : i < xs.length := by rw [← plusSt_len xs ys k]; exact (List.getElem?_eq_some_iff.1 hi).1
  rw [plusSt_at xs ys k i hl] at hi
  cases hi
  have h1 : Bd (N + 1) (atQ xs i) := atQ_bd (fun j r hj => (hx j r hj).mono (by omega)) (by omega) i
  split
  · exact (h1.add (M := M + 1) ((atQ_bd (fun j r hj => (hy j r hj).mono (Nat.le_succ _)) (by omega) i))).mono (by omega)
  · exact (h1.add (M := 1) Bd.zero).mono (by omega)

/-- the loop of a sum -/
def DPlusRel (w : World) (n : Nat) (xs ys : List Rat) (i : Value) (wr : World) : Prop :=
  ∃ k : Nat, i = .int .i64 (k : Int) ∧ k ≤ ys.length ∧ Blk 3 ER zR 85 wr w.heap.size n (plusSt xs ys k) ∧ Below w.heap.size w wr

end Go.Proofs.YtdkjcdfkoahfkaaGreatDoor

namespace Go.Proofs.YtdkjcdfkoahfkaaGreatDoor
open Go Go.RowKit

theorem sgn_flip (z : Int) : sgn (!decide (z < 0)) z.natAbs = -z := by
  unfold sgn
  by_cases h : z < 0
  · rw [decide_eq_true h]; simp; omega
  · rw [decide_eq_false h]; simp; omega

set_option maxRecDepth 100000 in
set_option maxHeartbeats 2000000 in
theorem ineg_any (v : Value) (z : Int) (w : World) (h : IsI w v z) (R : Ending → World → Prop)
    (hR : ∀ v' w', IsI w' v' (-z) → Below w.heap.size w w' → R (.returned v') w') :
    Calls Tryz.prog 157 #[v] w R := by
  have HR := Lib.hid hR; clear hR
  obtain ⟨ng, a1, n1, c1, hng, rfl, hn1⟩ := h.parts
  obtain ⟨L, hL⟩ : ∃ L, L = (w.alloc (.cells #[.bool ng, .slice a1 n1 c1] 83)).alloc (.cells #[.bool false, .slice none 0 0] 83) := ⟨_, rfl⟩
  have HEXT : Hid (Below w.heap.size w L) := Lib.hid (by rw [hL]; exact ((Below.refl w.heap.size w).alloc (Nat.le_refl _) _).alloc (by simp) _)
  have hLs : L.heap.size = w.heap.size + 2 := by rw [hL]; simp
  have B0 : Box2 L w.heap.size (.bool ng) (.slice a1 n1 c1) 83 := by rw [hL]; exact (Box2.made w _ _ _).alloc _
  have B1 : Box2 L (w.heap.size + 1) (.bool false) (.slice none 0 0) 83 := by
    have := Box2.made (w.alloc (.cells #[.bool ng, .slice a1 n1 c1] 83)) (.bool false) (.slice none 0 0) 83
    rw [World.size_alloc, ← hL] at this; exact this
  have HK : Hid (w.heap.size + 1 < L.heap.size) := Lib.hid (by omega)
  have HL := Lib.hid hL
  have HNG := Lib.hid hng
  have HB1 := Lib.hid B1
  have Y1 := Lib.hid (hn1.later HEXT.out (Nat.le_refl _))
  obtain ⟨hA, hB, _, _⟩ := B0.cells
  rw [hL] at hA hB
  clear hng h hn1 hL hLs B0 B1
  go_enter Tryz.func157, Tryz.ntmps157
  go_wp2_with fail
  rw [← HL.out]
  refine integerOf_z (!ng) _ z.natAbs _ Y1.out _ ?_
  intro v2 w2 hv2 hb2
  rw [HNG.out, sgn_flip] at hv2
  obtain ⟨m2, a5, m5, c5, hm2, rfl, hn5⟩ := hv2.parts
  have HV5 := Lib.hid hn5
  have HM2 := Lib.hid hm2
  have HT2 := Lib.hid hb2
  have d2 := HB1.out.later hb2 HK.out
  clear hv2 hb2 hm2 hn5 hA hB
  obtain ⟨hR0, hR1, hR2, hR3⟩ := d2.cells
  have HD2 := Lib.hid d2
  clear d2
  dsimp only
  go_wp2
  refine bodyPost_ret_at (by simp [results, Tryz.results157, go_sem, hR0, hR1, hR2, hR3] <;> rfl) rfl ?_
  exact HR.out _ _ (IsI.mk HM2.out (HV5.out.set2 (HD2.out.noInt rfl rfl) _ _ rfl)) (((HEXT.out.trans (HT2.out.mono HEXT.out.size)).setCell (show w.heap.size ≤ w.heap.size + 1 by omega) _).setCell (show w.heap.size ≤ w.heap.size + 1 by omega) _)

set_option maxRecDepth 100000 in
set_option maxHeartbeats 4000000 in
theorem rneg_any (v : Value) (a : Rat) (w : World) (h : IsR w v a) (R : Ending → World → Prop)
    (hR : ∀ v' w', IsR w' v' (-a) → Below w.heap.size w w' → R (.returned v') w') :
    Calls Tryz.prog 96 #[v] w R := by
  have HR := Lib.hid hR; clear hR
  obtain ⟨na, a1, n1, c1, a2, n2, c2, hna, rfl, hn1, hn2⟩ := h.parts
  obtain ⟨L, hL⟩ : ∃ L, L = (w.alloc (.cells #[.bool na, .slice a1 n1 c1, .slice a2 n2 c2] 85)).alloc (.cells #[.bool false, .slice none 0 0, .slice none 0 0] 85) := ⟨_, rfl⟩
  have HEXT : Hid (Below w.heap.size w L) := Lib.hid (by rw [hL]; exact ((Below.refl w.heap.size w).alloc (Nat.le_refl _) _).alloc (by simp) _)
  have hLs : L.heap.size = w.heap.size + 2 := by rw [hL]; simp
  have hb1 : Below (w.heap.size + 1) (w.alloc (.cells #[.bool na, .slice a1 n1 c1, .slice a2 n2 c2] 85)) L := by rw [hL]; exact (Below.refl _ _).alloc (by simp) _
  have B0 : Box3 L w.heap.size (.bool na) (.slice a1 n1 c1) (.slice a2 n2 c2) 85 := (Box3.made w _ _ _ _).later hb1 (by omega)
  have B2 : Box3 L (w.heap.size + 1) (.bool false) (.slice none 0 0) (.slice none 0 0) 85 := by
    have := Box3.made (w.alloc (.cells #[.bool na, .slice a1 n1 c1, .slice a2 n2 c2] 85)) (.bool false) (.slice none 0 0) (.slice none 0 0) 85
    rw [World.size_alloc, ← hL] at this; exact this
  have HL := Lib.hid hL
  have HLS := Lib.hid hLs
  have HB2 := Lib.hid B2
  have HNA := Lib.hid hna
  have XI : Hid (IsI L (.agg #[.bool na, .slice a1 n1 c1]) a.num) := Lib.hid (IsI.mk hna (hn1.later HEXT.out (Nat.le_refl _)))
  have X1 := Lib.hid (hn1.later HEXT.out (Nat.le_refl _))
  have X2 := Lib.hid (hn2.later HEXT.out (Nat.le_refl _))
  have HIV : Hid ((-a).num = -a.num ∧ (-a).den = a.den) := Lib.hid ⟨Rat.neg_num a, Rat.neg_den a⟩
  have HSOF : Hid (∀ w', Below (w.heap.size + 1) L w' → (Below (w.heap.size + 1) L w' ∧ (w'.cell? ⟨w.heap.size, 0, none⟩ = some (.bool na) ∧ w'.cell? ⟨w.heap.size, 1, none⟩ = some (.slice a1 n1 c1) ∧ w'.cell? ⟨w.heap.size, 2, none⟩ = some (.slice a2 n2 c2)))) :=
    Lib.hid fun w' hb => ⟨hb, (B0.later hb (by omega)).cells.1⟩
  clear hna h hn1 hn2 hb1 B0 B2 hL hLs
  go_enter Tryz.func96, Tryz.ntmps96
  go_wp2_with fail
  rw [← HL.out]
  go_region_held3 (fun w' => Below (w.heap.size + 1) L w' ∧ (w'.cell? ⟨w.heap.size, 0, none⟩ = some (.bool na) ∧ w'.cell? ⟨w.heap.size, 1, none⟩ = some (.slice a1 n1 c1) ∧ w'.cell? ⟨w.heap.size, 2, none⟩ = some (.slice a2 n2 c2)))
    (first
      | exact HSOF.out _ HQ1.out
      | exact HSOF.out _ (Below.refl _ _).drew
      | exact HSOF.out _ (((HQ1.out.setCell (by simp) _).setCell (by simp) _).setCell (by simp) _))
    (first
      | (go_at_call 157; refine ineg_any _ a.num _ (XI.out.later (Below.refl _ _).drew (Nat.le_refl _)) _ ?_; intro v1 w1 hv1 hb1; rw [← HIV.out.1] at hv1; obtain ⟨m1, a5, m5, c5, hm1, rfl, hn5⟩ := hv1.parts; have HM1 := Lib.hid hm1; have HV1 := Lib.hid hn5; have HT1 : Hid (Below L.heap.size L w1) := Lib.hid (below_unDrew hb1); have HQ1 : Hid (Below (w.heap.size + 1) L w1) := Lib.hid (HT1.out.mono (by have := HLS.out; omega)); have d1 := HB2.out.later HT1.out (by have := HLS.out; omega); obtain ⟨⟨hR0, hR1, hR2⟩, hF0, hF1, hF2⟩ := d1.cells; have HD1 := Lib.hid d1; clear hv1 hb1 hm1 hn5 d1; dsimp only))
  all_goals
    go_wp2
    refine bodyPost_ret_at (by simp [results, Tryz.results96, go_sem, hR0, hR1, hR2, hF0, hF1, hF2] <;> rfl) rfl ?_
    have hq : IsR w1 (.agg #[.bool m1, .slice a5 m5 c5, .slice a2 n2 c2]) (-a) := ⟨_, _, by rw [HM1.out], HV1.out, by rw [HIV.out.2]; exact X2.out.later HT1.out (Nat.le_refl _)⟩
    refine HR.out _ _ (IsR.set3 hq (HD1.out.noInt rfl rfl rfl) _ _ _ rfl rfl) ?_
    exact (((HEXT.out.trans (HT1.out.mono HEXT.out.size)).setCell (show w.heap.size ≤ w.heap.size + 1 by omega) _).setCell (show w.heap.size ≤ w.heap.size + 1 by omega) _).setCell (show w.heap.size ≤ w.heap.size + 1 by omega) _

end Go.Proofs.YtdkjcdfkoahfkaaGreatDoor

namespace Go.Proofs.YtdkjcdfkoahfkaaGreatDoor
open Go Go.RowKit

/-- the opposite polynomial -/
def negP (qs : List Rat) : List Rat := qs.map fun q => -q
theorem negP_bd {N : Nat} {qs : List Rat} (h : AllBd N qs) : AllBd N (negP qs) := by
  intro i q hi
  unfold negP at hi
  rw [List.getElem?_map] at hi
  cases hq : qs[i]? with
  | none => rw [hq] at hi; cases hi
  | some p => rw [hq] at hi; cases hi; exact (h i p hq).neg
theorem sumP_neg (a b : List Rat) : sumP a (negP b) 1 = sumP a b (-1) := by
  unfold sumP
  have hl : (negP b).length = b.length := by unfold negP; rw [List.length_map]
  rw [hl]
  congr 1
  funext i
  congr 1
  rw [Rat.mul_one]
  unfold atQ negP
  rw [List.getElem?_map]
  cases b[i]? with
  | none => simp
  | some q => simp [Rat.mul_neg]
theorem m_neg (x : Value) (w : World) : (Go.method 428 85 x "loop.example/g01120/impl.negated").run Tryz.prog w = .ok (96, x) w := by kernel_rfl

def NegRel (w : World) (n : Nat) (qs : List Rat) (i : Value) (wr : World) : Prop :=
  ∃ k : Nat, i = .int .i64 (k : Int) ∧ k ≤ n ∧ Blk 3 ER zR 85 wr w.heap.size n ((negP qs).take k) ∧ Below w.heap.size w wr

end Go.Proofs.YtdkjcdfkoahfkaaGreatDoor
