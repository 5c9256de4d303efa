import Derived.Test.YtjpbmagpieonoaaDoorQ
import Derived.Test.YtjpbmagpieonoaaDoorDec
import Derived.Laws.BytesString
namespace Go.Proofs.YtjpbmagpieonoaaDoor
open Go Go.RowKit

def lenOf : Value → Nat
  | .string s => s.size
  | _ => 0

theorem chr_int (d : Nat) : UInt8.ofNat (48 + (d : Int)).toNat = chr d := by
  have : (48 + (d : Int)).toNat = 48 + d := by omega
  rw [this]; rfl

set_option maxRecDepth 100000 in
/-- four bytes as a text -/
theorem conv4 (W : World) (x : Nat) :
    (convert 112 9 (.slice (some ⟨W.heap.size, 0, none⟩) 4 4)).run Tryd.prog (W.alloc (.cells #[.int .u8 (48 + (x : Int) / 1000), .int .u8 (48 + (x : Int) / 100 % 10), .int .u8 (48 + (x : Int) / 10 % 10), .int .u8 (48 + (x : Int) % 10)] 5)) =
      .ok (.string ⟨(four x).toArray⟩) (W.alloc (.cells #[.int .u8 (48 + (x : Int) / 1000), .int .u8 (48 + (x : Int) / 100 % 10), .int .u8 (48 + (x : Int) / 10 % 10), .int .u8 (48 + (x : Int) % 10)] 5)) := by
  rw [run_convert_bytes_string _ _ _ 5 _ _ _ Tryd.underlying112 Tryd.underlying5 Tryd.underlying9]
  rw [run_bytesToString _ _ _ _ [48 + (x : Int) / 1000, 48 + (x : Int) / 100 % 10, 48 + (x : Int) / 10 % 10, 48 + (x : Int) % 10] (by simp [go_sem])]
  have e : [48 + (x : Int) / 1000, 48 + (x : Int) / 100 % 10, 48 + (x : Int) / 10 % 10, 48 + (x : Int) % 10].foldl (fun r n => r.push (UInt8.ofNat n.toNat)) ByteArray.empty = ⟨(four x).toArray⟩ := by
    have h1 := chr_int (x / 1000)
    have h2 := chr_int (x / 100 % 10)
    have h3 := chr_int (x / 10 % 10)
    have h4 := chr_int (x % 10)
    push_cast at h1 h2 h3 h4
    simp only [List.foldl_cons, List.foldl_nil, h1, h2, h3, h4]
    rfl
  rw [e]

set_option maxRecDepth 100000 in
theorem zdigits_any (v : Value) (z : Int) (w : World) (hz : IsZ w v z) (hlen : (dig 10000 z.natAbs).length ≤ 1000000000) (R : Ending → World → Prop)
    (hR : ∀ w', Below w.heap.size w w' → R (.returned (.string ⟨(decs z.natAbs).toArray⟩)) w') :
    Calls Tryd.prog 59 #[v] w R := by
  have HR := Lib.hid hR; clear hR
  obtain ⟨a, n, c, rfl, en, hs⟩ := hz.open
  rw [← en] at hlen
  obtain ⟨ds, hds⟩ : ∃ ds, ds = dig 10000 z.natAbs := ⟨_, rfl⟩
  have hdlt : ∀ d ∈ ds, d < 10000 := by rw [hds]; exact dig_lt (by omega) _
  have hval : val 10000 ds = z.natAbs := by rw [hds]; exact val_dig (by omega) _
  rw [← hds] at hs en
  rw [← hval] at HR
  have En := Lib.hid en
  have Hlt := Lib.hid hdlt
  clear en hdlt hds hval hz
  go_enter Tryd.func59, Tryd.ntmps59
  go_wp2
  go_loopw [3, 4] (fun o i wr => ∃ k : Nat, k ≤ n ∧ i = .int .i64 k ∧ o = .string ⟨(cat4 (ds.take k)).toArray⟩ ∧ Below (w.heap.size + 1) (w.alloc (.cells #[.bool (decide (z < 0)), .slice a n c] 49)) wr) (fun _ i _ => n - (intOf i).toNat)
  case atStart => exact ⟨0, Nat.zero_le _, rfl, rfl, Below.refl _ _⟩
  case round =>
    obtain ⟨k, hk, rfl, rfl, hbel⟩ := hrel
    have hbox := (Box2.made w (.bool (decide (z < 0))) (.slice a n c) 49).later hbel (by omega)
    obtain ⟨hA, hB, hA', hB'⟩ := hbox.cells
    by_cases hkn : k < n
    · rcases hs.cases with ⟨h0, _⟩ | ⟨h0, b, off, cap, he, hcap, hb, hc⟩
      · subst h0; have := En.out; simp at this; omega
      · simp only [Value.slice.injEq] at he
        obtain ⟨rfl, he3, rfl⟩ := he; clear he3
        have hcell := hc k (by rw [← En.out]; exact hkn)
        rw [← World.cell?_alloc_past (.cells #[.bool (decide (z < 0)), .slice (some ⟨b, off, none⟩) n c] 49) b (off + k) hb, ← hbel.cell (p := ⟨b, off + k, none⟩) (by simp; omega)] at hcell
        obtain ⟨x, hx⟩ : ∃ x, x = ds.getD k 0 := ⟨_, rfl⟩
        rw [← hx] at hcell
        have hxl : x < 10000 := by rw [hx]; have := Hlt.out; rw [List.getD, List.getElem?_eq_getElem (by rw [← En.out]; exact hkn)]; exact this _ (List.getElem_mem _)
        have Hx := Lib.hid hx; clear hx hc
        have hcv := conv4 wr x
        have hs1 : (cat4 (ds.take k)).length ≤ 4000000000 := by rw [cat4_length]; have := List.length_take_le k ds; omega
        have hs2 : (four x).length ≤ 4 := by simp [four]
        go_wp2
        go_roundw
        case rel =>
          refine ⟨k + 1, by omega, by go_num, ?_, hbel.alloc (by have := hbel.size; simp at this; omega) _⟩
          have hk1 : k < ds.length := by rw [← En.out]; exact hkn
          have hxx : ds[k] = x := by rw [Hx.out, List.getD, List.getElem?_eq_getElem hk1]; rfl
          rw [List.take_succ_eq_append_getElem hk1, cat4_snoc, hxx, ByteArray.mk_append_mk]
        case measure => simp [intOf]; omega
    · obtain rfl : k = n := by omega
      have hbz : Below w.heap.size w wr := ((Below.refl _ _).alloc (Nat.le_refl _) _).trans (hbel.mono (by omega))
      have htake : ds.take k = ds := by rw [En.out, List.take_length]
      have Hbz := Lib.hid hbz
      have hdecs := decs_of ds Hlt.out
      have hsl := cat4_length ds
      rw [htake]
      rw [hdecs] at HR
      obtain ⟨L, hL⟩ : ∃ L, L = cat4 ds := ⟨_, rfl⟩
      rw [← hL] at HR hsl ⊢
      have hsl' : L.length ≤ 4000000000 := by have := En.out; omega
      clear hbz htake hdecs hsl hL hbox hbel
      go_wp2
      go_loop [3] (fun o => ∃ l : List UInt8, o = .string ⟨l.toArray⟩ ∧ l.length ≤ 4000000000 ∧ strip0 l = strip0 L) (fun o => lenOf o)
      case atStart => exact ⟨L, rfl, hsl', rfl⟩
      case round =>
        obtain ⟨l, rfl, hll, hst⟩ := hrel
        have Hst := Lib.hid hst; clear hst
        match l with
        | [] =>
          have hn : strip0 L = [] := by rw [← Hst.out]; rfl
          rw [if_pos hn] at HR
          clear hn
          go_wp2
          first | go_ret | skip
          exact HR.out _ Hbz.out
        | ch :: l =>
          by_cases hch : ch = 48
          · subst hch
            go_wp2
            go_round
            case rel => exact ⟨l, by rw [ByteArray.extract_mk]; simp, by simp at hll; omega, by rw [← Hst.out]; simp [strip0]⟩
            case measure => simp [lenOf, ByteArray.size]
          · have e : ((((ByteArray.mk (ch :: l).toArray)[0]'(by simp [ByteArray.size])).toNat : Int) == 48) = false := by
              show ((ch.toNat : Int) == 48) = false
              have : ch.toNat ≠ 48 := fun h => hch (UInt8.toNat_inj.1 (by rw [h]; rfl))
              simp; omega
            have hn : strip0 L = ch :: l := by rw [← Hst.out, strip0, if_neg hch]
            rw [hn, if_neg (by simp)] at HR
            clear hn
            go_wp2
            first | go_ret | skip
            exact HR.out _ Hbz.out
end Go.Proofs.YtjpbmagpieonoaaDoor
