import PyProof.Rows.All
import Wide.All
import OpenK.AllK
import Wide.FinOn
import Open.SpecLaws
import KE.OsHead
import KE.OsGo
import HandS.ForSpec
import HandS.Comp
import HandS.Iter
import HandS.Walk
import HandS.SortInts
import HandS.Wide
import HandS.WideBits
import PySem.Challenge.RW_starlight_s08_ap_magnitude
set_option Elab.async false
set_option linter.all false
set_option maxRecDepth 100000
set_option maxHeartbeats 4000000
namespace Ap
/-! ### sums over a list and over a range -/
theorem sum_snoc (l : List Int) (z : Int) : (l ++ [z]).sum = l.sum + z := by
  rw [List.sum_append]
  simp
theorem msum_take {α : Type} {g : α → Int} {l : List α} {i : Nat} {z : α} (h : l[i]? = some z) : ((l.take (i + 1)).map g).sum = ((l.take i).map g).sum + g z := by
  rw [List.take_add_one, h, List.map_append]
  exact sum_snoc _ _
def sumTo (n : Nat) (g : Nat → Int) : Int := ((List.range n).map g).sum
theorem sumTo_zero (g : Nat → Int) : sumTo 0 g = 0 := rfl
theorem sumTo_succ (n : Nat) (g : Nat → Int) : sumTo (n + 1) g = sumTo n g + g n := by
  unfold sumTo
  rw [List.range_succ, List.map_append]
  exact sum_snoc _ _
theorem sumTo_congr {n : Nat} {g g' : Nat → Int} (h : ∀ i, i < n → g i = g' i) : sumTo n g = sumTo n g' := by
  unfold sumTo
  congr 1
  exact List.map_congr_left fun i hi => h i (List.mem_range.mp hi)
theorem cast_sum : ∀ (l : List Nat), ((l.sum : Nat) : Int) = (l.map fun (n : Nat) => (n : Int)).sum
  | [] => rfl
  | a :: r => by
    rw [List.sum_cons, List.map_cons, List.sum_cons, ← cast_sum r]
    omega
theorem flat_sum {α β : Type} (k : α → List β) (g : β → Int) : ∀ l : List α, ((l.flatMap k).map g).sum = (l.map fun a => ((k a).map g).sum).sum
  | [] => rfl
  | a :: r => by
    rw [List.flatMap_cons, List.map_append, List.sum_append, List.map_cons, List.sum_cons, flat_sum k g r]
theorem sq (a : Int) : a ^ 2 = a * a := by
  rw [Int.pow_succ, Int.pow_succ, Int.pow_zero, Int.one_mul]
theorem filt_len {α : Type} (p : α → Bool) : ∀ l : List α, (((l.filter p).length : Nat) : Int) = (l.map fun a => if p a = true then (1 : Int) else 0).sum
  | [] => rfl
  | a :: r => by
    have ih := filt_len p r
    rw [List.filter_cons, List.map_cons, List.sum_cons, ← ih]
    by_cases h : p a = true
    · rw [if_pos h, if_pos h, List.length_cons]
      omega
    · rw [if_neg h, if_neg h]
      omega
/-! ### a place's points -/
def steps : List Int := [8, 24, 40, 56]
def gaps (k z : Int) : List Int := steps.map fun s => (64 * k + s - z) ^ 2
def cnt1 (across : List Int) (dy most : Int) : Int := (across.map fun dx => if dx + dy ≤ most then (1 : Int) else 0).sum
def cnt2 (across down : List Int) (most : Int) : Int := (down.map fun dy => cnt1 across dy most).sum
theorem part_is (x y r : Int) (c q : Nat) : ((Sh67.part x y r c q : Nat) : Int) = cnt2 (gaps c x) (gaps q y) (r * r) := by
  unfold Sh67.part Sh67.points
  rw [filt_len, flat_sum]
  have e : ∀ b a : Nat, (if decide ((((64 * c + a : Nat) : Int) - x) * (((64 * c + a : Nat) : Int) - x) + (((64 * q + b : Nat) : Int) - y) * (((64 * q + b : Nat) : Int) - y) ≤ r * r) = true then (1 : Int) else 0) =
      (if (64 * (c : Int) + (a : Int) - x) ^ 2 + (64 * (q : Int) + (b : Int) - y) ^ 2 ≤ r * r then (1 : Int) else 0) := fun b a => by
    rw [sq, sq, Int.natCast_add, Int.natCast_mul, Int.natCast_add, Int.natCast_mul]
    simp only [decide_eq_true_eq]
    rfl
  simp only [List.map_map]
  unfold cnt2 gaps steps
  simp only [List.map_cons, List.map_nil, List.map_map, cnt1, Function.comp_def, e]
  rfl
theorem cnt1_le (dy most : Int) : ∀ l : List Int, 0 ≤ cnt1 l dy most ∧ cnt1 l dy most ≤ l.length
  | [] => ⟨Int.le_refl _, Int.le_refl _⟩
  | a :: r => by
    have ih := cnt1_le dy most r
    unfold cnt1 at ih ⊢
    rw [List.map_cons, List.sum_cons, List.length_cons]
    split <;> omega
theorem cnt2_le (across : List Int) (most : Int) (ha : across.length = 4) : ∀ l : List Int, 0 ≤ cnt2 across l most ∧ cnt2 across l most ≤ 4 * l.length
  | [] => ⟨Int.le_refl _, Int.le_refl _⟩
  | a :: r => by
    have ih := cnt2_le across most ha r
    have h1 := cnt1_le a most across
    unfold cnt2 at ih ⊢
    rw [List.map_cons, List.sum_cons, List.length_cons]
    omega
theorem gaps_len (k z : Int) : (gaps k z).length = 4 := rfl
/-! ### an aperture -/
def apN (w h : Nat) (f : List Int) (x y r : Int) : Int := sumTo h fun q => sumTo w fun c => f.getD (q * w + c) 0 * cnt2 (gaps c x) (gaps q y) (r * r)
def apP (w h : Nat) (x y r : Int) : Int := sumTo h fun q => sumTo w fun c => cnt2 (gaps c x) (gaps q y) (r * r)
theorem each_sum {α : Type} (w h : Nat) (k : Nat → Nat → α) (g : α → Int) : ((Sh67.each w h k).map g).sum = sumTo h fun q => sumTo w fun c => g (k c q) := by
  unfold Sh67.each sumTo
  rw [flat_sum]
  simp only [List.map_map, Function.comp_def]
theorem nats_getD (f : List Int) (i : Nat) (hf : ∀ z ∈ f, 0 ≤ z) : (((Sh67Neutral.nats f).toArray.getD i 0 : Nat) : Int) = f.getD i 0 := by
  unfold Sh67Neutral.nats
  rw [Array.getD_eq_getD_getElem?, List.getElem?_toArray, List.getElem?_map, List.getD_eq_getElem?_getD]
  cases e : f[i]? with
  | none => rfl
  | some z =>
    have := hf z (List.mem_of_getElem? e)
    show ((z.toNat : Nat) : Int) = z
    omega
theorem ap1_is (w h : Nat) (f : List Int) (x y r : Int) (hf : ∀ z ∈ f, 0 ≤ z) : (((Sh67.aperture w h (Sh67Neutral.nats f) x y r).1 : Nat) : Int) = apN w h f x y r := by
  show (((List.map (fun (p : Nat × Nat) => p.1 * p.2) (Sh67.each w h fun c q => (Sh67.part x y r c q, (Sh67Neutral.nats f).toArray.getD (q * w + c) 0))).sum : Nat) : Int) = _
  rw [cast_sum, List.map_map, each_sum]
  unfold apN
  refine sumTo_congr fun q _ => sumTo_congr fun c _ => ?_
  show ((Sh67.part x y r c q * (Sh67Neutral.nats f).toArray.getD (q * w + c) 0 : Nat) : Int) = _
  rw [Int.natCast_mul, part_is, nats_getD f _ hf, Int.mul_comm]
theorem ap2_is (w h : Nat) (f : List Int) (x y r : Int) : (((Sh67.aperture w h (Sh67Neutral.nats f) x y r).2 : Nat) : Int) = apP w h x y r := by
  show (((List.map (fun (p : Nat × Nat) => p.1) (Sh67.each w h fun c q => (Sh67.part x y r c q, (Sh67Neutral.nats f).toArray.getD (q * w + c) 0))).sum : Nat) : Int) = _
  rw [cast_sum, List.map_map, each_sum]
  unfold apP
  refine sumTo_congr fun q _ => sumTo_congr fun c _ => ?_
  exact part_is x y r c q
/-! ### places -/
def placeX (xy : List Int) (j : Nat) : Int := xy.getD (2 * j) 0
def placeY (xy : List Int) (j : Nat) : Int := xy.getD (2 * j + 1) 0
theorem num_nats (xy : List Int) (i : Nat) (h : ∀ z ∈ xy, 0 ≤ z) : ((Sh67.num (Sh67Neutral.nats xy) i : Nat) : Int) = xy.getD i 0 := by
  unfold Sh67.num Sh67Neutral.nats
  rw [List.getD_eq_getElem?_getD, List.getElem?_map, List.getD_eq_getElem?_getD]
  cases e : xy[i]? with
  | none => rfl
  | some z =>
    have := h z (List.mem_of_getElem? e)
    show ((z.toNat : Nat) : Int) = z
    omega
theorem pairs_is (xy : List Int) (h : ∀ z ∈ xy, 0 ≤ z) : Sh67.pairsOf (Sh67Neutral.nats xy) = (List.range (xy.length / 2)).map fun j => (placeX xy j, placeY xy j) := by
  unfold Sh67.pairsOf
  have e : (Sh67Neutral.nats xy).length = xy.length := by
    unfold Sh67Neutral.nats
    rw [List.length_map]
  rw [e]
  refine List.map_congr_left fun j _ => ?_
  rw [num_nats xy _ h, num_nats xy _ h]
  rfl
/-- what is answered place by place, up to the n-th -/
def flatTo (n : Nat) (g : Nat → List Int) : List Int := (List.range n).flatMap g
theorem flatTo_zero (g : Nat → List Int) : flatTo 0 g = [] := rfl
theorem flatTo_succ (n : Nat) (g : Nat → List Int) : flatTo (n + 1) g = flatTo n g ++ g n := by
  unfold flatTo
  rw [List.range_succ, List.flatMap_append]
  simp
theorem ints_flat {α : Type} (k : α → List Nat) : ∀ l : List α, Sh67Neutral.ints (l.flatMap k) = l.flatMap fun a => Sh67Neutral.ints (k a)
  | [] => rfl
  | a :: r => by
    have ih := ints_flat k r
    unfold Sh67Neutral.ints at ih ⊢
    rw [List.flatMap_cons, List.map_append, ih, List.flatMap_cons]
theorem flat_map {α β γ : Type} (k : β → List γ) (m : α → β) : ∀ l : List α, (l.map m).flatMap k = l.flatMap fun a => k (m a)
  | [] => rfl
  | a :: r => by
    rw [List.map_cons, List.flatMap_cons, List.flatMap_cons, flat_map k m r]
end Ap
namespace Ap
/-! ### a ring -/
def mgap (k z : Int) : Int := (64 * k + 32 - z) ^ 2
/-- the number of the place in column c of row q, if it is in the ring -/
def cell (w : Nat) (f : List Int) (x y a b : Int) (q c : Nat) : List Int :=
  if a * a < mgap c x + mgap q y ∧ mgap c x + mgap q y ≤ b * b then [f.getD (q * w + c) 0] else []
def row (w : Nat) (f : List Int) (x y a b : Int) (q : Nat) (n : Nat) : List Int := flatTo n (cell w f x y a b q)
def ringL (w h : Nat) (f : List Int) (x y a b : Int) : List Int := flatTo h fun q => row w f x y a b q w
theorem fm_flat {α β : Type} (k : α → Option β) : ∀ l : List α, l.filterMap k = l.flatMap fun a => (k a).toList
  | [] => rfl
  | a :: r => by
    rw [List.flatMap_cons, ← fm_flat k r, List.filterMap_cons]
    cases k a <;> rfl
theorem range_rows (w : Nat) {β : Type} (k : Nat → List β) : ∀ h : Nat, (List.range (w * h)).flatMap k = (List.range h).flatMap fun q => (List.range w).flatMap fun c => k (w * q + c)
  | 0 => rfl
  | h + 1 => by
    rw [Nat.mul_succ, List.range_add, List.flatMap_append, range_rows w k h, List.range_succ, List.flatMap_append, flat_map]
    simp
theorem flat_congr {α β : Type} {k m : α → List β} {l : List α} (h : ∀ a ∈ l, k a = m a) : l.flatMap k = l.flatMap m := by
  rw [List.flatMap_def, List.flatMap_def, List.map_congr_left h]
theorem ring_is (w h : Nat) (f : List Int) (x y a b : Int) (hf : ∀ z ∈ f, 0 ≤ z) : Sh67Neutral.ints (Sh67.ring w h (Sh67Neutral.nats f) x y a b) = ringL w h f x y a b := by
  unfold Sh67.ring
  rw [fm_flat, ints_flat, range_rows]
  unfold ringL row flatTo
  refine flat_congr fun q _ => flat_congr fun c hc => ?_
  have hc : c < w := List.mem_range.mp hc
  have e1 : (w * q + c) % w = c := by rw [Nat.mul_add_mod]; exact Nat.mod_eq_of_lt hc
  have e2 : (w * q + c) / w = q := by rw [Nat.mul_add_div (by omega)]; rw [Nat.div_eq_of_lt hc]; rfl
  have e3 : w * q + c = q * w + c := by rw [Nat.mul_comm]
  simp only [e1, e2]
  unfold cell mgap
  rw [sq, sq]
  have g := nats_getD f (w * q + c) hf
  rw [e3] at g ⊢
  have ex : ((64 * c + 32 : Nat) : Int) = 64 * (c : Int) + 32 := by omega
  have ey : ((64 * q + 32 : Nat) : Int) = 64 * (q : Int) + 32 := by omega
  rw [ex, ey]
  by_cases hh : a * a < (64 * (c : Int) + 32 - x) * (64 * (c : Int) + 32 - x) + (64 * (q : Int) + 32 - y) * (64 * (q : Int) + 32 - y) ∧ (64 * (c : Int) + 32 - x) * (64 * (c : Int) + 32 - x) + (64 * (q : Int) + 32 - y) * (64 * (q : Int) + 32 - y) ≤ b * b
  · rw [if_pos hh, if_pos hh]
    show [(((Sh67Neutral.nats f).toArray.getD (q * w + c) 0 : Nat) : Int)] = _
    rw [g]
  · rw [if_neg hh, if_neg hh]
    rfl
theorem ring_len (w h : Nat) (f : List Int) (x y a b : Int) (hf : ∀ z ∈ f, 0 ≤ z) : (((Sh67.ring w h (Sh67Neutral.nats f) x y a b).length : Nat) : Int) = ((ringL w h f x y a b).length : Nat) := by
  rw [← ring_is w h f x y a b hf]
  unfold Sh67Neutral.ints
  rw [List.length_map]
/-! ### the middle one -/
def midOne (l s : List Int) : Int := if l = [] then 0 else s.getD ((l.length - 1) / 2) 0
theorem median_is (l : List Nat) (s : List Int) (hp : s.Perm (Sh67Neutral.ints l)) (hs : s.Pairwise (· ≤ ·)) : ((Sh67.median l : Nat) : Int) = s.getD (((Sh67Neutral.ints l).length - 1) / 2) 0 := by
  have h1 : (Sh67Neutral.ints (l.mergeSort fun a b => decide (a ≤ b))).Perm (Sh67Neutral.ints l) := by
    unfold Sh67Neutral.ints
    exact (List.mergeSort_perm l _).map _
  have h2 : (l.mergeSort fun a b => decide (a ≤ b)).Pairwise (fun a b => decide (a ≤ b) = true) :=
    List.pairwise_mergeSort (fun a b c x y => by simp at x y ⊢; omega) (fun a b => by simp; omega) l
  have h3 : (Sh67Neutral.ints (l.mergeSort fun a b => decide (a ≤ b))).Pairwise (· ≤ ·) := by
    unfold Sh67Neutral.ints
    rw [List.pairwise_map]
    refine h2.imp fun {a b} e => ?_
    have e := of_decide_eq_true e
    omega
  have e : s = Sh67Neutral.ints (l.mergeSort fun a b => decide (a ≤ b)) := List.Perm.eq_of_pairwise (fun a b _ _ x y => Int.le_antisymm x y) hs h3 (hp.trans h1.symm)
  rw [e]
  unfold Sh67.median Sh67.num Sh67Neutral.ints
  rw [List.length_map, List.getD_eq_getElem?_getD, List.getD_eq_getElem?_getD, List.getElem?_map]
  cases (l.mergeSort fun a b => decide (a ≤ b))[(l.length - 1) / 2]? <;> rfl
/-- the middle one of whole numbers, told by the specification's own -/
def med (l : List Int) : Int := ((Sh67.median (Sh67Neutral.nats l) : Nat) : Int)
theorem ints_nats (l : List Int) (h : ∀ z ∈ l, 0 ≤ z) : Sh67Neutral.ints (Sh67Neutral.nats l) = l := by
  unfold Sh67Neutral.ints Sh67Neutral.nats
  rw [List.map_map]
  refine (List.map_congr_left fun z hz => ?_).trans (List.map_id l)
  have := h z hz
  show ((z.toNat : Nat) : Int) = z
  omega
theorem nats_ints (l : List Nat) : Sh67Neutral.nats (Sh67Neutral.ints l) = l := by
  unfold Sh67Neutral.ints Sh67Neutral.nats
  rw [List.map_map]
  exact (List.map_congr_left fun z _ => rfl).trans (List.map_id l)
theorem med_sorted {l s : List Int} (h : ∀ z ∈ l, 0 ≤ z) (hp : s.Perm l) (hs : s.Pairwise (· ≤ ·)) : s.getD ((l.length - 1) / 2) 0 = med l := by
  unfold med
  have e := ints_nats l h
  rw [median_is (Sh67Neutral.nats l) s (by rw [e]; exact hp) hs, e]
theorem med_nil : med [] = 0 := by
  have e := med_sorted (l := []) (s := []) (fun z hz => by cases hz) (List.Perm.refl _) List.Pairwise.nil
  exact e.symm
theorem med_ring (w h : Nat) (f : List Int) (x y a b : Int) (hf : ∀ z ∈ f, 0 ≤ z) : ((Sh67.median (Sh67.ring w h (Sh67Neutral.nats f) x y a b) : Nat) : Int) = med (ringL w h f x y a b) := by
  unfold med
  rw [← ring_is w h f x y a b hf, nats_ints]
theorem getD_nonneg {f : List Int} (hf : ∀ z ∈ f, 0 ≤ z) (i : Nat) : 0 ≤ f.getD i 0 := by
  rw [List.getD_eq_getElem?_getD]
  cases e : f[i]? with
  | none => exact Int.le_refl _
  | some z => exact hf z (List.mem_of_getElem? e)
theorem ring_nonneg (w h : Nat) (f : List Int) (x y a b : Int) (hf : ∀ z ∈ f, 0 ≤ z) : ∀ z ∈ ringL w h f x y a b, 0 ≤ z := by
  intro z hz
  unfold ringL row flatTo at hz
  rw [List.mem_flatMap] at hz
  obtain ⟨q, _, hz⟩ := hz
  rw [List.mem_flatMap] at hz
  obtain ⟨c, _, hz⟩ := hz
  unfold cell at hz
  split at hz
  · rw [List.mem_singleton] at hz
    rw [hz]
    exact getD_nonneg hf _
  · cases hz
theorem flatTo_len_le {g : Nat → List Int} {k : Nat} (h : ∀ i, (g i).length ≤ k) : ∀ n, (flatTo n g).length ≤ n * k
  | 0 => by rw [flatTo_zero]; exact Nat.zero_le _
  | n + 1 => by
    have ih := flatTo_len_le h n
    have := h n
    rw [flatTo_succ, List.length_append, Nat.add_mul, Nat.one_mul]
    omega
theorem cell_len (w : Nat) (f : List Int) (x y a b : Int) (q c : Nat) : (cell w f x y a b q c).length ≤ 1 := by
  unfold cell
  split
  · exact Nat.le_refl _
  · exact Nat.zero_le _
theorem row_len (w : Nat) (f : List Int) (x y a b : Int) (q n : Nat) : (row w f x y a b q n).length ≤ n := by
  have := flatTo_len_le (cell_len w f x y a b q) n
  rw [Nat.mul_one] at this
  exact this
theorem rows_len (w : Nat) (f : List Int) (x y a b : Int) (n : Nat) : (flatTo n fun q => row w f x y a b q w).length ≤ n * w := flatTo_len_le (fun q => row_len w f x y a b q w) n
end Ap
namespace Ap
open Sh67Neutral
/-! ### what is asked, and what is due -/
theorem nats_len (l : List Int) : (nats l).length = l.length := by
  unfold nats
  rw [List.length_map]
theorem even_of {c : Prop} [Decidable c] {l0 l1 : List Int} {n : Nat} (h : (if c then l0.length == n && l1.length == (2 * ((nats l1).length / 2)) else (l0.isEmpty && l1.isEmpty) || (l0.length == n && l1.length == (2 * ((nats l1).length / 2)))) = true) :
    l1.length = 2 * (l1.length / 2) ∧ (c → l0.length = n) := by
  rw [nats_len] at h
  by_cases hc : c
  · rw [if_pos hc, Bool.and_eq_true, beq_iff_eq, beq_iff_eq] at h
    exact ⟨h.2, fun _ => h.1⟩
  · rw [if_neg hc, Bool.or_eq_true, Bool.and_eq_true, Bool.and_eq_true, beq_iff_eq, beq_iff_eq] at h
    refine ⟨?_, fun e => absurd e hc⟩
    rcases h with h | h
    · have := List.isEmpty_iff.mp h.2
      rw [this]
      rfl
    · exact h.2
theorem sized_iff (w h : Nat) : Sh67.sized w h = true ↔ (1 ≤ w ∧ w ≤ 64) ∧ (1 ≤ h ∧ h ≤ 64) := by
  unfold Sh67.sized Sh67.among
  simp
theorem some_iff (n : Nat) : Sh67.some_ n = true ↔ n ≤ 64 := by
  unfold Sh67.some_
  simp
theorem asked_of {c : Call} (h : asked c = true) : asked1 c = true := by
  unfold asked at h
  rw [Bool.and_eq_true] at h
  exact h.1
/-- the frame and the places are in their ranges -/
def FrameOk (w h : Int) (xy : List Int) : Prop := 1 ≤ w ∧ w ≤ 64 ∧ 1 ≤ h ∧ h ≤ 64 ∧ xy.length ≤ 128
/-! ### ap_aperture -/
theorem aperture_asked {r w h : Int} {f xy : List Int} (q : PySh67.ap_aperture_asked r w h f xy = true) (hr : 0 ≤ r) :
    xy.length = 2 * (xy.length / 2) ∧ (r ≤ 4096 → FrameOk w h xy → f.length = w.toNat * h.toNat) := by
  have q := asked_of q
  unfold asked1 at q
  simp only [Bool.and_eq_true] at q
  have e := even_of q.2.2.2.2.2
  refine ⟨e.1, fun h1 h2 => e.2 ?_⟩
  obtain ⟨a1, a2, a3, a4, a5⟩ := h2
  rw [sized_iff, some_iff, decide_eq_true_eq, nats_len]
  omega
theorem aperture_eq (r w h : Int) (f xy : List Int) : PySh67.ap_aperture r w h f xy = told (Sh67.answer (if (Sh67.sized w.toNat h.toNat && Sh67.some_ ((nats xy).length / 2) && decide (r.toNat ≤ 4096)) = true then .aperture r.toNat w.toNat h.toNat (nats f) (nats xy) else .bad)) := rfl
theorem aperture_bad {r w h : Int} {f xy : List Int} (q : PySh67.ap_aperture_asked r w h f xy = true) (hr : 0 ≤ r) (b : ¬ (r ≤ 4096 ∧ FrameOk w h xy)) : PySh67.ap_aperture r w h f xy = [-2] := by
  have e := (aperture_asked q hr).1
  rw [aperture_eq, if_neg]
  · rfl
  · rw [Bool.and_eq_true, Bool.and_eq_true, sized_iff, some_iff, decide_eq_true_eq, nats_len]
    intro z
    refine b ⟨by omega, by omega, by omega, by omega, by omega, by omega⟩
def apAt (w h : Int) (f : List Int) (r : Int) (xy : List Int) (j : Nat) : List Int := [apN w.toNat h.toNat f (placeX xy j) (placeY xy j) r, apP w.toNat h.toNat (placeX xy j) (placeY xy j) r]
theorem aperture_good {r w h : Int} {f xy : List Int} (hr : 0 ≤ r) (hf : ∀ z ∈ f, 0 ≤ z) (hx : ∀ z ∈ xy, 0 ≤ z) (g : r ≤ 4096 ∧ FrameOk w h xy) :
    PySh67.ap_aperture r w h f xy = 0 :: flatTo (xy.length / 2) (apAt w h f r xy) := by
  obtain ⟨h1, a1, a2, a3, a4, a5⟩ := g
  rw [aperture_eq, if_pos]
  · show (0 : Int) :: Sh67Neutral.ints ((Sh67.pairsOf (nats xy)).flatMap fun p => [(Sh67.aperture w.toNat h.toNat (nats f) p.1 p.2 (r.toNat : Nat)).1, (Sh67.aperture w.toNat h.toNat (nats f) p.1 p.2 (r.toNat : Nat)).2]) = _
    have er : ((r.toNat : Nat) : Int) = r := by omega
    rw [er, ints_flat, pairs_is xy hx, flat_map]
    unfold flatTo
    refine congrArg _ (flat_congr fun j _ => ?_)
    show [_, _] = apAt w h f r xy j
    unfold apAt
    dsimp only
    rw [ap1_is _ _ f _ _ _ hf, ap2_is]
  · rw [Bool.and_eq_true, Bool.and_eq_true, sized_iff, some_iff, decide_eq_true_eq, nats_len]
    omega
/-! ### ap_ring -/
theorem ring_asked {a b w h : Int} {f xy : List Int} (q : PySh67.ap_ring_asked a b w h f xy = true) (ha : 0 ≤ a) (hb : 0 ≤ b) :
    xy.length = 2 * (xy.length / 2) ∧ (a ≤ 4096 → b ≤ 4096 → FrameOk w h xy → f.length = w.toNat * h.toNat) := by
  have q := asked_of q
  unfold asked1 at q
  simp only [Bool.and_eq_true] at q
  have e := even_of q.2.2.2.2.2.2
  refine ⟨e.1, fun h1 h1' h2 => e.2 ?_⟩
  obtain ⟨a1, a2, a3, a4, a5⟩ := h2
  rw [sized_iff, some_iff, decide_eq_true_eq, decide_eq_true_eq, nats_len]
  omega
theorem ring_eq (a b w h : Int) (f xy : List Int) : PySh67.ap_ring a b w h f xy = told (Sh67.answer (if (Sh67.sized w.toNat h.toNat && Sh67.some_ ((nats xy).length / 2) && (decide (a.toNat ≤ 4096) && decide (b.toNat ≤ 4096))) = true then .ring a.toNat b.toNat w.toNat h.toNat (nats f) (nats xy) else .bad)) := rfl
theorem ring_bad {a b w h : Int} {f xy : List Int} (q : PySh67.ap_ring_asked a b w h f xy = true) (ha : 0 ≤ a) (hb : 0 ≤ b) (n : ¬ (a ≤ 4096 ∧ b ≤ 4096 ∧ FrameOk w h xy)) : PySh67.ap_ring a b w h f xy = [-2] := by
  have e := (ring_asked q ha hb).1
  rw [ring_eq, if_neg]
  · rfl
  · rw [Bool.and_eq_true, Bool.and_eq_true, Bool.and_eq_true, sized_iff, some_iff, decide_eq_true_eq, decide_eq_true_eq, nats_len]
    intro z
    refine n ⟨by omega, by omega, by omega, by omega, by omega, by omega, by omega⟩
def ringAt (w h : Int) (f : List Int) (a b : Int) (xy : List Int) (j : Nat) : List Int :=
  [((ringL w.toNat h.toNat f (placeX xy j) (placeY xy j) a b).length : Nat), med (ringL w.toNat h.toNat f (placeX xy j) (placeY xy j) a b)]
theorem ring_good {a b w h : Int} {f xy : List Int} (ha : 0 ≤ a) (hb : 0 ≤ b) (hf : ∀ z ∈ f, 0 ≤ z) (hx : ∀ z ∈ xy, 0 ≤ z) (g : a ≤ 4096 ∧ b ≤ 4096 ∧ FrameOk w h xy) :
    PySh67.ap_ring a b w h f xy = 0 :: flatTo (xy.length / 2) (ringAt w h f a b xy) := by
  obtain ⟨h1, h2, a1, a2, a3, a4, a5⟩ := g
  rw [ring_eq, if_pos]
  · show (0 : Int) :: Sh67Neutral.ints ((Sh67.pairsOf (nats xy)).flatMap fun p => [(Sh67.ring w.toNat h.toNat (nats f) p.1 p.2 (a.toNat : Nat) (b.toNat : Nat)).length, Sh67.median (Sh67.ring w.toNat h.toNat (nats f) p.1 p.2 (a.toNat : Nat) (b.toNat : Nat))]) = _
    have ea : ((a.toNat : Nat) : Int) = a := by omega
    have eb : ((b.toNat : Nat) : Int) = b := by omega
    rw [ea, eb, ints_flat, pairs_is xy hx, flat_map]
    unfold flatTo
    refine congrArg _ (flat_congr fun j _ => ?_)
    show [_, _] = ringAt w h f a b xy j
    unfold ringAt
    dsimp only
    rw [ring_len _ _ f _ _ _ _ hf, med_ring _ _ f _ _ _ _ hf]
  · rw [Bool.and_eq_true, Bool.and_eq_true, Bool.and_eq_true, sized_iff, some_iff, decide_eq_true_eq, decide_eq_true_eq, nats_len]
    omega
end Ap
namespace Ap
open Sh67Neutral
/-! ### ap_own -/
theorem own_asked {r a b w h : Int} {f xy : List Int} (q : PySh67.ap_own_asked r a b w h f xy = true) (hr : 0 ≤ r) (ha : 0 ≤ a) (hb : 0 ≤ b) :
    xy.length = 2 * (xy.length / 2) ∧ (r ≤ 4096 → a ≤ 4096 → b ≤ 4096 → FrameOk w h xy → f.length = w.toNat * h.toNat) := by
  have q := asked_of q
  unfold asked1 at q
  simp only [Bool.and_eq_true] at q
  have e := even_of q.2.2.2.2.2.2.2
  refine ⟨e.1, fun h1 h2 h3 h4 => e.2 ?_⟩
  obtain ⟨a1, a2, a3, a4, a5⟩ := h4
  rw [sized_iff, some_iff, decide_eq_true_eq, decide_eq_true_eq, decide_eq_true_eq, nats_len]
  omega
theorem own_eq (r a b w h : Int) (f xy : List Int) : PySh67.ap_own r a b w h f xy = told (Sh67.answer (if (Sh67.sized w.toNat h.toNat && Sh67.some_ ((nats xy).length / 2) && (decide (r.toNat ≤ 4096) && (decide (a.toNat ≤ 4096) && decide (b.toNat ≤ 4096)))) = true then .own r.toNat a.toNat b.toNat w.toNat h.toNat (nats f) (nats xy) else .bad)) := rfl
theorem own_bad {r a b w h : Int} {f xy : List Int} (q : PySh67.ap_own_asked r a b w h f xy = true) (hr : 0 ≤ r) (ha : 0 ≤ a) (hb : 0 ≤ b) (n : ¬ (r ≤ 4096 ∧ a ≤ 4096 ∧ b ≤ 4096 ∧ FrameOk w h xy)) : PySh67.ap_own r a b w h f xy = [-2] := by
  have e := (own_asked q hr ha hb).1
  rw [own_eq, if_neg]
  · rfl
  · simp only [Bool.and_eq_true]
    rw [sized_iff, some_iff, decide_eq_true_eq, decide_eq_true_eq, decide_eq_true_eq, nats_len]
    intro z
    exact n ⟨by omega, by omega, by omega, by omega, by omega, by omega, by omega, by omega⟩
def ownAt (w h : Int) (f : List Int) (r a b : Int) (xy : List Int) (j : Nat) : Int :=
  (apN w.toNat h.toNat f (placeX xy j) (placeY xy j) r - med (ringL w.toNat h.toNat f (placeX xy j) (placeY xy j) a b) * apP w.toNat h.toNat (placeX xy j) (placeY xy j) r) % 18446744073709551616
theorem ints_map {α : Type} (k : α → Nat) : ∀ l : List α, Sh67Neutral.ints (l.map k) = l.map fun a => ((k a : Nat) : Int) := fun l => by
  unfold Sh67Neutral.ints
  rw [List.map_map]
  rfl
/-- one number a place -/
def mapTo (n : Nat) (g : Nat → Int) : List Int := (List.range n).map g
theorem mapTo_zero (g : Nat → Int) : mapTo 0 g = [] := rfl
theorem mapTo_succ (n : Nat) (g : Nat → Int) : mapTo (n + 1) g = mapTo n g ++ [g n] := by
  unfold mapTo
  rw [List.range_succ, List.map_append]
  rfl
theorem mapTo_len (n : Nat) (g : Nat → Int) : (mapTo n g).length = n := by
  unfold mapTo
  rw [List.length_map, List.length_range]
theorem own_good {r a b w h : Int} {f xy : List Int} (hr : 0 ≤ r) (ha : 0 ≤ a) (hb : 0 ≤ b) (hf : ∀ z ∈ f, 0 ≤ z) (hx : ∀ z ∈ xy, 0 ≤ z) (g : r ≤ 4096 ∧ a ≤ 4096 ∧ b ≤ 4096 ∧ FrameOk w h xy) :
    PySh67.ap_own r a b w h f xy = 0 :: mapTo (xy.length / 2) (ownAt w h f r a b xy) := by
  obtain ⟨h0, h1, h2, a1, a2, a3, a4, a5⟩ := g
  rw [own_eq, if_pos]
  · show (0 : Int) :: Sh67Neutral.ints ((Sh67.pairsOf (nats xy)).map fun p => Sh67.longOf (Sh67.own w.toNat h.toNat (nats f) p.1 p.2 (r.toNat : Nat) (a.toNat : Nat) (b.toNat : Nat))) = _
    have er : ((r.toNat : Nat) : Int) = r := by omega
    have ea : ((a.toNat : Nat) : Int) = a := by omega
    have eb : ((b.toNat : Nat) : Int) = b := by omega
    rw [er, ea, eb, ints_map, pairs_is xy hx, List.map_map]
    unfold mapTo
    refine congrArg _ (List.map_congr_left fun j _ => ?_)
    show ((Sh67.longOf (Sh67.own w.toNat h.toNat (nats f) (placeX xy j) (placeY xy j) r a b) : Nat) : Int) = ownAt w h f r a b xy j
    unfold Sh67.longOf Sh67.own ownAt
    dsimp only
    rw [ap1_is _ _ f _ _ _ hf, ap2_is, med_ring _ _ f _ _ _ _ hf, Int.mul_comm (apP _ _ _ _ _)]
    exact Int.toNat_of_nonneg (Int.emod_nonneg _ (by decide))
  · simp only [Bool.and_eq_true]
    rw [sized_iff, some_iff, decide_eq_true_eq, decide_eq_true_eq, decide_eq_true_eq, nats_len]
    omega
/-! ### sums over all places, told by the place's number -/
theorem map_flat {α β : Type} (g : α → β) (l : List α) : l.map g = l.flatMap fun a => [g a] := by
  induction l with
  | nil => rfl
  | cons a r ih => rw [List.map_cons, List.flatMap_cons, ih]; rfl
theorem sum_rows (w : Nat) (g : Nat → Int) (h : Nat) : ((List.range (w * h)).map g).sum = sumTo h fun q => sumTo w fun c => g (w * q + c) := by
  rw [map_flat, range_rows]
  unfold sumTo
  have e := flat_sum (fun q => (List.range w).flatMap fun c => [g (w * q + c)]) (fun z : Int => z) (List.range h)
  rw [List.map_id'] at e
  rw [e]
  refine congrArg _ (List.map_congr_left fun q _ => ?_)
  rw [List.map_id', ← map_flat]
/-! ### weights -/
def wgt (level : Int) (w : Nat) (f : List Int) (x y r : Int) (q c : Nat) : Int :=
  if mgap c x + mgap q y ≤ r * r then (if level < f.getD (q * w + c) 0 then f.getD (q * w + c) 0 - level else 0) else 0
theorem wgt_nonneg (level : Int) (w : Nat) (f : List Int) (x y r : Int) (q c : Nat) : 0 ≤ wgt level w f x y r q c := by
  unfold wgt
  split
  · split <;> omega
  · exact Int.le_refl _
theorem at_rows {w : Nat} (q : Nat) {c : Nat} (hc : c < w) : (w * q + c) % w = c ∧ (w * q + c) / w = q ∧ w * q + c = q * w + c :=
  ⟨by rw [Nat.mul_add_mod]; exact Nat.mod_eq_of_lt hc, by rw [Nat.mul_add_div (by omega), Nat.div_eq_of_lt hc]; rfl, by rw [Nat.mul_comm]⟩
theorem weight_is (level : Nat) (w : Nat) (f : List Int) (x y r : Int) (q c : Nat) (hc : c < w) (hf : ∀ z ∈ f, 0 ≤ z) : ((Sh67.weightA (nats f).toArray level w x y r (w * q + c) : Nat) : Int) = wgt level w f x y r q c := by
  obtain ⟨e1, e2, e3⟩ := at_rows q hc
  unfold Sh67.weightA wgt mgap
  dsimp only
  rw [e1, e2, sq, sq]
  have g := nats_getD f (w * q + c) hf
  rw [e3] at g ⊢
  have ex : ((64 * c + 32 : Nat) : Int) = 64 * (c : Int) + 32 := by omega
  have ey : ((64 * q + 32 : Nat) : Int) = 64 * (q : Int) + 32 := by omega
  rw [ex, ey]
  by_cases hh : (64 * (c : Int) + 32 - x) * (64 * (c : Int) + 32 - x) + (64 * (q : Int) + 32 - y) * (64 * (q : Int) + 32 - y) ≤ r * r
  · rw [if_pos hh, if_pos hh, ← g]
    split <;> omega
  · rw [if_neg hh, if_neg hh]
    rfl
def wS (level : Int) (w h : Nat) (f : List Int) (x y r : Int) : Int := sumTo h fun q => sumTo w fun c => wgt level w f x y r q c
def wX (level : Int) (w h : Nat) (f : List Int) (x y r : Int) : Int := sumTo h fun q => sumTo w fun c => wgt level w f x y r q c * (64 * (c : Int) + 32)
def wY (level : Int) (w h : Nat) (f : List Int) (x y r : Int) : Int := sumTo h fun q => sumTo w fun c => wgt level w f x y r q c * (64 * (q : Int) + 32)
/-- the middle by weights, told by sums -/
def once (level : Int) (w h : Nat) (f : List Int) (x y r : Int) : Option (Int × Int) :=
  if wS level w h f x y r = 0 then none else some (Sh67.near (wX level w h f x y r) (wS level w h f x y r), Sh67.near (wY level w h f x y r) (wS level w h f x y r))
theorem once_is (level : Nat) (w h : Nat) (f : List Int) (x y r : Int) (hf : ∀ z ∈ f, 0 ≤ z) : Sh67.middleOnce w h (nats f) level x y r = once level w h f x y r := by
  have es : (((((List.range (w * h)).map fun i => (Sh67.weightA (nats f).toArray level w x y r i, i)).map fun p => p.1).sum : Nat) : Int) = wS level w h f x y r := by
    rw [cast_sum, List.map_map, List.map_map, sum_rows]
    unfold wS
    exact sumTo_congr fun q _ => sumTo_congr fun c hc => weight_is level w f x y r q c hc hf
  have ex : (((((List.range (w * h)).map fun i => (Sh67.weightA (nats f).toArray level w x y r i, i)).map fun p => p.1 * (64 * (p.2 % w) + 32)).sum : Nat) : Int) = wX level w h f x y r := by
    rw [cast_sum, List.map_map, List.map_map, sum_rows]
    unfold wX
    refine sumTo_congr fun q _ => sumTo_congr fun c hc => ?_
    show ((Sh67.weightA (nats f).toArray level w x y r (w * q + c) * (64 * ((w * q + c) % w) + 32) : Nat) : Int) = _
    rw [Int.natCast_mul, weight_is level w f x y r q c hc hf, (at_rows q hc).1]
    rfl
  have ey : (((((List.range (w * h)).map fun i => (Sh67.weightA (nats f).toArray level w x y r i, i)).map fun p => p.1 * (64 * (p.2 / w) + 32)).sum : Nat) : Int) = wY level w h f x y r := by
    rw [cast_sum, List.map_map, List.map_map, sum_rows]
    unfold wY
    refine sumTo_congr fun q _ => sumTo_congr fun c hc => ?_
    show ((Sh67.weightA (nats f).toArray level w x y r (w * q + c) * (64 * ((w * q + c) / w) + 32) : Nat) : Int) = _
    rw [Int.natCast_mul, weight_is level w f x y r q c hc hf, (at_rows q hc).2.1]
    rfl
  unfold Sh67.middleOnce once
  dsimp only
  rw [ex, ey, es]
  by_cases h0 : wS level w h f x y r = 0
  · rw [if_pos h0, if_pos (by omega)]
  · rw [if_neg h0, if_neg (by omega)]
/-- again and again -/
def again (level : Int) (w h : Nat) (f : List Int) (r : Int) : Nat → Int → Int → Option (Int × Int)
  | 0, x, y => some (x, y)
  | n + 1, x, y => match once level w h f x y r with
    | none => none
    | some p => if p = (x, y) then some p else again level w h f r n p.1 p.2
theorem again_is (level : Nat) (w h : Nat) (f : List Int) (r : Int) (hf : ∀ z ∈ f, 0 ≤ z) : ∀ (n : Nat) (x y : Int), Sh67.middle w h (nats f) level r n x y = again level w h f r n x y
  | 0, _, _ => rfl
  | n + 1, x, y => by
    unfold Sh67.middle again
    rw [once_is level w h f x y r hf]
    cases once level w h f x y r with
    | none => rfl
    | some p =>
      dsimp only
      rw [again_is level w h f r hf n]
/-! ### ap_middle -/
theorem middle_asked {l r m w h : Int} {f xy : List Int} (q : PySh67.ap_middle_asked l r m w h f xy = true) (hl : 0 ≤ l) (hr : 0 ≤ r) (hm : 0 ≤ m) :
    xy.length = 2 * (xy.length / 2) ∧ (l ≤ 65535 → r ≤ 4096 → m ≤ 32 → FrameOk w h xy → f.length = w.toNat * h.toNat) := by
  have q := asked_of q
  unfold asked1 at q
  simp only [Bool.and_eq_true] at q
  have e := even_of q.2.2.2.2.2.2.2
  refine ⟨e.1, fun h1 h2 h3 h4 => e.2 ?_⟩
  obtain ⟨a1, a2, a3, a4, a5⟩ := h4
  rw [sized_iff, some_iff, decide_eq_true_eq, decide_eq_true_eq, decide_eq_true_eq, nats_len]
  omega
theorem middle_eq (l r m w h : Int) (f xy : List Int) : PySh67.ap_middle l r m w h f xy = told (Sh67.answer (if (Sh67.sized w.toNat h.toNat && Sh67.some_ ((nats xy).length / 2) && (decide (l.toNat ≤ 65535) && (decide (r.toNat ≤ 4096) && decide (m.toNat ≤ 32)))) = true then .middle l.toNat r.toNat m.toNat w.toNat h.toNat (nats f) (nats xy) else .bad)) := rfl
theorem middle_bad {l r m w h : Int} {f xy : List Int} (q : PySh67.ap_middle_asked l r m w h f xy = true) (hl : 0 ≤ l) (hr : 0 ≤ r) (hm : 0 ≤ m) (n : ¬ (l ≤ 65535 ∧ r ≤ 4096 ∧ m ≤ 32 ∧ FrameOk w h xy)) : PySh67.ap_middle l r m w h f xy = [-2] := by
  have e := (middle_asked q hl hr hm).1
  rw [middle_eq, if_neg]
  · rfl
  · simp only [Bool.and_eq_true]
    rw [sized_iff, some_iff, decide_eq_true_eq, decide_eq_true_eq, decide_eq_true_eq, nats_len]
    intro z
    exact n ⟨by omega, by omega, by omega, by omega, by omega, by omega, by omega, by omega⟩
/-- a pair of words, or none -/
def two : Option (Int × Int) → List Int
  | none => [4294967295, 4294967295]
  | some p => [p.1 % 4294967296, p.2 % 4294967296]
theorem two_is (o : Option (Int × Int)) : Sh67Neutral.ints (Sh67.pair o) = two o := by
  cases o with
  | none => rfl
  | some p =>
    show [(((p.1 % 4294967296).toNat : Nat) : Int), (((p.2 % 4294967296).toNat : Nat) : Int)] = [p.1 % 4294967296, p.2 % 4294967296]
    rw [Int.toNat_of_nonneg (Int.emod_nonneg _ (by decide)), Int.toNat_of_nonneg (Int.emod_nonneg _ (by decide))]
def midAt (l r m w h : Int) (f xy : List Int) (j : Nat) : List Int := two (again l w.toNat h.toNat f r m.toNat (placeX xy j) (placeY xy j))
theorem middle_good {l r m w h : Int} {f xy : List Int} (hl : 0 ≤ l) (hr : 0 ≤ r) (hm : 0 ≤ m) (hf : ∀ z ∈ f, 0 ≤ z) (hx : ∀ z ∈ xy, 0 ≤ z) (g : l ≤ 65535 ∧ r ≤ 4096 ∧ m ≤ 32 ∧ FrameOk w h xy) :
    PySh67.ap_middle l r m w h f xy = 0 :: flatTo (xy.length / 2) (midAt l r m w h f xy) := by
  obtain ⟨h0, h1, h2, a1, a2, a3, a4, a5⟩ := g
  rw [middle_eq, if_pos]
  · show (0 : Int) :: Sh67Neutral.ints ((Sh67.pairsOf (nats xy)).flatMap fun p => Sh67.pair (Sh67.middle w.toNat h.toNat (nats f) l.toNat (r.toNat : Nat) m.toNat p.1 p.2)) = _
    have er : ((r.toNat : Nat) : Int) = r := by omega
    have el : ((l.toNat : Nat) : Int) = l := by omega
    rw [er, ints_flat, pairs_is xy hx, flat_map]
    unfold flatTo
    refine congrArg _ (flat_congr fun j _ => ?_)
    rw [two_is, again_is _ _ _ _ _ hf, el]
    rfl
  · simp only [Bool.and_eq_true]
    rw [sized_iff, some_iff, decide_eq_true_eq, decide_eq_true_eq, decide_eq_true_eq, nats_len]
    omega
/-! ### ap_moments -/
def wXX (level : Int) (w h : Nat) (f : List Int) (x y r : Int) : Int := sumTo h fun q => sumTo w fun c => wgt level w f x y r q c * ((64 * (c : Int) + 32 - x) * (64 * (c : Int) + 32 - x))
def wYY (level : Int) (w h : Nat) (f : List Int) (x y r : Int) : Int := sumTo h fun q => sumTo w fun c => wgt level w f x y r q c * ((64 * (q : Int) + 32 - y) * (64 * (q : Int) + 32 - y))
def wXY (level : Int) (w h : Nat) (f : List Int) (x y r : Int) : Int := sumTo h fun q => sumTo w fun c => wgt level w f x y r q c * ((64 * (c : Int) + 32 - x) * (64 * (q : Int) + 32 - y))
def moms (level : Int) (w h : Nat) (f : List Int) (x y r : Int) : Option (Int × Int × Int) :=
  if wS level w h f x y r = 0 then none else some (Sh67.near (wXX level w h f x y r) (wS level w h f x y r), Sh67.near (wYY level w h f x y r) (wS level w h f x y r), Sh67.near (wXY level w h f x y r) (wS level w h f x y r))
theorem moms_is (level : Nat) (w h : Nat) (f : List Int) (x y r : Int) (hf : ∀ z ∈ f, 0 ≤ z) : Sh67.moments w h (nats f) level x y r = moms level w h f x y r := by
  have cx : ∀ c : Nat, ((64 * c + 32 : Nat) : Int) = 64 * (c : Int) + 32 := fun c => by omega
  unfold Sh67.moments moms
  dsimp only
  simp only [List.map_map, Function.comp_def]
  have es : (List.map (fun i => ((Sh67.weightA (nats f).toArray level w x y r i : Nat) : Int)) (List.range (w * h))).sum = wS level w h f x y r := by
    rw [sum_rows]
    unfold wS
    exact sumTo_congr fun q _ => sumTo_congr fun c hc => weight_is level w f x y r q c hc hf
  have e1 : (List.map (fun i => ((Sh67.weightA (nats f).toArray level w x y r i : Nat) : Int) * ((((64 * (i % w) + 32 : Nat) : Int) - x) * (((64 * (i % w) + 32 : Nat) : Int) - x))) (List.range (w * h))).sum = wXX level w h f x y r := by
    rw [sum_rows]
    unfold wXX
    refine sumTo_congr fun q _ => sumTo_congr fun c hc => ?_
    rw [weight_is level w f x y r q c hc hf, (at_rows q hc).1, cx]
  have e2 : (List.map (fun i => ((Sh67.weightA (nats f).toArray level w x y r i : Nat) : Int) * ((((64 * (i / w) + 32 : Nat) : Int) - y) * (((64 * (i / w) + 32 : Nat) : Int) - y))) (List.range (w * h))).sum = wYY level w h f x y r := by
    rw [sum_rows]
    unfold wYY
    refine sumTo_congr fun q _ => sumTo_congr fun c hc => ?_
    rw [weight_is level w f x y r q c hc hf, (at_rows q hc).2.1, cx]
  have e3 : (List.map (fun i => ((Sh67.weightA (nats f).toArray level w x y r i : Nat) : Int) * ((((64 * (i % w) + 32 : Nat) : Int) - x) * (((64 * (i / w) + 32 : Nat) : Int) - y))) (List.range (w * h))).sum = wXY level w h f x y r := by
    rw [sum_rows]
    unfold wXY
    refine sumTo_congr fun q _ => sumTo_congr fun c hc => ?_
    rw [weight_is level w f x y r q c hc hf, (at_rows q hc).1, (at_rows q hc).2.1, cx, cx]
  rw [es, e1, e2, e3]
theorem moments_asked {l r w h : Int} {f xy : List Int} (q : PySh67.ap_moments_asked l r w h f xy = true) (hl : 0 ≤ l) (hr : 0 ≤ r) :
    xy.length = 2 * (xy.length / 2) ∧ (l ≤ 65535 → r ≤ 4096 → FrameOk w h xy → f.length = w.toNat * h.toNat) := by
  have q := asked_of q
  unfold asked1 at q
  simp only [Bool.and_eq_true] at q
  have e := even_of q.2.2.2.2.2.2
  refine ⟨e.1, fun h1 h2 h4 => e.2 ?_⟩
  obtain ⟨a1, a2, a3, a4, a5⟩ := h4
  rw [sized_iff, some_iff, decide_eq_true_eq, decide_eq_true_eq, nats_len]
  omega
theorem moments_eq (l r w h : Int) (f xy : List Int) : PySh67.ap_moments l r w h f xy = told (Sh67.answer (if (Sh67.sized w.toNat h.toNat && Sh67.some_ ((nats xy).length / 2) && (decide (l.toNat ≤ 65535) && decide (r.toNat ≤ 4096))) = true then .moments l.toNat r.toNat w.toNat h.toNat (nats f) (nats xy) else .bad)) := rfl
theorem moments_bad {l r w h : Int} {f xy : List Int} (q : PySh67.ap_moments_asked l r w h f xy = true) (hl : 0 ≤ l) (hr : 0 ≤ r) (n : ¬ (l ≤ 65535 ∧ r ≤ 4096 ∧ FrameOk w h xy)) : PySh67.ap_moments l r w h f xy = [-2] := by
  have e := (moments_asked q hl hr).1
  rw [moments_eq, if_neg]
  · rfl
  · simp only [Bool.and_eq_true]
    rw [sized_iff, some_iff, decide_eq_true_eq, decide_eq_true_eq, nats_len]
    intro z
    exact n ⟨by omega, by omega, by omega, by omega, by omega, by omega, by omega⟩
def three : Option (Int × Int × Int) → List Int
  | none => [4294967295, 4294967295, 4294967295]
  | some p => [p.1 % 4294967296, p.2.1 % 4294967296, p.2.2 % 4294967296]
theorem three_is (o : Option (Int × Int × Int)) : Sh67Neutral.ints (Sh67.triple o) = three o := by
  cases o with
  | none => rfl
  | some p =>
    show [(((p.1 % 4294967296).toNat : Nat) : Int), (((p.2.1 % 4294967296).toNat : Nat) : Int), (((p.2.2 % 4294967296).toNat : Nat) : Int)] = [p.1 % 4294967296, p.2.1 % 4294967296, p.2.2 % 4294967296]
    rw [Int.toNat_of_nonneg (Int.emod_nonneg _ (by decide)), Int.toNat_of_nonneg (Int.emod_nonneg _ (by decide)), Int.toNat_of_nonneg (Int.emod_nonneg _ (by decide))]
def momAt (l r w h : Int) (f xy : List Int) (j : Nat) : List Int := three (moms l w.toNat h.toNat f (placeX xy j) (placeY xy j) r)
theorem moments_good {l r w h : Int} {f xy : List Int} (hl : 0 ≤ l) (hr : 0 ≤ r) (hf : ∀ z ∈ f, 0 ≤ z) (hx : ∀ z ∈ xy, 0 ≤ z) (g : l ≤ 65535 ∧ r ≤ 4096 ∧ FrameOk w h xy) :
    PySh67.ap_moments l r w h f xy = 0 :: flatTo (xy.length / 2) (momAt l r w h f xy) := by
  obtain ⟨h0, h1, a1, a2, a3, a4, a5⟩ := g
  rw [moments_eq, if_pos]
  · show (0 : Int) :: Sh67Neutral.ints ((Sh67.pairsOf (nats xy)).flatMap fun p => Sh67.triple (Sh67.moments w.toNat h.toNat (nats f) l.toNat p.1 p.2 (r.toNat : Nat))) = _
    have er : ((r.toNat : Nat) : Int) = r := by omega
    have el : ((l.toNat : Nat) : Int) = l := by omega
    rw [er, ints_flat, pairs_is xy hx, flat_map]
    unfold flatTo
    refine congrArg _ (flat_congr fun j _ => ?_)
    rw [three_is, moms_is _ _ _ _ _ _ _ hf, el]
    rfl
  · simp only [Bool.and_eq_true]
    rw [sized_iff, some_iff, decide_eq_true_eq, decide_eq_true_eq, nats_len]
    omega
end Ap
namespace Ap
open Sh67Neutral
/-! ### the whole root -/
theorem rootBy_is (n : Nat) : ∀ (k r : Nat), r * r ≤ n → n < (r + 2 ^ k) * (r + 2 ^ k) → Sh67.rootBy k n r * Sh67.rootBy k n r ≤ n ∧ n < (Sh67.rootBy k n r + 1) * (Sh67.rootBy k n r + 1)
  | 0, r, h1, h2 => ⟨h1, h2⟩
  | k + 1, r, h1, h2 => by
    unfold Sh67.rootBy
    by_cases h : (r + 2 ^ k) * (r + 2 ^ k) ≤ n
    · rw [if_pos h]
      refine rootBy_is n k (r + 2 ^ k) h ?_
      rw [Nat.pow_succ] at h2
      have e : r + 2 ^ k + 2 ^ k = r + 2 ^ k * 2 := by omega
      rw [e]
      exact h2
    · rw [if_neg h]
      exact rootBy_is n k r h1 (by omega)
theorem root_is {n : Nat} (h : n < 18446744073709551616) : Sh67.root n * Sh67.root n ≤ n ∧ n < (Sh67.root n + 1) * (Sh67.root n + 1) :=
  rootBy_is n 32 0 (Nat.zero_le _) (by rw [Nat.zero_add]; exact h)
theorem root_unique {n r : Nat} (h : n < 18446744073709551616) (h1 : r * r ≤ n) (h2 : n < (r + 1) * (r + 1)) : Sh67.root n = r := by
  obtain ⟨a1, a2⟩ := root_is h
  have lt_of : ∀ {x y : Nat}, x * x < y * y → x < y := fun {x y} e => by
    apply Decidable.byContradiction
    intro z
    have := Nat.mul_le_mul (show y ≤ x by omega) (show y ≤ x by omega)
    omega
  have e1 : Sh67.root n < r + 1 := lt_of (Nat.lt_of_le_of_lt a1 h2)
  have e2 : r < Sh67.root n + 1 := lt_of (Nat.lt_of_le_of_lt h1 a2)
  omega
/-- the whole root of a whole number -/
def rootZ (n : Int) : Int := (Sh67.root n.toNat : Nat)
theorem rootZ_unique {n r : Int} (hn : 0 ≤ n) (h : n < 18446744073709551616) (hr : 0 ≤ r) (h1 : r * r ≤ n) (h2 : n < (r + 1) * (r + 1)) : rootZ n = r := by
  unfold rootZ
  obtain ⟨m, rfl⟩ : ∃ m : Nat, n = (m : Int) := ⟨n.toNat, by omega⟩
  obtain ⟨s, rfl⟩ : ∃ s : Nat, r = (s : Int) := ⟨r.toNat, by omega⟩
  have e : Sh67.root m = s := root_unique (by omega) (by exact_mod_cast h1) (by exact_mod_cast h2)
  show ((Sh67.root m : Nat) : Int) = (s : Int)
  rw [e]
theorem rootZ_is {n : Int} (hn : 0 ≤ n) (h : n < 18446744073709551616) : 0 ≤ rootZ n ∧ rootZ n * rootZ n ≤ n ∧ n < (rootZ n + 1) * (rootZ n + 1) := by
  unfold rootZ
  obtain ⟨m, rfl⟩ : ∃ m : Nat, n = (m : Int) := ⟨n.toNat, by omega⟩
  obtain ⟨a1, a2⟩ := root_is (n := m) (by omega)
  refine ⟨by omega, ?_, ?_⟩
  · show ((Sh67.root m : Nat) : Int) * ((Sh67.root m : Nat) : Int) ≤ (m : Int)
    exact_mod_cast a1
  · show (m : Int) < (((Sh67.root m : Nat) : Int) + 1) * (((Sh67.root m : Nat) : Int) + 1)
    exact_mod_cast a2
/-! ### ap_root -/
theorem few_iff (n : Nat) : Sh67.few n = true ↔ n ≤ 1024 := by
  unfold Sh67.few
  simp
theorem root_eq (l : List Int) : PySh67.ap_root l = told (Sh67.answer (if Sh67.few (nats l).length = true then .root (nats l) else .bad)) := rfl
theorem root_bad {l : List Int} (n : ¬ l.length ≤ 1024) : PySh67.ap_root l = [-2] := by
  rw [root_eq, if_neg]
  · rfl
  · rw [few_iff, nats_len]
    exact n
theorem ints_mapz (k : Nat → Nat) (l : List Int) : Sh67Neutral.ints ((nats l).map k) = l.map fun z => ((k z.toNat : Nat) : Int) := by
  unfold Sh67Neutral.ints nats
  rw [List.map_map, List.map_map]
  rfl
theorem root_good {l : List Int} (n : l.length ≤ 1024) : PySh67.ap_root l = 0 :: l.map rootZ := by
  rw [root_eq, if_pos]
  · show (0 : Int) :: Sh67Neutral.ints ((nats l).map Sh67.root) = _
    rw [ints_mapz]
    rfl
  · rw [few_iff, nats_len]
    exact n
/-! ### ap_power -/
def powZ (n : Int) : Int := (Sh67.log2 n.toNat : Nat)
theorem power_eq (l : List Int) : PySh67.ap_power l = told (Sh67.answer (if Sh67.few (nats l).length = true then .power (nats l) else .bad)) := rfl
theorem power_bad {l : List Int} (n : ¬ l.length ≤ 1024) : PySh67.ap_power l = [-2] := by
  rw [power_eq, if_neg]
  · rfl
  · rw [few_iff, nats_len]
    exact n
theorem all_pos (l : List Int) (h : ∀ z ∈ l, 0 ≤ z) : (nats l).all (fun x => decide (0 < x)) = true ↔ ∀ z ∈ l, z ≠ 0 := by
  rw [List.all_eq_true]
  unfold nats
  constructor
  · intro a z hz e
    have := a z.toNat (List.mem_map_of_mem hz)
    rw [decide_eq_true_eq] at this
    omega
  · intro a x hx
    obtain ⟨z, hz, rfl⟩ := List.mem_map.mp hx
    have h1 := a z hz
    have h2 := h z hz
    rw [decide_eq_true_eq]
    omega
theorem power_none {l : List Int} (h : ∀ z ∈ l, 0 ≤ z) (n : l.length ≤ 1024) (e : ¬ ∀ z ∈ l, z ≠ 0) : PySh67.ap_power l = [-3] := by
  rw [power_eq, if_pos (by rw [few_iff, nats_len]; exact n)]
  show told (if (nats l).all (fun x => decide (0 < x)) = false then Sh67.fail (-3) else Sh67.done [(nats l).map Sh67.log2]) = _
  rw [if_pos]
  · rfl
  · cases q : (nats l).all (fun x => decide (0 < x)) with
    | false => rfl
    | true => exact absurd ((all_pos l h).mp q) e
theorem power_good {l : List Int} (h : ∀ z ∈ l, 0 ≤ z) (n : l.length ≤ 1024) (e : ∀ z ∈ l, z ≠ 0) : PySh67.ap_power l = 0 :: l.map powZ := by
  rw [power_eq, if_pos (by rw [few_iff, nats_len]; exact n)]
  show told (if (nats l).all (fun x => decide (0 < x)) = false then Sh67.fail (-3) else Sh67.done [(nats l).map Sh67.log2]) = _
  rw [if_neg (by rw [(all_pos l h).mpr e]; exact Bool.noConfusion)]
  show (0 : Int) :: Sh67Neutral.ints ((nats l).map Sh67.log2) = _
  rw [ints_mapz]
  rfl
/-- the twelve squarings, over whole numbers -/
def bitsZ : Nat → Int → Int → Int
  | 0, _, a => a
  | k + 1, m, a => if 2147483648 ≤ m * m / 1073741824 then bitsZ k (m * m / 1073741824 / 2) (2 * a + 1) else bitsZ k (m * m / 1073741824) (2 * a)
theorem bits_is : ∀ (k m a : Nat), ((Sh67.bitsBy k m a : Nat) : Int) = bitsZ k m a
  | 0, _, _ => rfl
  | k + 1, m, a => by
    unfold Sh67.bitsBy bitsZ
    dsimp only
    have e : ((m * m / 2 ^ 30 : Nat) : Int) = (m : Int) * m / 1073741824 := by
      rw [Int.natCast_ediv, Int.natCast_mul]
      rfl
    rw [← e]
    by_cases h : 2 ^ 31 ≤ m * m / 2 ^ 30
    · rw [if_pos h, if_pos (by omega), bits_is k]
      have e2 : ((m * m / 2 ^ 30 / 2 : Nat) : Int) = ((m * m / 2 ^ 30 : Nat) : Int) / 2 := by omega
      have e3 : ((2 * a + 1 : Nat) : Int) = 2 * (a : Int) + 1 := by omega
      rw [e2, e3]
    · rw [if_neg h, if_neg (by omega), bits_is k]
      have e3 : ((2 * a : Nat) : Int) = 2 * (a : Int) := by omega
      rw [e3]
/-- the first m of a number n whose greatest power of two is e -/
def startZ (n : Int) (e : Nat) : Int := if e ≤ 30 then n * 2 ^ (30 - e) else n / 2 ^ (e - 30)
theorem pow_cast (k : Nat) : ((2 ^ k : Nat) : Int) = (2 : Int) ^ k := Int.natCast_pow 2 k
theorem powZ_is {n : Int} {e : Nat} (h1 : 2 ^ e ≤ n.toNat) (h2 : n.toNat < 2 ^ (e + 1)) : powZ n = bitsZ 12 (startZ n e) e := by
  have hn : n.toNat ≠ 0 := fun z => by
    rw [z] at h1
    have := Nat.two_pow_pos e
    omega
  have el : n.toNat.log2 = e := by
    have a1 := (Nat.le_log2 hn).mpr h1
    have a2 := (Nat.log2_lt hn).mpr h2
    omega
  have en : ((n.toNat : Nat) : Int) = n := by omega
  unfold powZ Sh67.log2
  dsimp only
  rw [el, bits_is]
  unfold startZ
  by_cases he : e ≤ 30
  · rw [if_pos he, if_pos he, Int.natCast_mul, en, pow_cast]
  · rw [if_neg he, if_neg he, Int.natCast_ediv, en, pow_cast]
/-! ### ap_magnitude -/
def magZ (a b : Int) : Int := Sh67.near ((powZ b - powZ a) * 7526) 40960 % 4294967296
theorem mag_eq (a b : List Int) : PySh67.ap_magnitude a b = told (Sh67.answer (if Sh67.few (nats a).length = true then .magnitude (nats a) (nats b) else .bad)) := rfl
theorem mag_len {a b : List Int} (q : PySh67.ap_magnitude_asked a b = true) (n : a.length ≤ 1024) : b.length = a.length := by
  have q := asked_of q
  unfold asked1 at q
  simp only [Bool.and_eq_true] at q
  have e := q.2.2
  rw [if_pos (by rw [few_iff, nats_len]; exact n), Bool.and_eq_true, beq_iff_eq, beq_iff_eq, nats_len] at e
  exact e.2
theorem mag_bad {a b : List Int} (n : ¬ a.length ≤ 1024) : PySh67.ap_magnitude a b = [-2] := by
  rw [mag_eq, if_neg]
  · rfl
  · rw [few_iff, nats_len]
    exact n
theorem mag_none {a b : List Int} (ha : ∀ z ∈ a, 0 ≤ z) (hb : ∀ z ∈ b, 0 ≤ z) (n : a.length ≤ 1024) (e : ¬ ((∀ z ∈ a, z ≠ 0) ∧ (∀ z ∈ b, z ≠ 0))) : PySh67.ap_magnitude a b = [-3] := by
  rw [mag_eq, if_pos (by rw [few_iff, nats_len]; exact n)]
  show told (if (nats a).all (fun x => decide (0 < x)) = false ∨ (nats b).all (fun x => decide (0 < x)) = false then Sh67.fail (-3) else Sh67.done [((nats a).zip (nats b)).map fun p => Sh67.wordOf (Sh67.magnitude p.1 p.2)]) = _
  rw [if_pos]
  · rfl
  · cases q : (nats a).all (fun x => decide (0 < x)) with
    | false => exact .inl rfl
    | true =>
      cases q2 : (nats b).all (fun x => decide (0 < x)) with
      | false => exact .inr rfl
      | true => exact absurd ⟨(all_pos a ha).mp q, (all_pos b hb).mp q2⟩ e
theorem zip_nats : ∀ a b : List Int, (nats a).zip (nats b) = (a.zip b).map fun p => (p.1.toNat, p.2.toNat) := fun a b => by
  unfold nats
  rw [List.zip_map]
  rfl
theorem mag_good {a b : List Int} (ha : ∀ z ∈ a, 0 ≤ z) (hb : ∀ z ∈ b, 0 ≤ z) (n : a.length ≤ 1024) (e : (∀ z ∈ a, z ≠ 0) ∧ (∀ z ∈ b, z ≠ 0)) : PySh67.ap_magnitude a b = 0 :: (a.zip b).map fun p => magZ p.1 p.2 := by
  rw [mag_eq, if_pos (by rw [few_iff, nats_len]; exact n)]
  show told (if (nats a).all (fun x => decide (0 < x)) = false ∨ (nats b).all (fun x => decide (0 < x)) = false then Sh67.fail (-3) else Sh67.done [((nats a).zip (nats b)).map fun p => Sh67.wordOf (Sh67.magnitude p.1 p.2)]) = _
  rw [if_neg (by rw [(all_pos a ha).mpr e.1, (all_pos b hb).mpr e.2]; rintro (z | z) <;> cases z)]
  show (0 : Int) :: Sh67Neutral.ints (((nats a).zip (nats b)).map fun p => Sh67.wordOf (Sh67.magnitude p.1 p.2)) = _
  rw [zip_nats, ints_map, List.map_map]
  refine congrArg _ (List.map_congr_left fun p _ => ?_)
  show (((Sh67.near (((Sh67.log2 p.2.toNat : Nat) - (Sh67.log2 p.1.toNat : Nat) : Int) * 7526) 40960 % 4294967296).toNat : Nat) : Int) = _
  rw [Int.toNat_of_nonneg (Int.emod_nonneg _ (by decide))]
  rfl
/-! ### ap_shape -/
def s32 (z : Int) : Int := if z < 2147483648 then z else z - 4294967296
theorem int32_is {z : Int} (h : 0 ≤ z) : Sh67.int32 z.toNat = s32 z := by
  unfold Sh67.int32 s32
  by_cases e : z < 2147483648
  · rw [if_pos e, if_pos (by omega)]
    omega
  · rw [if_neg e, if_neg (by omega)]
    omega
def th (l : List Int) (j : Nat) : Int × Int × Int := (s32 (l.getD (3 * j) 0), s32 (l.getD (3 * j + 1) 0), s32 (l.getD (3 * j + 2) 0))
theorem threes_is : ∀ (n : Nat) (l : List Int), (∀ z ∈ l, 0 ≤ z) → l.length = 3 * n → Sh67.threes (nats l) = (List.range n).map (th l)
  | 0, l, _, e => by
    have e : l = [] := List.eq_nil_of_length_eq_zero (by omega)
    subst e
    rfl
  | n + 1, l, h, e => by
    match l, h, e with
    | [], _, e => simp at e; 
    | [_], _, e => simp at e; omega
    | [_, _], _, e => simp at e; omega
    | a :: b :: c :: l, h, e =>
      have ih := threes_is n l (fun z hz => h z (List.mem_cons_of_mem _ (List.mem_cons_of_mem _ (List.mem_cons_of_mem _ hz)))) (by simp at e; omega)
      show (Sh67.int32 a.toNat, Sh67.int32 b.toNat, Sh67.int32 c.toNat) :: Sh67.threes (nats l) = _
      rw [ih, int32_is (h a (by simp)), int32_is (h b (by simp)), int32_is (h c (by simp)), List.range_succ_eq_map, List.map_cons, List.map_map]
      refine congr (congrArg List.cons rfl) (List.map_congr_left fun j _ => ?_)
      show th l j = th (a :: b :: c :: l) (j + 1)
      unfold th
      rw [show 3 * (j + 1) = 3 * j + 3 by omega, show 3 * j + 3 + 1 = 3 * j + 1 + 3 by omega, show 3 * j + 3 + 2 = 3 * j + 2 + 3 by omega]
      rfl
/-- widths that there may be -/
def WideOk (p : Int × Int × Int) : Prop := (0 ≤ p.1 ∧ p.1 ≤ 33554432) ∧ (0 ≤ p.2.1 ∧ p.2.1 ≤ 33554432) ∧ (-33554432 ≤ p.2.2 ∧ p.2.2 ≤ 33554432)
theorem wide_iff (p : Int × Int × Int) : Sh67.wide p = true ↔ WideOk p := by
  unfold Sh67.wide WideOk
  simp only [Bool.and_eq_true, decide_eq_true_eq]
  omega
def wayZ (a b c : Int) : Int := if (2 * c).natAbs < (a - b).natAbs then (if b < a then 0 else 2) else (if 0 ≤ c then 1 else 3)
def shapeOf (p : Int × Int × Int) : List Int :=
  [(p.1 + p.2.1 + rootZ ((p.1 - p.2.1) * (p.1 - p.2.1) + 4 * p.2.2 * p.2.2)) % 4294967296, (p.1 + p.2.1 - rootZ ((p.1 - p.2.1) * (p.1 - p.2.1) + 4 * p.2.2 * p.2.2)) % 4294967296, wayZ p.1 p.2.1 p.2.2]
theorem shape_eq (l : List Int) : PySh67.ap_shape l = told (Sh67.answer (if Sh67.few ((nats l).length / 3) = true then .shape (nats l) else .bad)) := rfl
theorem shape_len {l : List Int} (q : PySh67.ap_shape_asked l = true) : l.length = 3 * (l.length / 3) := by
  have q := asked_of q
  unfold asked1 at q
  simp only [Bool.and_eq_true] at q
  have e := q.2
  rw [nats_len] at e
  by_cases h : Sh67.few (l.length / 3) = true
  · rw [if_pos h, beq_iff_eq] at e
    exact e
  · rw [if_neg h, Bool.or_eq_true, beq_iff_eq] at e
    rcases e with e | e
    · have := List.isEmpty_iff.mp e
      rw [this]
      rfl
    · exact e
theorem shape_bad {l : List Int} (n : ¬ l.length / 3 ≤ 1024) : PySh67.ap_shape l = [-2] := by
  rw [shape_eq, if_neg]
  · rfl
  · rw [few_iff, nats_len]
    exact n
theorem wide_all {l : List Int} (h : ∀ z ∈ l, 0 ≤ z) (hl : l.length = 3 * (l.length / 3)) : (Sh67.threes (nats l)).all Sh67.wide = true ↔ ∀ j, j < l.length / 3 → WideOk (th l j) := by
  rw [threes_is (l.length / 3) l h hl, List.all_eq_true]
  constructor
  · intro a j hj
    exact (wide_iff _).mp (a _ (List.mem_map_of_mem (List.mem_range.mpr hj)))
  · intro a x hx
    obtain ⟨j, hj, rfl⟩ := List.mem_map.mp hx
    exact (wide_iff _).mpr (a j (List.mem_range.mp hj))
theorem shape_none {l : List Int} (h : ∀ z ∈ l, 0 ≤ z) (hl : l.length = 3 * (l.length / 3)) (n : l.length / 3 ≤ 1024) (e : ¬ ∀ j, j < l.length / 3 → WideOk (th l j)) : PySh67.ap_shape l = [-3] := by
  rw [shape_eq, if_pos (by rw [few_iff, nats_len]; exact n)]
  show told (if (Sh67.threes (nats l)).all Sh67.wide = false then Sh67.fail (-3) else _) = _
  rw [if_pos]
  · rfl
  · cases q : (Sh67.threes (nats l)).all Sh67.wide with
    | false => rfl
    | true => exact absurd ((wide_all h hl).mp q) e
theorem shape_good {l : List Int} (h : ∀ z ∈ l, 0 ≤ z) (hl : l.length = 3 * (l.length / 3)) (n : l.length / 3 ≤ 1024) (e : ∀ j, j < l.length / 3 → WideOk (th l j)) : PySh67.ap_shape l = 0 :: flatTo (l.length / 3) fun j => shapeOf (th l j) := by
  rw [shape_eq, if_pos (by rw [few_iff, nats_len]; exact n)]
  show told (if (Sh67.threes (nats l)).all Sh67.wide = false then Sh67.fail (-3) else Sh67.done [(Sh67.threes (nats l)).flatMap fun p => [Sh67.wordOf (Sh67.axes p.1 p.2.1 p.2.2).1, Sh67.wordOf (Sh67.axes p.1 p.2.1 p.2.2).2, Sh67.way p.1 p.2.1 p.2.2]]) = _
  rw [if_neg (by rw [(wide_all h hl).mpr e]; exact Bool.noConfusion)]
  show (0 : Int) :: Sh67Neutral.ints ((Sh67.threes (nats l)).flatMap fun p => [Sh67.wordOf (Sh67.axes p.1 p.2.1 p.2.2).1, Sh67.wordOf (Sh67.axes p.1 p.2.1 p.2.2).2, Sh67.way p.1 p.2.1 p.2.2]) = _
  rw [threes_is (l.length / 3) l h hl, ints_flat, flat_map]
  unfold flatTo
  refine congrArg _ (flat_congr fun j _ => ?_)
  generalize th l j = p
  show [(((_ % 4294967296 : Int).toNat : Nat) : Int), (((_ % 4294967296 : Int).toNat : Nat) : Int), ((Sh67.way p.1 p.2.1 p.2.2 : Nat) : Int)] = shapeOf p
  rw [Int.toNat_of_nonneg (Int.emod_nonneg _ (by decide)), Int.toNat_of_nonneg (Int.emod_nonneg _ (by decide))]
  unfold shapeOf
  refine congr (congrArg List.cons rfl) (congr (congrArg List.cons rfl) (congrArg (fun z => [z]) ?_))
  unfold Sh67.way wayZ
  dsimp only
  split
  · split <;> rfl
  · split <;> rfl
end Ap
namespace Ap
open Sh67Neutral
/-! ### power: the doublings, and the halvings -/
theorem exp_lt {a b : Nat} (h : 2 ^ a < 2 ^ b) : a < b := (Nat.pow_lt_pow_iff_right (by decide)).mp h
/-- n's greatest power of two -/
def Bin (N E : Nat) : Prop := 2 ^ E ≤ N ∧ N < 2 ^ (E + 1)
theorem bin_of {N : Nat} (h : N ≠ 0) : Bin N N.log2 := ⟨(Nat.le_log2 h).mp (Nat.le_refl _), (Nat.log2_lt h).mp (Nat.lt_succ_self _)⟩
/-- while it is doubled -/
def Up (N E M : Nat) : Prop := ∃ j, M = N * 2 ^ j ∧ (j = 0 ∨ E + j ≤ 30)
theorem up_start (N E : Nat) : Up N E N := ⟨0, by rw [Nat.pow_zero, Nat.mul_one], .inl rfl⟩
theorem up_go {N E M : Nat} (b : Bin N E) (h : Up N E M) (lt : M < 1073741824) : Up N E (M * 2) := by
  obtain ⟨j, rfl, _⟩ := h
  refine ⟨j + 1, by rw [Nat.pow_succ, Nat.mul_assoc], .inr ?_⟩
  have h1 : 2 ^ (E + j) ≤ N * 2 ^ j := by
    rw [Nat.pow_add]
    exact Nat.mul_le_mul_right _ b.1
  have h2 : 2 ^ (E + j) < 2 ^ 30 := Nat.lt_of_le_of_lt h1 lt
  have := exp_lt h2
  omega
/-- while it is halved -/
def Dn (N E M : Nat) : Prop := (E ≤ 30 ∧ M = N * 2 ^ (30 - E)) ∨ (30 < E ∧ ∃ i, i + 30 ≤ E ∧ M = N / 2 ^ i)
theorem up_end {N E M : Nat} (b : Bin N E) (h : Up N E M) (ge : 1073741824 ≤ M) : Dn N E M := by
  obtain ⟨j, rfl, hj⟩ := h
  have h1 : N * 2 ^ j < 2 ^ (E + 1 + j) := by
    rw [Nat.pow_add]
    exact Nat.mul_lt_mul_of_pos_right b.2 (Nat.two_pow_pos j)
  have h2 := exp_lt (a := 30) (Nat.lt_of_le_of_lt ge h1)
  by_cases hE : E ≤ 30
  · refine .inl ⟨hE, ?_⟩
    have : j = 30 - E := by omega
    rw [this]
  · refine .inr ⟨by omega, 0, by omega, ?_⟩
    have : j = 0 := by omega
    rw [this, Nat.pow_zero, Nat.mul_one, Nat.div_one]
theorem dn_low {N E : Nat} (b : Bin N E) (h : E ≤ 30) : N * 2 ^ (30 - E) < 2147483648 := by
  have h1 : N * 2 ^ (30 - E) < 2 ^ (E + 1 + (30 - E)) := by
    rw [Nat.pow_add]
    exact Nat.mul_lt_mul_of_pos_right b.2 (Nat.two_pow_pos _)
  have e : E + 1 + (30 - E) = 31 := by omega
  rw [e] at h1
  exact h1
theorem dn_go {N E M : Nat} (b : Bin N E) (h : Dn N E M) (ge : 2147483648 ≤ M) : Dn N E (M / 2) := by
  rcases h with ⟨h1, rfl⟩ | ⟨h1, i, h2, rfl⟩
  · have := dn_low b h1
    omega
  · refine .inr ⟨h1, i + 1, ?_, by rw [Nat.pow_succ, Nat.div_div_eq_div_mul]⟩
    have h3 : 2147483648 * 2 ^ i ≤ N := (Nat.le_div_iff_mul_le (Nat.two_pow_pos i)).mp ge
    have h4 : 2 ^ (31 + i) < 2 ^ (E + 1) := by
      rw [Nat.pow_add]
      exact Nat.lt_of_le_of_lt h3 b.2
    have := exp_lt h4
    omega
theorem dn_end {n : Int} {E M : Nat} (h0 : 0 ≤ n) (b : Bin n.toNat E) (h : Dn n.toNat E M) (lt : M < 2147483648) : powZ n = bitsZ 12 (M : Int) E := by
  rw [powZ_is b.1 b.2]
  have en : ((n.toNat : Nat) : Int) = n := by omega
  have e : (M : Int) = startZ n E := by
    unfold startZ
    rcases h with ⟨h1, h2⟩ | ⟨h1, i, h2, h3⟩
    · rw [if_pos h1, h2, Int.natCast_mul, pow_cast, en]
    · rw [if_neg (by omega)]
      have h4 : n.toNat < 2147483648 * 2 ^ i := by
        rw [h3] at lt
        exact (Nat.div_lt_iff_lt_mul (Nat.two_pow_pos i)).mp lt
      have h5 : 2 ^ E < 2 ^ (31 + i) := by
        rw [Nat.pow_add]
        exact Nat.lt_of_le_of_lt b.1 h4
      have := exp_lt h5
      have ei : i = E - 30 := by omega
      rw [h3, ei, Int.natCast_ediv, pow_cast, en]
  rw [e]
/-- one squaring: its bounds -/
theorem sq_lt {m : Int} (h0 : 0 ≤ m) (h1 : m < 2147483648) : 0 ≤ m * m / 1073741824 ∧ m * m / 1073741824 < 4294967296 := by
  have a : 0 ≤ m * m := Int.mul_nonneg h0 h0
  have b : m * m ≤ 2147483647 * 2147483647 := Int.mul_le_mul (by omega) (by omega) h0 (by decide)
  omega
theorem bitsZ_yes {k : Nat} {m a : Int} (h : 2147483648 ≤ m * m / 1073741824) : bitsZ (k + 1) m a = bitsZ k (m * m / 1073741824 / 2) (2 * a + 1) := by
  rw [bitsZ, if_pos h]
theorem bitsZ_no {k : Nat} {m a : Int} (h : ¬ 2147483648 ≤ m * m / 1073741824) : bitsZ (k + 1) m a = bitsZ k (m * m / 1073741824) (2 * a) := by
  rw [bitsZ, if_neg h]
end Ap
namespace Sl
open PySem PySem.Spec PyProof.Rows L2
open PySem.W (Codec)
/-! ### the text by places -/
def top (i : Nat) : Stmt := PySem.Challenge.pw_starlight_s08_ap_magnitude.main.body.getD i (.Pass ⟨0, 0, 0, 0⟩)
/-! ### heaps -/
theorem same_new {H : Hp} {p : Addr} {o : HO} (h : H p = none) : Same H (upd H p o) := fun b x e => by
  rw [upd_ne (ne_of_none e h)]
  exact e
theorem tyes {σ : L2.St} {H : Hp} {A B : Hp → Prop} (h : A H) : tYes σ H (fun b H3 => if b = true then A H3 else B H3) := h
theorem int_at {l : List Int} {i : Nat} {v : V} (h : (l.map V.int)[i]? = some v) : ∃ z, l[i]? = some z ∧ v = V.int z := by
  rw [List.getElem?_map] at h
  cases e : l[i]? with
  | none => rw [e] at h; cases h
  | some z => rw [e] at h; exact ⟨z, rfl, (Option.some.inj h).symm⟩
theorem flat_ints (l : List Int) : (l.map V.int).all flatV = true := by
  rw [List.all_eq_true]
  intro x hx
  obtain ⟨z, _, rfl⟩ := List.mem_map.mp hx
  rfl
/-- 0 in l -/
theorem zero_in (l : List Int) : inV (.int 0) (l.map V.int) = true ↔ ¬ ∀ z ∈ l, z ≠ 0 := by
  unfold inV
  rw [List.any_eq_true]
  constructor
  · rintro ⟨x, hx, e⟩ n
    obtain ⟨z, hz, rfl⟩ := List.mem_map.mp hx
    have e : (z == 0) = true := e
    exact n z hz (by simpa using e)
  · intro n
    apply Classical.byContradiction
    intro m
    refine n fun z hz e => m ⟨.int z, List.mem_map_of_mem hz, ?_⟩
    show (z == 0) = true
    rw [e]
    rfl
end Sl
namespace Sl
open PySem PySem.Spec PyProof.Rows L2
open PySem.W (Codec)
abbrev sPower : Stmt := top 6
theorem ip_half {X : Cx} : PIp X .FloorDiv (rI CDiv fun i j => .int (i / j)) := iop_fdiv
theorem ip_twice {X : Cx} : PIp X .Mult (rI CMul fun i j => .int (i * j)) := iop_mul
def slotOf (σ : L2.St) (i : Nat) : Int := match σ[i]? with
  | some (some (.int z)) => z
  | _ => 0
section
variable {P : Program} {w : World} {K : PySem.W.Frag} {mg : Str → Option Value} {base : Heap}
/-! ### power -/
theorem scPower : FnScope ["n", "e", "m", "turn", "q"] ["n"] (defScope sPower) := ⟨rfl, rfl, rfl, by decide +kernel, rfl, by decide +kernel, by decide +kernel⟩
def spPower : Sp := fun vs H Q _ => ∃ n : Int, vs = [.int n] ∧ 0 < n ∧ n < 18446744073709551616 ∧ Q (.int (Ap.powZ n)) H
theorem ok_power {f : Addr} {fd : FuncData} {k t : Nat} (F : Fun K "power" "power" sPower f fd) (gT : mg "POWER_TURNS" = some (.int 12 t)) (mR : mg "range" = none) : FnOk P w K mg base CX0 (k + 1) f fd ["n"] spPower := by
  refine F.ok scPower (fun vs H Q E h => ?_) (fun cdv A outer s H vs Q E hr h => ?_)
  · obtain ⟨n, rfl, _⟩ := h
    rfl
  · obtain ⟨n, rfl, n0, n1, q⟩ := h
    obtain ⟨N, rfl⟩ : ∃ N : Nat, n = (N : Int) := ⟨n.toNat, by omega⟩
    have hN : N ≠ 0 := by omega
    have hb : Ap.Bin N N.log2 := Ap.bin_of hN
    have hbits : Builtin.Int.intBits (N : Int) = N.log2 + 1 := by
      unfold Builtin.Int.intBits
      rw [if_neg (by simpa using hN)]
      rfl
    refine ⟨_, pss_cons (ps_set (i := 1) scPower.nd rfl (.inl rfl) (pe_op op_sub (pe_bits (pv 0)) pe_int))
      (pss_cons (ps_set (i := 2) scPower.nd rfl (.inl rfl) (pv 0))
      (pss_cons (ps_while PassesOwn.never (pt_cmpR op_lt (pv 2) (pe_op op_pow pe_int pe_int) (nomark _)) (pss_one (ps_aug (i := 2) scPower.nd rfl (.inl rfl) pe_int ip_twice)))
      (pss_cons (ps_while PassesOwn.never (pt_cmpR op_ge (pv 2) (pe_op op_pow pe_int pe_int) (nomark _)) (pss_one (ps_aug (i := 2) scPower.nd rfl (.inl rfl) pe_int ip_half)))
      (pss_cons (ps_for PassesOwn.never rfl (pi_range1 rfl mR (pa_cons (pe_glob (v := .int 12) rfl gT ⟨_, rfl⟩) pa_nil)) (pg_name (i := 3) scPower.nd rfl (.inl rfl))
        (pss_cons (ps_set (i := 4) scPower.nd rfl (.inl rfl) (pe_op op_fdivW (pe_op op_mul (pv 2) (pv 2)) (pe_op op_pow pe_int pe_int)))
        (pss_one (ps_if (pt_cmpR op_ge (pv 4) (pe_op op_pow pe_int pe_int) (nomark _))
          (pss_cons (ps_set (i := 1) scPower.nd rfl (.inl rfl) (pe_op op_add (pe_op op_mul pe_int (pv 1)) pe_int)) (pss_one (ps_set (i := 2) scPower.nd rfl (.inl rfl) (pe_op op_fdiv (pv 4) pe_int))))
          (pss_cons (ps_set (i := 1) scPower.nd rfl (.inl rfl) (pe_op op_mul pe_int (pv 1))) (pss_one (ps_set (i := 2) scPower.nd rfl (.inl rfl) (pv 4))))))))
      (pss_one (ps_ret (pv 1))))))), ?_⟩
    refine ⟨_, rfl, _, rfl, _, 1, rfl, rfl, _, rfl, ?_⟩
    rw [hbits]
    have e1 : ((N.log2 + 1 : Nat) : Int) - 1 = (N.log2 : Int) := by omega
    refine while_by (fun σ H' => H' = H ∧ ∃ m : Int, σ = [some (.int (N : Int)), some (.int (N.log2 : Int)), some (.int m), none, none] ∧ 0 < m ∧ Ap.Up N N.log2 m.toNat) (fun σ _ => (1073741824 - slotOf σ 2).toNat) ?_ ?_ ?_
    · refine ⟨rfl, (N : Int), ?_, n0, Ap.up_start _ _⟩
      rw [← e1]
      rfl
    · rintro σ H' ⟨rfl, m, rfl, hM, hu⟩
      refine ⟨_, rfl, 2, 30, rfl, rfl, ⟨by decide, by decide, by decide⟩, m, _, rfl, rfl, _, rfl, ite2 (fun e => ?_) (fun e => ?_)⟩
      · have e : m < 1073741824 := of_decide_eq_true e
        refine ⟨_, rfl, m, 2, rfl, rfl, .inr ⟨by decide, by decide⟩, ⟨rfl, m * 2, rfl, by omega, ?_⟩, ?_⟩
        · have e2 : (m * 2).toNat = m.toNat * 2 := by omega
          rw [e2]
          exact Ap.up_go hb hu (by omega)
        · show (1073741824 - m * 2).toNat < (1073741824 - m).toNat
          omega
      · have e : ¬ m < 1073741824 := fun z => e (decide_eq_true z)
        have hd := Ap.up_end hb hu (by omega)
        refine while_by (fun σ H2 => H2 = H' ∧ ∃ m : Int, σ = [some (.int (N : Int)), some (.int (N.log2 : Int)), some (.int m), none, none] ∧ 0 ≤ m ∧ Ap.Dn N N.log2 m.toNat) (fun σ _ => (slotOf σ 2).toNat) ?_ ?_ ?_
        · exact ⟨rfl, m, rfl, by omega, hd⟩
        · rintro σ H2 ⟨rfl, m, rfl, hM, hd⟩
          refine ⟨_, rfl, 2, 31, rfl, rfl, ⟨by decide, by decide, by decide⟩, m, _, rfl, rfl, _, rfl, ite2 (fun e => ?_) (fun e => ?_)⟩
          · have e : (2147483648 : Int) ≤ m := of_decide_eq_true e
            refine ⟨_, rfl, m, 2, rfl, rfl, ⟨by decide, by decide⟩, ⟨rfl, m / 2, rfl, by omega, ?_⟩, ?_⟩
            · have e2 : (m / 2).toNat = m.toNat / 2 := by omega
              rw [e2]
              exact Ap.dn_go hb hd (by omega)
            · show (m / 2).toNat < m.toNat
              omega
          · have e : ¬ (2147483648 : Int) ≤ m := fun z => e (decide_eq_true z)
            have hz := Ap.dn_end (n := (N : Int)) (E := N.log2) (by omega) hb hd (by omega)
            rw [show ((m.toNat : Nat) : Int) = m by omega] at hz
            refine ⟨12, rfl, by decide, by decide, for_range (lo := 0) (n := 12) (fun i σ H3 => H3 = H2 ∧ ∃ (m a : Int) (v3 v4 : Option V), σ = [some (.int (N : Int)), some (.int a), some (.int m), v3, v4] ∧ (0 ≤ m ∧ m < 2147483648) ∧ Ap.bitsZ (12 - i) m a = Ap.powZ (N : Int)) ?_ ?_ ?_⟩
            · exact ⟨rfl, m, (N.log2 : Int), none, none, rfl, ⟨by omega, by omega⟩, hz.symm⟩
            · rintro i σ H3 hi ⟨rfl, m, a, v3, v4, rfl, hm, he⟩
              have hs := Ap.sq_lt hm.1 hm.2
              have ek : 12 - i = (12 - (i + 1)) + 1 := by omega
              rw [ek] at he
              refine ⟨_, rfl, _, rfl, m, m, rfl, rfl, .inl ⟨by omega, by omega⟩, 2, 30, rfl, rfl, ⟨by decide, by decide, by decide⟩, _, _, rfl, rfl, wide_div (b := 31) (by decide) (by decide) (by decide) (by decide), ?_⟩
              refine ⟨_, rfl, 2, 31, rfl, rfl, ⟨by decide, by decide, by decide⟩, _, _, rfl, rfl, _, rfl, ite2 (fun e => ?_) (fun e => ?_)⟩
              · have e : (2147483648 : Int) ≤ m * m / 1073741824 := of_decide_eq_true e
                refine ⟨_, rfl, 2, a, rfl, rfl, .inl ⟨by decide, by decide⟩, _, _, rfl, rfl, _, rfl, _, 2, rfl, rfl, ⟨by decide, by decide⟩, ?_⟩
                refine ⟨rfl, m * m / 1073741824 / 2, 2 * a + 1, _, _, rfl, ⟨by omega, by omega⟩, ?_⟩
                rw [← Ap.bitsZ_yes e]
                exact he
              · have e : ¬ (2147483648 : Int) ≤ m * m / 1073741824 := fun z => e (decide_eq_true z)
                refine ⟨_, rfl, 2, a, rfl, rfl, .inl ⟨by decide, by decide⟩, _, rfl, ?_⟩
                refine ⟨rfl, m * m / 1073741824, 2 * a, _, _, rfl, ⟨by omega, by omega⟩, ?_⟩
                rw [← Ap.bitsZ_no e]
                exact he
            · rintro σ H3 ⟨rfl, m, a, v3, v4, rfl, hm, he⟩
              have he : a = Ap.powZ (N : Int) := he
              refine ⟨_, rfl, ?_⟩
              rw [he]
              exact q
        · rintro σ H2 Q1 Q2 hq ⟨v, e1, a, b, ea, eb, ec, i, j, e2, e3, k, e4, h⟩
          exact ⟨v, e1, a, b, ea, eb, ec, i, j, e2, e3, k, e4, hq _ _ h⟩
    · rintro σ H2 Q1 Q2 hq ⟨v, e1, a, b, ea, eb, ec, i, j, e2, e3, k, e4, h⟩
      exact ⟨v, e1, a, b, ea, eb, ec, i, j, e2, e3, k, e4, hq _ _ h⟩
end
end Sl
namespace Sl
open PySem PySem.Spec PyProof.Rows L2
open PySem.W (Codec)
abbrev sRounded : Stmt := top 5
abbrev sMagn : Stmt := top 7
section
variable {P : Program} {w : World} {K : PySem.W.Frag} {mg : Str → Option Value} {base : Heap}
/-! ### rounded -/
theorem scRounded : FnScope ["over", "under"] ["over", "under"] (defScope sRounded) := ⟨rfl, rfl, rfl, by decide +kernel, rfl, by decide +kernel, by decide +kernel⟩
def spRounded : Sp := fun vs H Q _ => ∃ a s : Int, vs = [.int a, .int s] ∧ 0 < s ∧ s ≤ 400000000 ∧ Q (.int (Sh67.near a s)) H
theorem ok_rounded {f : Addr} {fd : FuncData} {k : Nat} (F : Fun K "rounded" "rounded" sRounded f fd) : FnOk P w K mg base CX0 (k + 1) f fd ["over", "under"] spRounded := by
  refine F.ok scRounded (fun vs H Q E h => ?_) (fun cdv A outer s H vs Q E hr h => ?_)
  · obtain ⟨a, s, rfl, _⟩ := h
    rfl
  · obtain ⟨a, s, rfl, h0, h1, q⟩ := h
    refine ⟨_, pss_one (ps_ret (pe_op op_fdiv (pe_op op_add (pe_op op_mul pe_int (pv 0)) (pv 1)) (pe_op op_mul pe_int (pv 1)))), ?_⟩
    exact ⟨_, rfl, 2, a, rfl, rfl, .inl ⟨by decide, by decide⟩, _, rfl, _, _, rfl, rfl, _, rfl, 2, s, rfl, rfl, .inl ⟨by decide, by decide⟩, _, _, rfl, rfl, ⟨by omega, by omega⟩, q⟩
/-! ### magnitude -/
theorem scMagn : FnScope ["a", "b"] ["a", "b"] (defScope sMagn) := ⟨rfl, rfl, rfl, by decide +kernel, rfl, by decide +kernel, by decide +kernel⟩
def spMagn : Sp := fun vs H Q _ => ∃ a b : Int, vs = [.int a, .int b] ∧ (0 < a ∧ a < 18446744073709551616) ∧ (0 < b ∧ b < 18446744073709551616) ∧ Q (.int (Sh67.near ((Ap.powZ b - Ap.powZ a) * 7526) 40960)) H
theorem ok_magn {f fW fR : Addr} {fd fdW fdR : FuncData} {k t u : Nat} (F : Fun K "magnitude" "magnitude" sMagn f fd) (gO : mg "MAGNITUDE_OVER" = some (.int 7526 t)) (gU : mg "MAGNITUDE_UNDER" = some (.int 40960 u))
    (gW : mg "power" = some (.ref fW)) (kW : PySem.W.keepIn K (.ref fW) = true) (bW : Binds K fdW ["n"] []) (GW : FnOk P w K mg base CX0 k fW fdW ["n"] spPower)
    (gR : mg "rounded" = some (.ref fR)) (kR : PySem.W.keepIn K (.ref fR) = true) (bR : Binds K fdR ["over", "under"] []) (GR : FnOk P w K mg base CX0 k fR fdR ["over", "under"] spRounded) :
    FnOk P w K mg base CX0 (k + 1) f fd ["a", "b"] spMagn := by
  refine F.ok scMagn (fun vs H Q E h => ?_) (fun cdv A outer s H vs Q E hr h => ?_)
  · obtain ⟨a, b, rfl, _⟩ := h
    rfl
  · obtain ⟨a, b, rfl, ha, hb, q⟩ := h
    refine ⟨_, pss_one (ps_ret (pe_call GR hr (by rfl) gR kR bR .nil pass0 (pa_cons (pe_op op_mul (pe_op op_sub (pe_call GW hr (by rfl) gW kW bW .nil pass0 (pa_cons (pv 1) pa_nil)) (pe_call GW hr (by rfl) gW kW bW .nil pass0 (pa_cons (pv 0) pa_nil)))
      (pe_glob (v := .int 7526) rfl gO ⟨_, rfl⟩)) (pa_cons (pe_glob (v := .int 40960) rfl gU ⟨_, rfl⟩) pa_nil)))), ?_⟩
    refine ⟨_, rfl, b, rfl, hb.1, hb.2, _, rfl, a, rfl, ha.1, ha.2, _, _, rfl, rfl, _, 7526, rfl, rfl, .inr ⟨by decide, by decide⟩, ?_⟩
    exact ⟨_, 40960, rfl, by decide, by decide, q⟩
end
end Sl
namespace Sl
open PySem PySem.Spec PyProof.Rows L2
open PySem.W (Codec)
abbrev sMain : Stmt := top 8
section
variable {P : Program} {w : World} {K : PySem.W.Frag} {mg : Str → Option Value} {base : Heap}
/-! ### ap_magnitude -/
theorem scMain : FnScope ["a", "b", "one", "other"] ["a", "b"] (defScope sMain) := ⟨rfl, rfl, rfl, by decide +kernel, rfl, by decide +kernel, by decide +kernel⟩
def spMain (K : PySem.W.Frag) : Sp := fun vs H Q _ => ∃ (c d : Addr) (a b : List Int), vs = [.ref c, .ref d] ∧ SqL K H c (a.map V.int) ∧ SqL K H d (b.map V.int) ∧ (∀ z ∈ a, 0 ≤ z ∧ z ≤ 4294967295) ∧ (∀ z ∈ b, 0 ≤ z ∧ z ≤ 4294967295) ∧
  PySh67.ap_magnitude_asked a b = true ∧ ∀ (H' : Hp) (p : Addr), H' p = some (.lst ((PySh67.ap_magnitude a b).map V.int)) → Q (.ref p) H'
theorem zip_at {a b : List Int} {i : Nat} {x y : Int} (hx : a[i]? = some x) (hy : b[i]? = some y) : (a.zip b)[i]? = some (x, y) := List.getElem?_zip_eq_some.mpr ⟨hx, hy⟩
theorem ok_main {f fG : Addr} {fd fdG : FuncData} {k t : Nat} (F : Fun K "ap_magnitude" "ap_magnitude" sMain f fd) (gM : mg "MOST_THINGS" = some (.int 1024 t)) (mL : mg "len" = none) (mZ : mg "zip" = none)
    (gG : mg "magnitude" = some (.ref fG)) (kG : PySem.W.keepIn K (.ref fG) = true) (bG : Binds K fdG ["a", "b"] []) (GG : FnOk P w K mg base CX0 k fG fdG ["a", "b"] spMagn) :
    FnOk P w K mg base CX0 (k + 1) f fd ["a", "b"] (spMain K) := by
  refine F.ok scMain (fun vs H Q E h => ?_) (fun cdv A outer s H vs Q E hr hh => ?_)
  · obtain ⟨c, d, a, b, rfl, _⟩ := h
    rfl
  · obtain ⟨c, d, a, b, rfl, hA, hB, ha0, hb0, hask, q⟩ := hh
    refine ⟨_, pss_cons (ps_if (PW.pt (pw_or (pt_cmpR op_gt (pe_callB call_len_seq (by rfl) mL PySem.boot_len (pa_cons (pv 0) pa_nil)) (pe_glob (v := .int 1024) rfl gM ⟨_, rfl⟩) (nomark _))
        (pw_or1 (pt_cmpR op_gt (pe_callB call_len_seq (by rfl) mL PySem.boot_len (pa_cons (pv 1) pa_nil)) (pe_glob (v := .int 1024) rfl gM ⟨_, rfl⟩) (nomark _))))) (pss_one (ps_ret (pe_lst (pa_cons (pe_un un_neg pe_int) pa_nil)))) pss_nil)
      (pss_cons (ps_if (PW.pt (pw_or (pt_cmpR op_in_seq pe_int (pv 0) (by rfl)) (pw_or1 (pt_cmpR op_in_seq pe_int (pv 1) (by rfl))))) (pss_one (ps_ret (pe_lst (pa_cons (pe_un un_neg pe_int) pa_nil)))) pss_nil)
      (pss_one (ps_ret (pe_op op_cat (pe_lst (pa_cons pe_int pa_nil)) (pe_lc (own := [("one", 2), ("other", 3)]) (g := gTup K 2 (gCons (gName 2) (gCons (gName 3) gNil))) (tt := tYes) rfl scMain.nd (pi_zip (by rfl) mZ (pa_cons (pv 0) (pa_cons (pv 1) pa_nil)))
        (blkOk_by (own := [("one", 2), ("other", 3)]) (N := ["a", "b", "one", "other"]) (sc := defScope sMain) (by decide +kernel)) (fun _ _ _ _ _ => pg_tup rfl (pgs_cons (pg_name (i := 2) scMain.nd rfl (.inl rfl)) (pgs_cons (pg_name (i := 3) scMain.nd rfl (.inl rfl)) pgs_nil))) (fun _ _ _ _ _ => pts_nil)
        (fun _ _ _ _ _ => pe_op op_mod (pe_call GG hr (by rfl) gG kG bG .nil pass0 (pa_cons (pv 2) (pa_cons (pv 3) pa_nil))) (pe_op op_pow pe_int pe_int))))))), ?_⟩
    refine ⟨_, rfl, c, _, rfl, .inl hA, _, 1024, rfl, rfl, _, rfl, ite2 (fun e => ?_) (fun e => ?_)⟩
    · have e := of_decide_eq_true e
      rw [List.length_map] at e
      refine ⟨2, rfl, (by show 1 ≤ sizeLine; decide), fun p _ => q _ p ?_⟩
      rw [upd_same, Ap.mag_bad (by omega)]
      rfl
    have e1 : a.length ≤ 1024 := by
      have : ¬ _ := fun z => e (decide_eq_true z)
      rw [List.length_map] at this
      omega
    have hl := Ap.mag_len hask e1
    refine ⟨_, rfl, d, _, rfl, .inl hB, _, 1024, rfl, rfl, _, rfl, ite2 (fun e => ?_) (fun e => ?_)⟩
    · have e := of_decide_eq_true e
      rw [List.length_map] at e
      omega
    have hnone : ¬ ((∀ z ∈ a, z ≠ 0) ∧ (∀ z ∈ b, z ≠ 0)) → ∀ p, Q (.ref p) (upd H p (.lst [.int (-3)])) := fun n p => q _ p (by
      rw [upd_same, Ap.mag_none (fun z hz => (ha0 z hz).1) (fun z hz => (hb0 z hz).1) e1 n]
      rfl)
    refine ⟨_, rfl, c, _, rfl, .inl hA, rfl, flat_ints a, _, rfl, ite2 (fun e => ?_) (fun e => ?_)⟩
    · have e := (zero_in a).mp e
      exact ⟨3, rfl, (by show 1 ≤ sizeLine; decide), fun p _ => hnone (fun z => e z.1) p⟩
    have e2 : ∀ z ∈ a, z ≠ 0 := by
      apply Classical.byContradiction
      intro z
      exact e ((zero_in a).mpr z)
    refine ⟨_, rfl, d, _, rfl, .inl hB, rfl, flat_ints b, _, rfl, ite2 (fun e => ?_) (fun e => ?_)⟩
    · have e := (zero_in b).mp e
      exact ⟨3, rfl, (by show 1 ≤ sizeLine; decide), fun p _ => hnone (fun z => e z.2) p⟩
    have e3 : ∀ z ∈ b, z ≠ 0 := by
      apply Classical.byContradiction
      intro z
      exact e ((zero_in b).mpr z)
    rw [Ap.mag_good (fun z hz => (ha0 z hz).1) (fun z hz => (hb0 z hz).1) e1 ⟨e2, e3⟩] at q
    refine ⟨(by show 1 ≤ sizeLine; decide), fun o no => ?_⟩
    have s1 : Same H (upd H o (.lst [.int 0])) := same_new no
    refine ⟨_, rfl, _, rfl, c, d, _, _, rfl, s1.seq hA, s1.seq hB, fun D nD => ?_⟩
    have hzl : (a.zip b).length = a.length := by rw [List.length_zip]; omega
    refine lc_it (walk_zip (K := K) (a := c) (b := d) (xs := a.map V.int) (ys := b.map V.int) (n := a.length) (by rw [List.length_map, List.length_map]; omega)) (fun i H' => H' D = some (.lst ((((a.zip b).take i).map fun p => Ap.magZ p.1 p.2).map V.int)) ∧ Same (upd H o (.lst [.int 0])) H') ⟨upd_same, same_new nD⟩
      (fun _ H' _ h => ⟨h.2.seq (s1.seq hA), h.2.seq (s1.seq hB)⟩) ?_ ?_
    · rintro i v H1 H2 hi ⟨hD, sm⟩ ⟨T, vx, vy, rfl, nT, rfl, ex, ey⟩
      obtain ⟨x, hx, rfl⟩ := int_at ex
      obtain ⟨y, hy, rfl⟩ := int_at ey
      have mx := List.mem_of_getElem? hx
      have my := List.mem_of_getElem? hy
      have x1 := ha0 x mx
      have x2 := e2 x mx
      have y1 := hb0 y my
      have y2 := e3 y my
      have sT : Same H1 (upd H1 T (.tup [.int x, .int y])) := same_new nT
      refine ⟨T, _, rfl, SqT.of upd_same, rfl, _, _, rfl, _, _, rfl, rfl, rfl, tyes ?_⟩
      refine ⟨_, rfl, _, rfl, x, y, rfl, ⟨by omega, by omega⟩, ⟨by omega, by omega⟩, 2, 32, rfl, rfl, ⟨by decide, by decide, by decide⟩, _, _, rfl, rfl, (by show (0 : Int) < 4294967296; decide), _, sT _ _ hD, ?_, ?_, ?_⟩
      · rw [List.length_map, List.length_map, List.length_take]
        exact Nat.lt_of_le_of_lt (show _ ≤ 10000 by omega) (by decide)
      · rw [upd_same, List.take_add_one, zip_at hx hy, List.map_append, List.map_append]
        rfl
      · intro u ob e
        rw [upd_ne (ne_of_none e nD)]
        exact sT _ _ (sm u ob e)
    · rintro H1 ⟨hD, sm⟩
      rw [← hzl, List.take_length] at hD
      refine ⟨o, D, _, _, rfl, rfl, sm _ _ upd_same, hD, ?_, fun p np => q _ p ?_⟩
      · rw [List.length_map, List.length_map, hzl]
        exact Nat.le_of_lt (Nat.lt_of_le_of_lt (show 1 + a.length ≤ 10000 by omega) (by decide))
      · rw [upd_same]
        rfl
end
end Sl
namespace Sl
open PySem PySem.Spec PyProof.Rows L2
open PySem.W (Codec)
/-! ### what the top has written -/
theorem all_mk {P : Program} {w : World} {K : PySem.W.Frag} {h : Heap} {mg : Str → Option Value} {fa f1 f2 f3 f4 : Addr} (X : K.In h) (G : h.Ns mainGlobals mg) (hfa : mg "ap_magnitude" = some (.ref fa))
    {od1 an1 od2 an2 od3 an3 od4 an4 : Option Addr} {sl1 sl2 sl3 sl4 : Array (Option Value)} {oc1 kV1 dc1 pm1 cd1 ct1 oc2 kV2 dc2 pm2 cd2 ct2 oc3 kV3 dc3 pm3 cd3 ct3 oc4 kV4 dc4 pm4 cd4 ct4 : Value} {t0 t1 t2 t3 : Nat}
    (a1 : PySem.W.nsIn K mainGlobals "rounded" = some (some (.ref f1))) (l1 : K.lookup f1 = some ⟨oc1, od1, .func (PySem.W.fnOf "rounded" "rounded" (defArgs sRounded) (defBody sRounded) (defScope sRounded) .none kV1 dc1 pm1 an1 cd1 ct1), sl1⟩) (c1 : PySem.W.codeIn K cd1 "rounded" = true) (k1 : PySem.W.keepIn K (.ref f1) = true)
    (a2 : PySem.W.nsIn K mainGlobals "power" = some (some (.ref f2))) (l2 : K.lookup f2 = some ⟨oc2, od2, .func (PySem.W.fnOf "power" "power" (defArgs sPower) (defBody sPower) (defScope sPower) .none kV2 dc2 pm2 an2 cd2 ct2), sl2⟩) (c2 : PySem.W.codeIn K cd2 "power" = true) (k2 : PySem.W.keepIn K (.ref f2) = true)
    (a3 : PySem.W.nsIn K mainGlobals "magnitude" = some (some (.ref f3))) (l3 : K.lookup f3 = some ⟨oc3, od3, .func (PySem.W.fnOf "magnitude" "magnitude" (defArgs sMagn) (defBody sMagn) (defScope sMagn) .none kV3 dc3 pm3 an3 cd3 ct3), sl3⟩) (c3 : PySem.W.codeIn K cd3 "magnitude" = true) (k3 : PySem.W.keepIn K (.ref f3) = true)
    (a4 : PySem.W.nsIn K mainGlobals "ap_magnitude" = some (some (.ref f4))) (l4 : K.lookup f4 = some ⟨oc4, od4, .func (PySem.W.fnOf "ap_magnitude" "ap_magnitude" (defArgs sMain) (defBody sMain) (defScope sMain) .none kV4 dc4 pm4 an4 cd4 ct4), sl4⟩) (c4 : PySem.W.codeIn K cd4 "ap_magnitude" = true) (k4 : PySem.W.keepIn K (.ref f4) = true)
    (v0 : PySem.W.nsIn K mainGlobals "MOST_THINGS" = some (some (.int 1024 t0)))
    (v1 : PySem.W.nsIn K mainGlobals "MAGNITUDE_OVER" = some (some (.int 7526 t1)))
    (v2 : PySem.W.nsIn K mainGlobals "MAGNITUDE_UNDER" = some (some (.int 40960 t2)))
    (v3 : PySem.W.nsIn K mainGlobals "POWER_TURNS" = some (some (.int 12 t3)))
    (z0 : PySem.W.nsIn K mainGlobals "len" = some none)
    (z1 : PySem.W.nsIn K mainGlobals "range" = some none)
    (z2 : PySem.W.nsIn K mainGlobals "zip" = some none) :
    ∃ fd : FuncData, (∀ (s : Shared) (us : List Value), us.length = (["a", "b"] : List Str).length → BindsTo s fd ⟨us, []⟩ ((["a", "b"] : List Str).zip us)) ∧ ∀ base : Heap, K.In base → base.Ns mainGlobals mg → FnOk P w K mg base CX0 4 fa fd ["a", "b"] (spMain K) := by
  have e := hfa.symm.trans (PySem.W.mg_of X G a4)
  cases e
  have F1 := fun_mk (st := sRounded) l1 c1 k1
  have b1 := F1.binds (ps := ["over", "under"]) fun _ _ _ _ _ _ us hl => match us, hl with | [_, _], _ => rfl
  have g1 := PySem.W.mg_of X G a1
  have F2 := fun_mk (st := sPower) l2 c2 k2
  have b2 := F2.binds (ps := ["n"]) fun _ _ _ _ _ _ us hl => match us, hl with | [_], _ => rfl
  have g2 := PySem.W.mg_of X G a2
  have F3 := fun_mk (st := sMagn) l3 c3 k3
  have b3 := F3.binds (ps := ["a", "b"]) fun _ _ _ _ _ _ us hl => match us, hl with | [_, _], _ => rfl
  have g3 := PySem.W.mg_of X G a3
  have F4 := fun_mk (st := sMain) l4 c4 k4
  have gv_MOST_THINGS := PySem.W.mg_of X G v0
  have gv_MAGNITUDE_OVER := PySem.W.mg_of X G v1
  have gv_MAGNITUDE_UNDER := PySem.W.mg_of X G v2
  have gv_POWER_TURNS := PySem.W.mg_of X G v3
  have m_len : mg "len" = none := PySem.W.mg_none_of X G z0
  have m_range : mg "range" = none := PySem.W.mg_none_of X G z1
  have m_zip : mg "zip" = none := PySem.W.mg_none_of X G z2
  refine ⟨PySem.W.fnOf "ap_magnitude" "ap_magnitude" (defArgs sMain) (defBody sMain) (defScope sMain) .none kV4 dc4 pm4 an4 cd4 ct4, fun s us hu => match us, hu with | [_, _], _ => .of_eq rfl, fun base _ _ => ?_⟩
  have GW : FnOk P w K mg base CX0 2 f2 _ ["n"] spPower := ok_power F2 gv_POWER_TURNS m_range
  have GR : FnOk P w K mg base CX0 2 f1 _ ["over", "under"] spRounded := ok_rounded F1
  have GG : FnOk P w K mg base CX0 3 f3 _ ["a", "b"] spMagn := ok_magn F3 gv_MAGNITUDE_OVER gv_MAGNITUDE_UNDER g2 k2 b2 GW g1 k1 b1 GR
  exact ok_main F4 gv_MOST_THINGS m_len m_zip g3 k3 b3 GG
end Sl
open PySem PySem.W PyProof.Rows
set_option maxRecDepth 100000 in
set_option maxHeartbeats 0 in
theorem PySem.Challenge.cw_starlight_s08_ap_magnitude_holds : PySem.Challenge.rw_starlight_s08_ap_magnitude.Holds := by
  w_on; k_headS; (case hw => exact ⟨[.list [], .list []], by decide +kernel, by decide +kernel⟩)
  k_fillS
  refine L2.walk_specK (r := PySem.Challenge.rw_starlight_s08_ap_magnitude) (k := 4) (CX := L2.CX0) (ps := ["a", "b"]) (sp := Sl.spMain) (by decide +kernel) rfl rfl ⟨rfl, by decide, by decide⟩ (fun w h Y => PySem.W.kIn_of Y) ?F ?S (fun _ _ _ _ z => z)
  case F =>
    intro w mg fa h Y KX G hmg
    refine' Sl.all_mk KX G hmg ?a1 ?l1 ?c1 ?k1 ?a2 ?l2 ?c2 ?k2 ?a3 ?l3 ?c3 ?k3 ?a4 ?l4 ?c4 ?k4 ?v0 ?v1 ?v2 ?v3 ?z0 ?z1 ?z2
    (case a1 => k_is)
    (case l1 => k_is)
    (case c1 => k_is)
    (case k1 => k_is)
    (case a2 => k_is)
    (case l2 => k_is)
    (case c2 => k_is)
    (case k2 => k_is)
    (case a3 => k_is)
    (case l3 => k_is)
    (case c3 => k_is)
    (case k3 => k_is)
    (case a4 => k_is)
    (case l4 => k_is)
    (case c4 => k_is)
    (case k4 => k_is)
    (case v0 => k_is)
    (case v1 => k_is)
    (case v2 => k_is)
    (case v3 => k_is)
    (case z0 => k_is)
    (case z1 => k_is)
    (case z2 => k_is)
  case S =>
    intro K H xs a hO hwi hask hx
    obtain ⟨a, b, u⟩ := a
    cases hx with
    | cons x1 hx =>
    cases hx with
    | cons x2 hx =>
    cases hx
    cases x1 with
    | lst s4 y4 =>
    cases x2 with
    | lst s5 y5 =>
    have e4 := L2.ints_dw a _ y4
    have e5 := L2.ints_dw b _ y5
    subst e4 e5
    have q : ((Codec.inLen 0 1030 a && a.all (Codec.inInt 0 4294967295)) && ((Codec.inLen 0 1030 b && b.all (Codec.inInt 0 4294967295)) && true)) = true := hwi
    simp only [Bool.and_eq_true, List.all_eq_true] at q
    exact ⟨_, _, a, b, rfl, s4, s5, fun z hz => Codec.inInt_iff.mp (q.1.2 z hz), fun z hz => Codec.inInt_iff.mp (q.2.1.2 z hz), hask, fun H' p hp => .lst (L2.SqL.of hp) (L2.dw_ints _)⟩
#print axioms PySem.Challenge.cw_starlight_s08_ap_magnitude_holds
