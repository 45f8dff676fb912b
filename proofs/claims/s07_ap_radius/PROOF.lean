import PyProof.Rows.All
import Wide.All
import OpenK.AllK
import Wide.FinOn
import Open.SpecLaws
import KE.OsHead
import KE.OsGo
import HandS.ForSpec
import HandS.Comp
import HandS.Iter
import HandS.Walk
import HandS.SortInts
import HandS.SortRule
import PySem.Challenge.RW_starlight_s07_ap_radius
set_option Elab.async false
set_option linter.all false
set_option maxRecDepth 100000
set_option maxHeartbeats 4000000
namespace Ap
/-! ### sums over a list and over a range -/
theorem sum_snoc (l : List Int) (z : Int) : (l ++ [z]).sum = l.sum + z := by
  rw [List.sum_append]
  simp
theorem msum_take {α : Type} {g : α → Int} {l : List α} {i : Nat} {z : α} (h : l[i]? = some z) : ((l.take (i + 1)).map g).sum = ((l.take i).map g).sum + g z := by
  rw [List.take_add_one, h, List.map_append]
  exact sum_snoc _ _
def sumTo (n : Nat) (g : Nat → Int) : Int := ((List.range n).map g).sum
theorem sumTo_zero (g : Nat → Int) : sumTo 0 g = 0 := rfl
theorem sumTo_succ (n : Nat) (g : Nat → Int) : sumTo (n + 1) g = sumTo n g + g n := by
  unfold sumTo
  rw [List.range_succ, List.map_append]
  exact sum_snoc _ _
theorem sumTo_congr {n : Nat} {g g' : Nat → Int} (h : ∀ i, i < n → g i = g' i) : sumTo n g = sumTo n g' := by
  unfold sumTo
  congr 1
  exact List.map_congr_left fun i hi => h i (List.mem_range.mp hi)
theorem cast_sum : ∀ (l : List Nat), ((l.sum : Nat) : Int) = (l.map fun (n : Nat) => (n : Int)).sum
  | [] => rfl
  | a :: r => by
    rw [List.sum_cons, List.map_cons, List.sum_cons, ← cast_sum r]
    omega
theorem flat_sum {α β : Type} (k : α → List β) (g : β → Int) : ∀ l : List α, ((l.flatMap k).map g).sum = (l.map fun a => ((k a).map g).sum).sum
  | [] => rfl
  | a :: r => by
    rw [List.flatMap_cons, List.map_append, List.sum_append, List.map_cons, List.sum_cons, flat_sum k g r]
theorem sq (a : Int) : a ^ 2 = a * a := by
  rw [Int.pow_succ, Int.pow_succ, Int.pow_zero, Int.one_mul]
theorem filt_len {α : Type} (p : α → Bool) : ∀ l : List α, (((l.filter p).length : Nat) : Int) = (l.map fun a => if p a = true then (1 : Int) else 0).sum
  | [] => rfl
  | a :: r => by
    have ih := filt_len p r
    rw [List.filter_cons, List.map_cons, List.sum_cons, ← ih]
    by_cases h : p a = true
    · rw [if_pos h, if_pos h, List.length_cons]
      omega
    · rw [if_neg h, if_neg h]
      omega
/-! ### a place's points -/
def steps : List Int := [8, 24, 40, 56]
def gaps (k z : Int) : List Int := steps.map fun s => (64 * k + s - z) ^ 2
def cnt1 (across : List Int) (dy most : Int) : Int := (across.map fun dx => if dx + dy ≤ most then (1 : Int) else 0).sum
def cnt2 (across down : List Int) (most : Int) : Int := (down.map fun dy => cnt1 across dy most).sum
theorem part_is (x y r : Int) (c q : Nat) : ((Sh67.part x y r c q : Nat) : Int) = cnt2 (gaps c x) (gaps q y) (r * r) := by
  unfold Sh67.part Sh67.points
  rw [filt_len, flat_sum]
  have e : ∀ b a : Nat, (if decide ((((64 * c + a : Nat) : Int) - x) * (((64 * c + a : Nat) : Int) - x) + (((64 * q + b : Nat) : Int) - y) * (((64 * q + b : Nat) : Int) - y) ≤ r * r) = true then (1 : Int) else 0) =
      (if (64 * (c : Int) + (a : Int) - x) ^ 2 + (64 * (q : Int) + (b : Int) - y) ^ 2 ≤ r * r then (1 : Int) else 0) := fun b a => by
    rw [sq, sq, Int.natCast_add, Int.natCast_mul, Int.natCast_add, Int.natCast_mul]
    simp only [decide_eq_true_eq]
    rfl
  simp only [List.map_map]
  unfold cnt2 gaps steps
  simp only [List.map_cons, List.map_nil, List.map_map, cnt1, Function.comp_def, e]
  rfl
theorem cnt1_le (dy most : Int) : ∀ l : List Int, 0 ≤ cnt1 l dy most ∧ cnt1 l dy most ≤ l.length
  | [] => ⟨Int.le_refl _, Int.le_refl _⟩
  | a :: r => by
    have ih := cnt1_le dy most r
    unfold cnt1 at ih ⊢
    rw [List.map_cons, List.sum_cons, List.length_cons]
    split <;> omega
theorem cnt2_le (across : List Int) (most : Int) (ha : across.length = 4) : ∀ l : List Int, 0 ≤ cnt2 across l most ∧ cnt2 across l most ≤ 4 * l.length
  | [] => ⟨Int.le_refl _, Int.le_refl _⟩
  | a :: r => by
    have ih := cnt2_le across most ha r
    have h1 := cnt1_le a most across
    unfold cnt2 at ih ⊢
    rw [List.map_cons, List.sum_cons, List.length_cons]
    omega
theorem gaps_len (k z : Int) : (gaps k z).length = 4 := rfl
/-! ### an aperture -/
def apN (w h : Nat) (f : List Int) (x y r : Int) : Int := sumTo h fun q => sumTo w fun c => f.getD (q * w + c) 0 * cnt2 (gaps c x) (gaps q y) (r * r)
def apP (w h : Nat) (x y r : Int) : Int := sumTo h fun q => sumTo w fun c => cnt2 (gaps c x) (gaps q y) (r * r)
theorem each_sum {α : Type} (w h : Nat) (k : Nat → Nat → α) (g : α → Int) : ((Sh67.each w h k).map g).sum = sumTo h fun q => sumTo w fun c => g (k c q) := by
  unfold Sh67.each sumTo
  rw [flat_sum]
  simp only [List.map_map, Function.comp_def]
theorem nats_getD (f : List Int) (i : Nat) (hf : ∀ z ∈ f, 0 ≤ z) : (((Sh67Neutral.nats f).toArray.getD i 0 : Nat) : Int) = f.getD i 0 := by
  unfold Sh67Neutral.nats
  rw [Array.getD_eq_getD_getElem?, List.getElem?_toArray, List.getElem?_map, List.getD_eq_getElem?_getD]
  cases e : f[i]? with
  | none => rfl
  | some z =>
    have := hf z (List.mem_of_getElem? e)
    show ((z.toNat : Nat) : Int) = z
    omega
theorem ap1_is (w h : Nat) (f : List Int) (x y r : Int) (hf : ∀ z ∈ f, 0 ≤ z) : (((Sh67.aperture w h (Sh67Neutral.nats f) x y r).1 : Nat) : Int) = apN w h f x y r := by
  show (((List.map (fun (p : Nat × Nat) => p.1 * p.2) (Sh67.each w h fun c q => (Sh67.part x y r c q, (Sh67Neutral.nats f).toArray.getD (q * w + c) 0))).sum : Nat) : Int) = _
  rw [cast_sum, List.map_map, each_sum]
  unfold apN
  refine sumTo_congr fun q _ => sumTo_congr fun c _ => ?_
  show ((Sh67.part x y r c q * (Sh67Neutral.nats f).toArray.getD (q * w + c) 0 : Nat) : Int) = _
  rw [Int.natCast_mul, part_is, nats_getD f _ hf, Int.mul_comm]
theorem ap2_is (w h : Nat) (f : List Int) (x y r : Int) : (((Sh67.aperture w h (Sh67Neutral.nats f) x y r).2 : Nat) : Int) = apP w h x y r := by
  show (((List.map (fun (p : Nat × Nat) => p.1) (Sh67.each w h fun c q => (Sh67.part x y r c q, (Sh67Neutral.nats f).toArray.getD (q * w + c) 0))).sum : Nat) : Int) = _
  rw [cast_sum, List.map_map, each_sum]
  unfold apP
  refine sumTo_congr fun q _ => sumTo_congr fun c _ => ?_
  exact part_is x y r c q
/-! ### places -/
def placeX (xy : List Int) (j : Nat) : Int := xy.getD (2 * j) 0
def placeY (xy : List Int) (j : Nat) : Int := xy.getD (2 * j + 1) 0
theorem num_nats (xy : List Int) (i : Nat) (h : ∀ z ∈ xy, 0 ≤ z) : ((Sh67.num (Sh67Neutral.nats xy) i : Nat) : Int) = xy.getD i 0 := by
  unfold Sh67.num Sh67Neutral.nats
  rw [List.getD_eq_getElem?_getD, List.getElem?_map, List.getD_eq_getElem?_getD]
  cases e : xy[i]? with
  | none => rfl
  | some z =>
    have := h z (List.mem_of_getElem? e)
    show ((z.toNat : Nat) : Int) = z
    omega
theorem pairs_is (xy : List Int) (h : ∀ z ∈ xy, 0 ≤ z) : Sh67.pairsOf (Sh67Neutral.nats xy) = (List.range (xy.length / 2)).map fun j => (placeX xy j, placeY xy j) := by
  unfold Sh67.pairsOf
  have e : (Sh67Neutral.nats xy).length = xy.length := by
    unfold Sh67Neutral.nats
    rw [List.length_map]
  rw [e]
  refine List.map_congr_left fun j _ => ?_
  rw [num_nats xy _ h, num_nats xy _ h]
  rfl
/-- what is answered place by place, up to the n-th -/
def flatTo (n : Nat) (g : Nat → List Int) : List Int := (List.range n).flatMap g
theorem flatTo_zero (g : Nat → List Int) : flatTo 0 g = [] := rfl
theorem flatTo_succ (n : Nat) (g : Nat → List Int) : flatTo (n + 1) g = flatTo n g ++ g n := by
  unfold flatTo
  rw [List.range_succ, List.flatMap_append]
  simp
theorem ints_flat {α : Type} (k : α → List Nat) : ∀ l : List α, Sh67Neutral.ints (l.flatMap k) = l.flatMap fun a => Sh67Neutral.ints (k a)
  | [] => rfl
  | a :: r => by
    have ih := ints_flat k r
    unfold Sh67Neutral.ints at ih ⊢
    rw [List.flatMap_cons, List.map_append, ih, List.flatMap_cons]
theorem flat_map {α β γ : Type} (k : β → List γ) (m : α → β) : ∀ l : List α, (l.map m).flatMap k = l.flatMap fun a => k (m a)
  | [] => rfl
  | a :: r => by
    rw [List.map_cons, List.flatMap_cons, List.flatMap_cons, flat_map k m r]
end Ap
namespace Ap
/-! ### a ring -/
def mgap (k z : Int) : Int := (64 * k + 32 - z) ^ 2
/-- the number of the place in column c of row q, if it is in the ring -/
def cell (w : Nat) (f : List Int) (x y a b : Int) (q c : Nat) : List Int :=
  if a * a < mgap c x + mgap q y ∧ mgap c x + mgap q y ≤ b * b then [f.getD (q * w + c) 0] else []
def row (w : Nat) (f : List Int) (x y a b : Int) (q : Nat) (n : Nat) : List Int := flatTo n (cell w f x y a b q)
def ringL (w h : Nat) (f : List Int) (x y a b : Int) : List Int := flatTo h fun q => row w f x y a b q w
theorem fm_flat {α β : Type} (k : α → Option β) : ∀ l : List α, l.filterMap k = l.flatMap fun a => (k a).toList
  | [] => rfl
  | a :: r => by
    rw [List.flatMap_cons, ← fm_flat k r, List.filterMap_cons]
    cases k a <;> rfl
theorem range_rows (w : Nat) {β : Type} (k : Nat → List β) : ∀ h : Nat, (List.range (w * h)).flatMap k = (List.range h).flatMap fun q => (List.range w).flatMap fun c => k (w * q + c)
  | 0 => rfl
  | h + 1 => by
    rw [Nat.mul_succ, List.range_add, List.flatMap_append, range_rows w k h, List.range_succ, List.flatMap_append, flat_map]
    simp
theorem flat_congr {α β : Type} {k m : α → List β} {l : List α} (h : ∀ a ∈ l, k a = m a) : l.flatMap k = l.flatMap m := by
  rw [List.flatMap_def, List.flatMap_def, List.map_congr_left h]
theorem ring_is (w h : Nat) (f : List Int) (x y a b : Int) (hf : ∀ z ∈ f, 0 ≤ z) : Sh67Neutral.ints (Sh67.ring w h (Sh67Neutral.nats f) x y a b) = ringL w h f x y a b := by
  unfold Sh67.ring
  rw [fm_flat, ints_flat, range_rows]
  unfold ringL row flatTo
  refine flat_congr fun q _ => flat_congr fun c hc => ?_
  have hc : c < w := List.mem_range.mp hc
  have e1 : (w * q + c) % w = c := by rw [Nat.mul_add_mod]; exact Nat.mod_eq_of_lt hc
  have e2 : (w * q + c) / w = q := by rw [Nat.mul_add_div (by omega)]; rw [Nat.div_eq_of_lt hc]; rfl
  have e3 : w * q + c = q * w + c := by rw [Nat.mul_comm]
  simp only [e1, e2]
  unfold cell mgap
  rw [sq, sq]
  have g := nats_getD f (w * q + c) hf
  rw [e3] at g ⊢
  have ex : ((64 * c + 32 : Nat) : Int) = 64 * (c : Int) + 32 := by omega
  have ey : ((64 * q + 32 : Nat) : Int) = 64 * (q : Int) + 32 := by omega
  rw [ex, ey]
  by_cases hh : a * a < (64 * (c : Int) + 32 - x) * (64 * (c : Int) + 32 - x) + (64 * (q : Int) + 32 - y) * (64 * (q : Int) + 32 - y) ∧ (64 * (c : Int) + 32 - x) * (64 * (c : Int) + 32 - x) + (64 * (q : Int) + 32 - y) * (64 * (q : Int) + 32 - y) ≤ b * b
  · rw [if_pos hh, if_pos hh]
    show [(((Sh67Neutral.nats f).toArray.getD (q * w + c) 0 : Nat) : Int)] = _
    rw [g]
  · rw [if_neg hh, if_neg hh]
    rfl
theorem ring_len (w h : Nat) (f : List Int) (x y a b : Int) (hf : ∀ z ∈ f, 0 ≤ z) : (((Sh67.ring w h (Sh67Neutral.nats f) x y a b).length : Nat) : Int) = ((ringL w h f x y a b).length : Nat) := by
  rw [← ring_is w h f x y a b hf]
  unfold Sh67Neutral.ints
  rw [List.length_map]
/-! ### the middle one -/
def midOne (l s : List Int) : Int := if l = [] then 0 else s.getD ((l.length - 1) / 2) 0
theorem median_is (l : List Nat) (s : List Int) (hp : s.Perm (Sh67Neutral.ints l)) (hs : s.Pairwise (· ≤ ·)) : ((Sh67.median l : Nat) : Int) = s.getD (((Sh67Neutral.ints l).length - 1) / 2) 0 := by
  have h1 : (Sh67Neutral.ints (l.mergeSort fun a b => decide (a ≤ b))).Perm (Sh67Neutral.ints l) := by
    unfold Sh67Neutral.ints
    exact (List.mergeSort_perm l _).map _
  have h2 : (l.mergeSort fun a b => decide (a ≤ b)).Pairwise (fun a b => decide (a ≤ b) = true) :=
    List.pairwise_mergeSort (fun a b c x y => by simp at x y ⊢; omega) (fun a b => by simp; omega) l
  have h3 : (Sh67Neutral.ints (l.mergeSort fun a b => decide (a ≤ b))).Pairwise (· ≤ ·) := by
    unfold Sh67Neutral.ints
    rw [List.pairwise_map]
    refine h2.imp fun {a b} e => ?_
    have e := of_decide_eq_true e
    omega
  have e : s = Sh67Neutral.ints (l.mergeSort fun a b => decide (a ≤ b)) := List.Perm.eq_of_pairwise (fun a b _ _ x y => Int.le_antisymm x y) hs h3 (hp.trans h1.symm)
  rw [e]
  unfold Sh67.median Sh67.num Sh67Neutral.ints
  rw [List.length_map, List.getD_eq_getElem?_getD, List.getD_eq_getElem?_getD, List.getElem?_map]
  cases (l.mergeSort fun a b => decide (a ≤ b))[(l.length - 1) / 2]? <;> rfl
/-- the middle one of whole numbers, told by the specification's own -/
def med (l : List Int) : Int := ((Sh67.median (Sh67Neutral.nats l) : Nat) : Int)
theorem ints_nats (l : List Int) (h : ∀ z ∈ l, 0 ≤ z) : Sh67Neutral.ints (Sh67Neutral.nats l) = l := by
  unfold Sh67Neutral.ints Sh67Neutral.nats
  rw [List.map_map]
  refine (List.map_congr_left fun z hz => ?_).trans (List.map_id l)
  have := h z hz
  show ((z.toNat : Nat) : Int) = z
  omega
theorem nats_ints (l : List Nat) : Sh67Neutral.nats (Sh67Neutral.ints l) = l := by
  unfold Sh67Neutral.ints Sh67Neutral.nats
  rw [List.map_map]
  exact (List.map_congr_left fun z _ => rfl).trans (List.map_id l)
theorem med_sorted {l s : List Int} (h : ∀ z ∈ l, 0 ≤ z) (hp : s.Perm l) (hs : s.Pairwise (· ≤ ·)) : s.getD ((l.length - 1) / 2) 0 = med l := by
  unfold med
  have e := ints_nats l h
  rw [median_is (Sh67Neutral.nats l) s (by rw [e]; exact hp) hs, e]
theorem med_nil : med [] = 0 := by
  have e := med_sorted (l := []) (s := []) (fun z hz => by cases hz) (List.Perm.refl _) List.Pairwise.nil
  exact e.symm
theorem med_ring (w h : Nat) (f : List Int) (x y a b : Int) (hf : ∀ z ∈ f, 0 ≤ z) : ((Sh67.median (Sh67.ring w h (Sh67Neutral.nats f) x y a b) : Nat) : Int) = med (ringL w h f x y a b) := by
  unfold med
  rw [← ring_is w h f x y a b hf, nats_ints]
theorem getD_nonneg {f : List Int} (hf : ∀ z ∈ f, 0 ≤ z) (i : Nat) : 0 ≤ f.getD i 0 := by
  rw [List.getD_eq_getElem?_getD]
  cases e : f[i]? with
  | none => exact Int.le_refl _
  | some z => exact hf z (List.mem_of_getElem? e)
theorem ring_nonneg (w h : Nat) (f : List Int) (x y a b : Int) (hf : ∀ z ∈ f, 0 ≤ z) : ∀ z ∈ ringL w h f x y a b, 0 ≤ z := by
  intro z hz
  unfold ringL row flatTo at hz
  rw [List.mem_flatMap] at hz
  obtain ⟨q, _, hz⟩ := hz
  rw [List.mem_flatMap] at hz
  obtain ⟨c, _, hz⟩ := hz
  unfold cell at hz
  split at hz
  · rw [List.mem_singleton] at hz
    rw [hz]
    exact getD_nonneg hf _
  · cases hz
theorem flatTo_len_le {g : Nat → List Int} {k : Nat} (h : ∀ i, (g i).length ≤ k) : ∀ n, (flatTo n g).length ≤ n * k
  | 0 => by rw [flatTo_zero]; exact Nat.zero_le _
  | n + 1 => by
    have ih := flatTo_len_le h n
    have := h n
    rw [flatTo_succ, List.length_append, Nat.add_mul, Nat.one_mul]
    omega
theorem cell_len (w : Nat) (f : List Int) (x y a b : Int) (q c : Nat) : (cell w f x y a b q c).length ≤ 1 := by
  unfold cell
  split
  · exact Nat.le_refl _
  · exact Nat.zero_le _
theorem row_len (w : Nat) (f : List Int) (x y a b : Int) (q n : Nat) : (row w f x y a b q n).length ≤ n := by
  have := flatTo_len_le (cell_len w f x y a b q) n
  rw [Nat.mul_one] at this
  exact this
theorem rows_len (w : Nat) (f : List Int) (x y a b : Int) (n : Nat) : (flatTo n fun q => row w f x y a b q w).length ≤ n * w := flatTo_len_le (fun q => row_len w f x y a b q w) n
end Ap
namespace Ap
open Sh67Neutral
/-! ### what is asked, and what is due -/
theorem nats_len (l : List Int) : (nats l).length = l.length := by
  unfold nats
  rw [List.length_map]
theorem even_of {c : Prop} [Decidable c] {l0 l1 : List Int} {n : Nat} (h : (if c then l0.length == n && l1.length == (2 * ((nats l1).length / 2)) else (l0.isEmpty && l1.isEmpty) || (l0.length == n && l1.length == (2 * ((nats l1).length / 2)))) = true) :
    l1.length = 2 * (l1.length / 2) ∧ (c → l0.length = n) := by
  rw [nats_len] at h
  by_cases hc : c
  · rw [if_pos hc, Bool.and_eq_true, beq_iff_eq, beq_iff_eq] at h
    exact ⟨h.2, fun _ => h.1⟩
  · rw [if_neg hc, Bool.or_eq_true, Bool.and_eq_true, Bool.and_eq_true, beq_iff_eq, beq_iff_eq] at h
    refine ⟨?_, fun e => absurd e hc⟩
    rcases h with h | h
    · have := List.isEmpty_iff.mp h.2
      rw [this]
      rfl
    · exact h.2
theorem sized_iff (w h : Nat) : Sh67.sized w h = true ↔ (1 ≤ w ∧ w ≤ 64) ∧ (1 ≤ h ∧ h ≤ 64) := by
  unfold Sh67.sized Sh67.among
  simp
theorem some_iff (n : Nat) : Sh67.some_ n = true ↔ n ≤ 64 := by
  unfold Sh67.some_
  simp
theorem asked_of {c : Call} (h : asked c = true) : asked1 c = true := by
  unfold asked at h
  rw [Bool.and_eq_true] at h
  exact h.1
/-- the frame and the places are in their ranges -/
def FrameOk (w h : Int) (xy : List Int) : Prop := 1 ≤ w ∧ w ≤ 64 ∧ 1 ≤ h ∧ h ≤ 64 ∧ xy.length ≤ 128
/-! ### ap_aperture -/
theorem aperture_asked {r w h : Int} {f xy : List Int} (q : PySh67.ap_aperture_asked r w h f xy = true) (hr : 0 ≤ r) :
    xy.length = 2 * (xy.length / 2) ∧ (r ≤ 4096 → FrameOk w h xy → f.length = w.toNat * h.toNat) := by
  have q := asked_of q
  unfold asked1 at q
  simp only [Bool.and_eq_true] at q
  have e := even_of q.2.2.2.2.2
  refine ⟨e.1, fun h1 h2 => e.2 ?_⟩
  obtain ⟨a1, a2, a3, a4, a5⟩ := h2
  rw [sized_iff, some_iff, decide_eq_true_eq, nats_len]
  omega
theorem aperture_eq (r w h : Int) (f xy : List Int) : PySh67.ap_aperture r w h f xy = told (Sh67.answer (if (Sh67.sized w.toNat h.toNat && Sh67.some_ ((nats xy).length / 2) && decide (r.toNat ≤ 4096)) = true then .aperture r.toNat w.toNat h.toNat (nats f) (nats xy) else .bad)) := rfl
theorem aperture_bad {r w h : Int} {f xy : List Int} (q : PySh67.ap_aperture_asked r w h f xy = true) (hr : 0 ≤ r) (b : ¬ (r ≤ 4096 ∧ FrameOk w h xy)) : PySh67.ap_aperture r w h f xy = [-2] := by
  have e := (aperture_asked q hr).1
  rw [aperture_eq, if_neg]
  · rfl
  · rw [Bool.and_eq_true, Bool.and_eq_true, sized_iff, some_iff, decide_eq_true_eq, nats_len]
    intro z
    refine b ⟨by omega, by omega, by omega, by omega, by omega, by omega⟩
def apAt (w h : Int) (f : List Int) (r : Int) (xy : List Int) (j : Nat) : List Int := [apN w.toNat h.toNat f (placeX xy j) (placeY xy j) r, apP w.toNat h.toNat (placeX xy j) (placeY xy j) r]
theorem aperture_good {r w h : Int} {f xy : List Int} (hr : 0 ≤ r) (hf : ∀ z ∈ f, 0 ≤ z) (hx : ∀ z ∈ xy, 0 ≤ z) (g : r ≤ 4096 ∧ FrameOk w h xy) :
    PySh67.ap_aperture r w h f xy = 0 :: flatTo (xy.length / 2) (apAt w h f r xy) := by
  obtain ⟨h1, a1, a2, a3, a4, a5⟩ := g
  rw [aperture_eq, if_pos]
  · show (0 : Int) :: Sh67Neutral.ints ((Sh67.pairsOf (nats xy)).flatMap fun p => [(Sh67.aperture w.toNat h.toNat (nats f) p.1 p.2 (r.toNat : Nat)).1, (Sh67.aperture w.toNat h.toNat (nats f) p.1 p.2 (r.toNat : Nat)).2]) = _
    have er : ((r.toNat : Nat) : Int) = r := by omega
    rw [er, ints_flat, pairs_is xy hx, flat_map]
    unfold flatTo
    refine congrArg _ (flat_congr fun j _ => ?_)
    show [_, _] = apAt w h f r xy j
    unfold apAt
    dsimp only
    rw [ap1_is _ _ f _ _ _ hf, ap2_is]
  · rw [Bool.and_eq_true, Bool.and_eq_true, sized_iff, some_iff, decide_eq_true_eq, nats_len]
    omega
/-! ### ap_ring -/
theorem ring_asked {a b w h : Int} {f xy : List Int} (q : PySh67.ap_ring_asked a b w h f xy = true) (ha : 0 ≤ a) (hb : 0 ≤ b) :
    xy.length = 2 * (xy.length / 2) ∧ (a ≤ 4096 → b ≤ 4096 → FrameOk w h xy → f.length = w.toNat * h.toNat) := by
  have q := asked_of q
  unfold asked1 at q
  simp only [Bool.and_eq_true] at q
  have e := even_of q.2.2.2.2.2.2
  refine ⟨e.1, fun h1 h1' h2 => e.2 ?_⟩
  obtain ⟨a1, a2, a3, a4, a5⟩ := h2
  rw [sized_iff, some_iff, decide_eq_true_eq, decide_eq_true_eq, nats_len]
  omega
theorem ring_eq (a b w h : Int) (f xy : List Int) : PySh67.ap_ring a b w h f xy = told (Sh67.answer (if (Sh67.sized w.toNat h.toNat && Sh67.some_ ((nats xy).length / 2) && (decide (a.toNat ≤ 4096) && decide (b.toNat ≤ 4096))) = true then .ring a.toNat b.toNat w.toNat h.toNat (nats f) (nats xy) else .bad)) := rfl
theorem ring_bad {a b w h : Int} {f xy : List Int} (q : PySh67.ap_ring_asked a b w h f xy = true) (ha : 0 ≤ a) (hb : 0 ≤ b) (n : ¬ (a ≤ 4096 ∧ b ≤ 4096 ∧ FrameOk w h xy)) : PySh67.ap_ring a b w h f xy = [-2] := by
  have e := (ring_asked q ha hb).1
  rw [ring_eq, if_neg]
  · rfl
  · rw [Bool.and_eq_true, Bool.and_eq_true, Bool.and_eq_true, sized_iff, some_iff, decide_eq_true_eq, decide_eq_true_eq, nats_len]
    intro z
    refine n ⟨by omega, by omega, by omega, by omega, by omega, by omega, by omega⟩
def ringAt (w h : Int) (f : List Int) (a b : Int) (xy : List Int) (j : Nat) : List Int :=
  [((ringL w.toNat h.toNat f (placeX xy j) (placeY xy j) a b).length : Nat), med (ringL w.toNat h.toNat f (placeX xy j) (placeY xy j) a b)]
theorem ring_good {a b w h : Int} {f xy : List Int} (ha : 0 ≤ a) (hb : 0 ≤ b) (hf : ∀ z ∈ f, 0 ≤ z) (hx : ∀ z ∈ xy, 0 ≤ z) (g : a ≤ 4096 ∧ b ≤ 4096 ∧ FrameOk w h xy) :
    PySh67.ap_ring a b w h f xy = 0 :: flatTo (xy.length / 2) (ringAt w h f a b xy) := by
  obtain ⟨h1, h2, a1, a2, a3, a4, a5⟩ := g
  rw [ring_eq, if_pos]
  · show (0 : Int) :: Sh67Neutral.ints ((Sh67.pairsOf (nats xy)).flatMap fun p => [(Sh67.ring w.toNat h.toNat (nats f) p.1 p.2 (a.toNat : Nat) (b.toNat : Nat)).length, Sh67.median (Sh67.ring w.toNat h.toNat (nats f) p.1 p.2 (a.toNat : Nat) (b.toNat : Nat))]) = _
    have ea : ((a.toNat : Nat) : Int) = a := by omega
    have eb : ((b.toNat : Nat) : Int) = b := by omega
    rw [ea, eb, ints_flat, pairs_is xy hx, flat_map]
    unfold flatTo
    refine congrArg _ (flat_congr fun j _ => ?_)
    show [_, _] = ringAt w h f a b xy j
    unfold ringAt
    dsimp only
    rw [ring_len _ _ f _ _ _ _ hf, med_ring _ _ f _ _ _ _ hf]
  · rw [Bool.and_eq_true, Bool.and_eq_true, Bool.and_eq_true, sized_iff, some_iff, decide_eq_true_eq, decide_eq_true_eq, nats_len]
    omega
end Ap
namespace Ap
open Sh67Neutral
/-! ### ap_own -/
theorem own_asked {r a b w h : Int} {f xy : List Int} (q : PySh67.ap_own_asked r a b w h f xy = true) (hr : 0 ≤ r) (ha : 0 ≤ a) (hb : 0 ≤ b) :
    xy.length = 2 * (xy.length / 2) ∧ (r ≤ 4096 → a ≤ 4096 → b ≤ 4096 → FrameOk w h xy → f.length = w.toNat * h.toNat) := by
  have q := asked_of q
  unfold asked1 at q
  simp only [Bool.and_eq_true] at q
  have e := even_of q.2.2.2.2.2.2.2
  refine ⟨e.1, fun h1 h2 h3 h4 => e.2 ?_⟩
  obtain ⟨a1, a2, a3, a4, a5⟩ := h4
  rw [sized_iff, some_iff, decide_eq_true_eq, decide_eq_true_eq, decide_eq_true_eq, nats_len]
  omega
theorem own_eq (r a b w h : Int) (f xy : List Int) : PySh67.ap_own r a b w h f xy = told (Sh67.answer (if (Sh67.sized w.toNat h.toNat && Sh67.some_ ((nats xy).length / 2) && (decide (r.toNat ≤ 4096) && (decide (a.toNat ≤ 4096) && decide (b.toNat ≤ 4096)))) = true then .own r.toNat a.toNat b.toNat w.toNat h.toNat (nats f) (nats xy) else .bad)) := rfl
theorem own_bad {r a b w h : Int} {f xy : List Int} (q : PySh67.ap_own_asked r a b w h f xy = true) (hr : 0 ≤ r) (ha : 0 ≤ a) (hb : 0 ≤ b) (n : ¬ (r ≤ 4096 ∧ a ≤ 4096 ∧ b ≤ 4096 ∧ FrameOk w h xy)) : PySh67.ap_own r a b w h f xy = [-2] := by
  have e := (own_asked q hr ha hb).1
  rw [own_eq, if_neg]
  · rfl
  · simp only [Bool.and_eq_true]
    rw [sized_iff, some_iff, decide_eq_true_eq, decide_eq_true_eq, decide_eq_true_eq, nats_len]
    intro z
    exact n ⟨by omega, by omega, by omega, by omega, by omega, by omega, by omega, by omega⟩
def ownAt (w h : Int) (f : List Int) (r a b : Int) (xy : List Int) (j : Nat) : Int :=
  (apN w.toNat h.toNat f (placeX xy j) (placeY xy j) r - med (ringL w.toNat h.toNat f (placeX xy j) (placeY xy j) a b) * apP w.toNat h.toNat (placeX xy j) (placeY xy j) r) % 18446744073709551616
theorem ints_map {α : Type} (k : α → Nat) : ∀ l : List α, Sh67Neutral.ints (l.map k) = l.map fun a => ((k a : Nat) : Int) := fun l => by
  unfold Sh67Neutral.ints
  rw [List.map_map]
  rfl
/-- one number a place -/
def mapTo (n : Nat) (g : Nat → Int) : List Int := (List.range n).map g
theorem mapTo_zero (g : Nat → Int) : mapTo 0 g = [] := rfl
theorem mapTo_succ (n : Nat) (g : Nat → Int) : mapTo (n + 1) g = mapTo n g ++ [g n] := by
  unfold mapTo
  rw [List.range_succ, List.map_append]
  rfl
theorem mapTo_len (n : Nat) (g : Nat → Int) : (mapTo n g).length = n := by
  unfold mapTo
  rw [List.length_map, List.length_range]
theorem own_good {r a b w h : Int} {f xy : List Int} (hr : 0 ≤ r) (ha : 0 ≤ a) (hb : 0 ≤ b) (hf : ∀ z ∈ f, 0 ≤ z) (hx : ∀ z ∈ xy, 0 ≤ z) (g : r ≤ 4096 ∧ a ≤ 4096 ∧ b ≤ 4096 ∧ FrameOk w h xy) :
    PySh67.ap_own r a b w h f xy = 0 :: mapTo (xy.length / 2) (ownAt w h f r a b xy) := by
  obtain ⟨h0, h1, h2, a1, a2, a3, a4, a5⟩ := g
  rw [own_eq, if_pos]
  · show (0 : Int) :: Sh67Neutral.ints ((Sh67.pairsOf (nats xy)).map fun p => Sh67.longOf (Sh67.own w.toNat h.toNat (nats f) p.1 p.2 (r.toNat : Nat) (a.toNat : Nat) (b.toNat : Nat))) = _
    have er : ((r.toNat : Nat) : Int) = r := by omega
    have ea : ((a.toNat : Nat) : Int) = a := by omega
    have eb : ((b.toNat : Nat) : Int) = b := by omega
    rw [er, ea, eb, ints_map, pairs_is xy hx, List.map_map]
    unfold mapTo
    refine congrArg _ (List.map_congr_left fun j _ => ?_)
    show ((Sh67.longOf (Sh67.own w.toNat h.toNat (nats f) (placeX xy j) (placeY xy j) r a b) : Nat) : Int) = ownAt w h f r a b xy j
    unfold Sh67.longOf Sh67.own ownAt
    dsimp only
    rw [ap1_is _ _ f _ _ _ hf, ap2_is, med_ring _ _ f _ _ _ _ hf, Int.mul_comm (apP _ _ _ _ _)]
    exact Int.toNat_of_nonneg (Int.emod_nonneg _ (by decide))
  · simp only [Bool.and_eq_true]
    rw [sized_iff, some_iff, decide_eq_true_eq, decide_eq_true_eq, decide_eq_true_eq, nats_len]
    omega
/-! ### sums over all places, told by the place's number -/
theorem map_flat {α β : Type} (g : α → β) (l : List α) : l.map g = l.flatMap fun a => [g a] := by
  induction l with
  | nil => rfl
  | cons a r ih => rw [List.map_cons, List.flatMap_cons, ih]; rfl
theorem sum_rows (w : Nat) (g : Nat → Int) (h : Nat) : ((List.range (w * h)).map g).sum = sumTo h fun q => sumTo w fun c => g (w * q + c) := by
  rw [map_flat, range_rows]
  unfold sumTo
  have e := flat_sum (fun q => (List.range w).flatMap fun c => [g (w * q + c)]) (fun z : Int => z) (List.range h)
  rw [List.map_id'] at e
  rw [e]
  refine congrArg _ (List.map_congr_left fun q _ => ?_)
  rw [List.map_id', ← map_flat]
/-! ### weights -/
def wgt (level : Int) (w : Nat) (f : List Int) (x y r : Int) (q c : Nat) : Int :=
  if mgap c x + mgap q y ≤ r * r then (if level < f.getD (q * w + c) 0 then f.getD (q * w + c) 0 - level else 0) else 0
theorem wgt_nonneg (level : Int) (w : Nat) (f : List Int) (x y r : Int) (q c : Nat) : 0 ≤ wgt level w f x y r q c := by
  unfold wgt
  split
  · split <;> omega
  · exact Int.le_refl _
theorem at_rows {w : Nat} (q : Nat) {c : Nat} (hc : c < w) : (w * q + c) % w = c ∧ (w * q + c) / w = q ∧ w * q + c = q * w + c :=
  ⟨by rw [Nat.mul_add_mod]; exact Nat.mod_eq_of_lt hc, by rw [Nat.mul_add_div (by omega), Nat.div_eq_of_lt hc]; rfl, by rw [Nat.mul_comm]⟩
theorem weight_is (level : Nat) (w : Nat) (f : List Int) (x y r : Int) (q c : Nat) (hc : c < w) (hf : ∀ z ∈ f, 0 ≤ z) : ((Sh67.weightA (nats f).toArray level w x y r (w * q + c) : Nat) : Int) = wgt level w f x y r q c := by
  obtain ⟨e1, e2, e3⟩ := at_rows q hc
  unfold Sh67.weightA wgt mgap
  dsimp only
  rw [e1, e2, sq, sq]
  have g := nats_getD f (w * q + c) hf
  rw [e3] at g ⊢
  have ex : ((64 * c + 32 : Nat) : Int) = 64 * (c : Int) + 32 := by omega
  have ey : ((64 * q + 32 : Nat) : Int) = 64 * (q : Int) + 32 := by omega
  rw [ex, ey]
  by_cases hh : (64 * (c : Int) + 32 - x) * (64 * (c : Int) + 32 - x) + (64 * (q : Int) + 32 - y) * (64 * (q : Int) + 32 - y) ≤ r * r
  · rw [if_pos hh, if_pos hh, ← g]
    split <;> omega
  · rw [if_neg hh, if_neg hh]
    rfl
def wS (level : Int) (w h : Nat) (f : List Int) (x y r : Int) : Int := sumTo h fun q => sumTo w fun c => wgt level w f x y r q c
def wX (level : Int) (w h : Nat) (f : List Int) (x y r : Int) : Int := sumTo h fun q => sumTo w fun c => wgt level w f x y r q c * (64 * (c : Int) + 32)
def wY (level : Int) (w h : Nat) (f : List Int) (x y r : Int) : Int := sumTo h fun q => sumTo w fun c => wgt level w f x y r q c * (64 * (q : Int) + 32)
/-- the middle by weights, told by sums -/
def once (level : Int) (w h : Nat) (f : List Int) (x y r : Int) : Option (Int × Int) :=
  if wS level w h f x y r = 0 then none else some (Sh67.near (wX level w h f x y r) (wS level w h f x y r), Sh67.near (wY level w h f x y r) (wS level w h f x y r))
theorem once_is (level : Nat) (w h : Nat) (f : List Int) (x y r : Int) (hf : ∀ z ∈ f, 0 ≤ z) : Sh67.middleOnce w h (nats f) level x y r = once level w h f x y r := by
  have es : (((((List.range (w * h)).map fun i => (Sh67.weightA (nats f).toArray level w x y r i, i)).map fun p => p.1).sum : Nat) : Int) = wS level w h f x y r := by
    rw [cast_sum, List.map_map, List.map_map, sum_rows]
    unfold wS
    exact sumTo_congr fun q _ => sumTo_congr fun c hc => weight_is level w f x y r q c hc hf
  have ex : (((((List.range (w * h)).map fun i => (Sh67.weightA (nats f).toArray level w x y r i, i)).map fun p => p.1 * (64 * (p.2 % w) + 32)).sum : Nat) : Int) = wX level w h f x y r := by
    rw [cast_sum, List.map_map, List.map_map, sum_rows]
    unfold wX
    refine sumTo_congr fun q _ => sumTo_congr fun c hc => ?_
    show ((Sh67.weightA (nats f).toArray level w x y r (w * q + c) * (64 * ((w * q + c) % w) + 32) : Nat) : Int) = _
    rw [Int.natCast_mul, weight_is level w f x y r q c hc hf, (at_rows q hc).1]
    rfl
  have ey : (((((List.range (w * h)).map fun i => (Sh67.weightA (nats f).toArray level w x y r i, i)).map fun p => p.1 * (64 * (p.2 / w) + 32)).sum : Nat) : Int) = wY level w h f x y r := by
    rw [cast_sum, List.map_map, List.map_map, sum_rows]
    unfold wY
    refine sumTo_congr fun q _ => sumTo_congr fun c hc => ?_
    show ((Sh67.weightA (nats f).toArray level w x y r (w * q + c) * (64 * ((w * q + c) / w) + 32) : Nat) : Int) = _
    rw [Int.natCast_mul, weight_is level w f x y r q c hc hf, (at_rows q hc).2.1]
    rfl
  unfold Sh67.middleOnce once
  dsimp only
  rw [ex, ey, es]
  by_cases h0 : wS level w h f x y r = 0
  · rw [if_pos h0, if_pos (by omega)]
  · rw [if_neg h0, if_neg (by omega)]
/-- again and again -/
def again (level : Int) (w h : Nat) (f : List Int) (r : Int) : Nat → Int → Int → Option (Int × Int)
  | 0, x, y => some (x, y)
  | n + 1, x, y => match once level w h f x y r with
    | none => none
    | some p => if p = (x, y) then some p else again level w h f r n p.1 p.2
theorem again_is (level : Nat) (w h : Nat) (f : List Int) (r : Int) (hf : ∀ z ∈ f, 0 ≤ z) : ∀ (n : Nat) (x y : Int), Sh67.middle w h (nats f) level r n x y = again level w h f r n x y
  | 0, _, _ => rfl
  | n + 1, x, y => by
    unfold Sh67.middle again
    rw [once_is level w h f x y r hf]
    cases once level w h f x y r with
    | none => rfl
    | some p =>
      dsimp only
      rw [again_is level w h f r hf n]
/-! ### ap_middle -/
theorem middle_asked {l r m w h : Int} {f xy : List Int} (q : PySh67.ap_middle_asked l r m w h f xy = true) (hl : 0 ≤ l) (hr : 0 ≤ r) (hm : 0 ≤ m) :
    xy.length = 2 * (xy.length / 2) ∧ (l ≤ 65535 → r ≤ 4096 → m ≤ 32 → FrameOk w h xy → f.length = w.toNat * h.toNat) := by
  have q := asked_of q
  unfold asked1 at q
  simp only [Bool.and_eq_true] at q
  have e := even_of q.2.2.2.2.2.2.2
  refine ⟨e.1, fun h1 h2 h3 h4 => e.2 ?_⟩
  obtain ⟨a1, a2, a3, a4, a5⟩ := h4
  rw [sized_iff, some_iff, decide_eq_true_eq, decide_eq_true_eq, decide_eq_true_eq, nats_len]
  omega
theorem middle_eq (l r m w h : Int) (f xy : List Int) : PySh67.ap_middle l r m w h f xy = told (Sh67.answer (if (Sh67.sized w.toNat h.toNat && Sh67.some_ ((nats xy).length / 2) && (decide (l.toNat ≤ 65535) && (decide (r.toNat ≤ 4096) && decide (m.toNat ≤ 32)))) = true then .middle l.toNat r.toNat m.toNat w.toNat h.toNat (nats f) (nats xy) else .bad)) := rfl
theorem middle_bad {l r m w h : Int} {f xy : List Int} (q : PySh67.ap_middle_asked l r m w h f xy = true) (hl : 0 ≤ l) (hr : 0 ≤ r) (hm : 0 ≤ m) (n : ¬ (l ≤ 65535 ∧ r ≤ 4096 ∧ m ≤ 32 ∧ FrameOk w h xy)) : PySh67.ap_middle l r m w h f xy = [-2] := by
  have e := (middle_asked q hl hr hm).1
  rw [middle_eq, if_neg]
  · rfl
  · simp only [Bool.and_eq_true]
    rw [sized_iff, some_iff, decide_eq_true_eq, decide_eq_true_eq, decide_eq_true_eq, nats_len]
    intro z
    exact n ⟨by omega, by omega, by omega, by omega, by omega, by omega, by omega, by omega⟩
/-- a pair of words, or none -/
def two : Option (Int × Int) → List Int
  | none => [4294967295, 4294967295]
  | some p => [p.1 % 4294967296, p.2 % 4294967296]
theorem two_is (o : Option (Int × Int)) : Sh67Neutral.ints (Sh67.pair o) = two o := by
  cases o with
  | none => rfl
  | some p =>
    show [(((p.1 % 4294967296).toNat : Nat) : Int), (((p.2 % 4294967296).toNat : Nat) : Int)] = [p.1 % 4294967296, p.2 % 4294967296]
    rw [Int.toNat_of_nonneg (Int.emod_nonneg _ (by decide)), Int.toNat_of_nonneg (Int.emod_nonneg _ (by decide))]
def midAt (l r m w h : Int) (f xy : List Int) (j : Nat) : List Int := two (again l w.toNat h.toNat f r m.toNat (placeX xy j) (placeY xy j))
theorem middle_good {l r m w h : Int} {f xy : List Int} (hl : 0 ≤ l) (hr : 0 ≤ r) (hm : 0 ≤ m) (hf : ∀ z ∈ f, 0 ≤ z) (hx : ∀ z ∈ xy, 0 ≤ z) (g : l ≤ 65535 ∧ r ≤ 4096 ∧ m ≤ 32 ∧ FrameOk w h xy) :
    PySh67.ap_middle l r m w h f xy = 0 :: flatTo (xy.length / 2) (midAt l r m w h f xy) := by
  obtain ⟨h0, h1, h2, a1, a2, a3, a4, a5⟩ := g
  rw [middle_eq, if_pos]
  · show (0 : Int) :: Sh67Neutral.ints ((Sh67.pairsOf (nats xy)).flatMap fun p => Sh67.pair (Sh67.middle w.toNat h.toNat (nats f) l.toNat (r.toNat : Nat) m.toNat p.1 p.2)) = _
    have er : ((r.toNat : Nat) : Int) = r := by omega
    have el : ((l.toNat : Nat) : Int) = l := by omega
    rw [er, ints_flat, pairs_is xy hx, flat_map]
    unfold flatTo
    refine congrArg _ (flat_congr fun j _ => ?_)
    rw [two_is, again_is _ _ _ _ _ hf, el]
    rfl
  · simp only [Bool.and_eq_true]
    rw [sized_iff, some_iff, decide_eq_true_eq, decide_eq_true_eq, decide_eq_true_eq, nats_len]
    omega
/-! ### ap_moments -/
def wXX (level : Int) (w h : Nat) (f : List Int) (x y r : Int) : Int := sumTo h fun q => sumTo w fun c => wgt level w f x y r q c * ((64 * (c : Int) + 32 - x) * (64 * (c : Int) + 32 - x))
def wYY (level : Int) (w h : Nat) (f : List Int) (x y r : Int) : Int := sumTo h fun q => sumTo w fun c => wgt level w f x y r q c * ((64 * (q : Int) + 32 - y) * (64 * (q : Int) + 32 - y))
def wXY (level : Int) (w h : Nat) (f : List Int) (x y r : Int) : Int := sumTo h fun q => sumTo w fun c => wgt level w f x y r q c * ((64 * (c : Int) + 32 - x) * (64 * (q : Int) + 32 - y))
def moms (level : Int) (w h : Nat) (f : List Int) (x y r : Int) : Option (Int × Int × Int) :=
  if wS level w h f x y r = 0 then none else some (Sh67.near (wXX level w h f x y r) (wS level w h f x y r), Sh67.near (wYY level w h f x y r) (wS level w h f x y r), Sh67.near (wXY level w h f x y r) (wS level w h f x y r))
theorem moms_is (level : Nat) (w h : Nat) (f : List Int) (x y r : Int) (hf : ∀ z ∈ f, 0 ≤ z) : Sh67.moments w h (nats f) level x y r = moms level w h f x y r := by
  have cx : ∀ c : Nat, ((64 * c + 32 : Nat) : Int) = 64 * (c : Int) + 32 := fun c => by omega
  unfold Sh67.moments moms
  dsimp only
  simp only [List.map_map, Function.comp_def]
  have es : (List.map (fun i => ((Sh67.weightA (nats f).toArray level w x y r i : Nat) : Int)) (List.range (w * h))).sum = wS level w h f x y r := by
    rw [sum_rows]
    unfold wS
    exact sumTo_congr fun q _ => sumTo_congr fun c hc => weight_is level w f x y r q c hc hf
  have e1 : (List.map (fun i => ((Sh67.weightA (nats f).toArray level w x y r i : Nat) : Int) * ((((64 * (i % w) + 32 : Nat) : Int) - x) * (((64 * (i % w) + 32 : Nat) : Int) - x))) (List.range (w * h))).sum = wXX level w h f x y r := by
    rw [sum_rows]
    unfold wXX
    refine sumTo_congr fun q _ => sumTo_congr fun c hc => ?_
    rw [weight_is level w f x y r q c hc hf, (at_rows q hc).1, cx]
  have e2 : (List.map (fun i => ((Sh67.weightA (nats f).toArray level w x y r i : Nat) : Int) * ((((64 * (i / w) + 32 : Nat) : Int) - y) * (((64 * (i / w) + 32 : Nat) : Int) - y))) (List.range (w * h))).sum = wYY level w h f x y r := by
    rw [sum_rows]
    unfold wYY
    refine sumTo_congr fun q _ => sumTo_congr fun c hc => ?_
    rw [weight_is level w f x y r q c hc hf, (at_rows q hc).2.1, cx]
  have e3 : (List.map (fun i => ((Sh67.weightA (nats f).toArray level w x y r i : Nat) : Int) * ((((64 * (i % w) + 32 : Nat) : Int) - x) * (((64 * (i / w) + 32 : Nat) : Int) - y))) (List.range (w * h))).sum = wXY level w h f x y r := by
    rw [sum_rows]
    unfold wXY
    refine sumTo_congr fun q _ => sumTo_congr fun c hc => ?_
    rw [weight_is level w f x y r q c hc hf, (at_rows q hc).1, (at_rows q hc).2.1, cx, cx]
  rw [es, e1, e2, e3]
theorem moments_asked {l r w h : Int} {f xy : List Int} (q : PySh67.ap_moments_asked l r w h f xy = true) (hl : 0 ≤ l) (hr : 0 ≤ r) :
    xy.length = 2 * (xy.length / 2) ∧ (l ≤ 65535 → r ≤ 4096 → FrameOk w h xy → f.length = w.toNat * h.toNat) := by
  have q := asked_of q
  unfold asked1 at q
  simp only [Bool.and_eq_true] at q
  have e := even_of q.2.2.2.2.2.2
  refine ⟨e.1, fun h1 h2 h4 => e.2 ?_⟩
  obtain ⟨a1, a2, a3, a4, a5⟩ := h4
  rw [sized_iff, some_iff, decide_eq_true_eq, decide_eq_true_eq, nats_len]
  omega
theorem moments_eq (l r w h : Int) (f xy : List Int) : PySh67.ap_moments l r w h f xy = told (Sh67.answer (if (Sh67.sized w.toNat h.toNat && Sh67.some_ ((nats xy).length / 2) && (decide (l.toNat ≤ 65535) && decide (r.toNat ≤ 4096))) = true then .moments l.toNat r.toNat w.toNat h.toNat (nats f) (nats xy) else .bad)) := rfl
theorem moments_bad {l r w h : Int} {f xy : List Int} (q : PySh67.ap_moments_asked l r w h f xy = true) (hl : 0 ≤ l) (hr : 0 ≤ r) (n : ¬ (l ≤ 65535 ∧ r ≤ 4096 ∧ FrameOk w h xy)) : PySh67.ap_moments l r w h f xy = [-2] := by
  have e := (moments_asked q hl hr).1
  rw [moments_eq, if_neg]
  · rfl
  · simp only [Bool.and_eq_true]
    rw [sized_iff, some_iff, decide_eq_true_eq, decide_eq_true_eq, nats_len]
    intro z
    exact n ⟨by omega, by omega, by omega, by omega, by omega, by omega, by omega⟩
def three : Option (Int × Int × Int) → List Int
  | none => [4294967295, 4294967295, 4294967295]
  | some p => [p.1 % 4294967296, p.2.1 % 4294967296, p.2.2 % 4294967296]
theorem three_is (o : Option (Int × Int × Int)) : Sh67Neutral.ints (Sh67.triple o) = three o := by
  cases o with
  | none => rfl
  | some p =>
    show [(((p.1 % 4294967296).toNat : Nat) : Int), (((p.2.1 % 4294967296).toNat : Nat) : Int), (((p.2.2 % 4294967296).toNat : Nat) : Int)] = [p.1 % 4294967296, p.2.1 % 4294967296, p.2.2 % 4294967296]
    rw [Int.toNat_of_nonneg (Int.emod_nonneg _ (by decide)), Int.toNat_of_nonneg (Int.emod_nonneg _ (by decide)), Int.toNat_of_nonneg (Int.emod_nonneg _ (by decide))]
def momAt (l r w h : Int) (f xy : List Int) (j : Nat) : List Int := three (moms l w.toNat h.toNat f (placeX xy j) (placeY xy j) r)
theorem moments_good {l r w h : Int} {f xy : List Int} (hl : 0 ≤ l) (hr : 0 ≤ r) (hf : ∀ z ∈ f, 0 ≤ z) (hx : ∀ z ∈ xy, 0 ≤ z) (g : l ≤ 65535 ∧ r ≤ 4096 ∧ FrameOk w h xy) :
    PySh67.ap_moments l r w h f xy = 0 :: flatTo (xy.length / 2) (momAt l r w h f xy) := by
  obtain ⟨h0, h1, a1, a2, a3, a4, a5⟩ := g
  rw [moments_eq, if_pos]
  · show (0 : Int) :: Sh67Neutral.ints ((Sh67.pairsOf (nats xy)).flatMap fun p => Sh67.triple (Sh67.moments w.toNat h.toNat (nats f) l.toNat p.1 p.2 (r.toNat : Nat))) = _
    have er : ((r.toNat : Nat) : Int) = r := by omega
    have el : ((l.toNat : Nat) : Int) = l := by omega
    rw [er, ints_flat, pairs_is xy hx, flat_map]
    unfold flatTo
    refine congrArg _ (flat_congr fun j _ => ?_)
    rw [three_is, moms_is _ _ _ _ _ _ _ hf, el]
    rfl
  · simp only [Bool.and_eq_true]
    rw [sized_iff, some_iff, decide_eq_true_eq, decide_eq_true_eq, nats_len]
    omega
end Ap
namespace Ap
open Sh67Neutral
/-! ### the whole root -/
theorem rootBy_is (n : Nat) : ∀ (k r : Nat), r * r ≤ n → n < (r + 2 ^ k) * (r + 2 ^ k) → Sh67.rootBy k n r * Sh67.rootBy k n r ≤ n ∧ n < (Sh67.rootBy k n r + 1) * (Sh67.rootBy k n r + 1)
  | 0, r, h1, h2 => ⟨h1, h2⟩
  | k + 1, r, h1, h2 => by
    unfold Sh67.rootBy
    by_cases h : (r + 2 ^ k) * (r + 2 ^ k) ≤ n
    · rw [if_pos h]
      refine rootBy_is n k (r + 2 ^ k) h ?_
      rw [Nat.pow_succ] at h2
      have e : r + 2 ^ k + 2 ^ k = r + 2 ^ k * 2 := by omega
      rw [e]
      exact h2
    · rw [if_neg h]
      exact rootBy_is n k r h1 (by omega)
theorem root_is {n : Nat} (h : n < 18446744073709551616) : Sh67.root n * Sh67.root n ≤ n ∧ n < (Sh67.root n + 1) * (Sh67.root n + 1) :=
  rootBy_is n 32 0 (Nat.zero_le _) (by rw [Nat.zero_add]; exact h)
theorem root_unique {n r : Nat} (h : n < 18446744073709551616) (h1 : r * r ≤ n) (h2 : n < (r + 1) * (r + 1)) : Sh67.root n = r := by
  obtain ⟨a1, a2⟩ := root_is h
  have lt_of : ∀ {x y : Nat}, x * x < y * y → x < y := fun {x y} e => by
    apply Decidable.byContradiction
    intro z
    have := Nat.mul_le_mul (show y ≤ x by omega) (show y ≤ x by omega)
    omega
  have e1 : Sh67.root n < r + 1 := lt_of (Nat.lt_of_le_of_lt a1 h2)
  have e2 : r < Sh67.root n + 1 := lt_of (Nat.lt_of_le_of_lt h1 a2)
  omega
/-- the whole root of a whole number -/
def rootZ (n : Int) : Int := (Sh67.root n.toNat : Nat)
theorem rootZ_unique {n r : Int} (hn : 0 ≤ n) (h : n < 18446744073709551616) (hr : 0 ≤ r) (h1 : r * r ≤ n) (h2 : n < (r + 1) * (r + 1)) : rootZ n = r := by
  unfold rootZ
  obtain ⟨m, rfl⟩ : ∃ m : Nat, n = (m : Int) := ⟨n.toNat, by omega⟩
  obtain ⟨s, rfl⟩ : ∃ s : Nat, r = (s : Int) := ⟨r.toNat, by omega⟩
  have e : Sh67.root m = s := root_unique (by omega) (by exact_mod_cast h1) (by exact_mod_cast h2)
  show ((Sh67.root m : Nat) : Int) = (s : Int)
  rw [e]
theorem rootZ_is {n : Int} (hn : 0 ≤ n) (h : n < 18446744073709551616) : 0 ≤ rootZ n ∧ rootZ n * rootZ n ≤ n ∧ n < (rootZ n + 1) * (rootZ n + 1) := by
  unfold rootZ
  obtain ⟨m, rfl⟩ : ∃ m : Nat, n = (m : Int) := ⟨n.toNat, by omega⟩
  obtain ⟨a1, a2⟩ := root_is (n := m) (by omega)
  refine ⟨by omega, ?_, ?_⟩
  · show ((Sh67.root m : Nat) : Int) * ((Sh67.root m : Nat) : Int) ≤ (m : Int)
    exact_mod_cast a1
  · show (m : Int) < (((Sh67.root m : Nat) : Int) + 1) * (((Sh67.root m : Nat) : Int) + 1)
    exact_mod_cast a2
/-! ### ap_root -/
theorem few_iff (n : Nat) : Sh67.few n = true ↔ n ≤ 1024 := by
  unfold Sh67.few
  simp
theorem root_eq (l : List Int) : PySh67.ap_root l = told (Sh67.answer (if Sh67.few (nats l).length = true then .root (nats l) else .bad)) := rfl
theorem root_bad {l : List Int} (n : ¬ l.length ≤ 1024) : PySh67.ap_root l = [-2] := by
  rw [root_eq, if_neg]
  · rfl
  · rw [few_iff, nats_len]
    exact n
theorem ints_mapz (k : Nat → Nat) (l : List Int) : Sh67Neutral.ints ((nats l).map k) = l.map fun z => ((k z.toNat : Nat) : Int) := by
  unfold Sh67Neutral.ints nats
  rw [List.map_map, List.map_map]
  rfl
theorem root_good {l : List Int} (n : l.length ≤ 1024) : PySh67.ap_root l = 0 :: l.map rootZ := by
  rw [root_eq, if_pos]
  · show (0 : Int) :: Sh67Neutral.ints ((nats l).map Sh67.root) = _
    rw [ints_mapz]
    rfl
  · rw [few_iff, nats_len]
    exact n
/-! ### ap_power -/
def powZ (n : Int) : Int := (Sh67.log2 n.toNat : Nat)
theorem power_eq (l : List Int) : PySh67.ap_power l = told (Sh67.answer (if Sh67.few (nats l).length = true then .power (nats l) else .bad)) := rfl
theorem power_bad {l : List Int} (n : ¬ l.length ≤ 1024) : PySh67.ap_power l = [-2] := by
  rw [power_eq, if_neg]
  · rfl
  · rw [few_iff, nats_len]
    exact n
theorem all_pos (l : List Int) (h : ∀ z ∈ l, 0 ≤ z) : (nats l).all (fun x => decide (0 < x)) = true ↔ ∀ z ∈ l, z ≠ 0 := by
  rw [List.all_eq_true]
  unfold nats
  constructor
  · intro a z hz e
    have := a z.toNat (List.mem_map_of_mem hz)
    rw [decide_eq_true_eq] at this
    omega
  · intro a x hx
    obtain ⟨z, hz, rfl⟩ := List.mem_map.mp hx
    have h1 := a z hz
    have h2 := h z hz
    rw [decide_eq_true_eq]
    omega
theorem power_none {l : List Int} (h : ∀ z ∈ l, 0 ≤ z) (n : l.length ≤ 1024) (e : ¬ ∀ z ∈ l, z ≠ 0) : PySh67.ap_power l = [-3] := by
  rw [power_eq, if_pos (by rw [few_iff, nats_len]; exact n)]
  show told (if (nats l).all (fun x => decide (0 < x)) = false then Sh67.fail (-3) else Sh67.done [(nats l).map Sh67.log2]) = _
  rw [if_pos]
  · rfl
  · cases q : (nats l).all (fun x => decide (0 < x)) with
    | false => rfl
    | true => exact absurd ((all_pos l h).mp q) e
theorem power_good {l : List Int} (h : ∀ z ∈ l, 0 ≤ z) (n : l.length ≤ 1024) (e : ∀ z ∈ l, z ≠ 0) : PySh67.ap_power l = 0 :: l.map powZ := by
  rw [power_eq, if_pos (by rw [few_iff, nats_len]; exact n)]
  show told (if (nats l).all (fun x => decide (0 < x)) = false then Sh67.fail (-3) else Sh67.done [(nats l).map Sh67.log2]) = _
  rw [if_neg (by rw [(all_pos l h).mpr e]; exact Bool.noConfusion)]
  show (0 : Int) :: Sh67Neutral.ints ((nats l).map Sh67.log2) = _
  rw [ints_mapz]
  rfl
/-- the twelve squarings, over whole numbers -/
def bitsZ : Nat → Int → Int → Int
  | 0, _, a => a
  | k + 1, m, a => if 2147483648 ≤ m * m / 1073741824 then bitsZ k (m * m / 1073741824 / 2) (2 * a + 1) else bitsZ k (m * m / 1073741824) (2 * a)
theorem bits_is : ∀ (k m a : Nat), ((Sh67.bitsBy k m a : Nat) : Int) = bitsZ k m a
  | 0, _, _ => rfl
  | k + 1, m, a => by
    unfold Sh67.bitsBy bitsZ
    dsimp only
    have e : ((m * m / 2 ^ 30 : Nat) : Int) = (m : Int) * m / 1073741824 := by
      rw [Int.natCast_ediv, Int.natCast_mul]
      rfl
    rw [← e]
    by_cases h : 2 ^ 31 ≤ m * m / 2 ^ 30
    · rw [if_pos h, if_pos (by omega), bits_is k]
      have e2 : ((m * m / 2 ^ 30 / 2 : Nat) : Int) = ((m * m / 2 ^ 30 : Nat) : Int) / 2 := by omega
      have e3 : ((2 * a + 1 : Nat) : Int) = 2 * (a : Int) + 1 := by omega
      rw [e2, e3]
    · rw [if_neg h, if_neg (by omega), bits_is k]
      have e3 : ((2 * a : Nat) : Int) = 2 * (a : Int) := by omega
      rw [e3]
/-- the first m of a number n whose greatest power of two is e -/
def startZ (n : Int) (e : Nat) : Int := if e ≤ 30 then n * 2 ^ (30 - e) else n / 2 ^ (e - 30)
theorem pow_cast (k : Nat) : ((2 ^ k : Nat) : Int) = (2 : Int) ^ k := Int.natCast_pow 2 k
theorem powZ_is {n : Int} {e : Nat} (h1 : 2 ^ e ≤ n.toNat) (h2 : n.toNat < 2 ^ (e + 1)) : powZ n = bitsZ 12 (startZ n e) e := by
  have hn : n.toNat ≠ 0 := fun z => by
    rw [z] at h1
    have := Nat.two_pow_pos e
    omega
  have el : n.toNat.log2 = e := by
    have a1 := (Nat.le_log2 hn).mpr h1
    have a2 := (Nat.log2_lt hn).mpr h2
    omega
  have en : ((n.toNat : Nat) : Int) = n := by omega
  unfold powZ Sh67.log2
  dsimp only
  rw [el, bits_is]
  unfold startZ
  by_cases he : e ≤ 30
  · rw [if_pos he, if_pos he, Int.natCast_mul, en, pow_cast]
  · rw [if_neg he, if_neg he, Int.natCast_ediv, en, pow_cast]
/-! ### ap_magnitude -/
def magZ (a b : Int) : Int := Sh67.near ((powZ b - powZ a) * 7526) 40960 % 4294967296
theorem mag_eq (a b : List Int) : PySh67.ap_magnitude a b = told (Sh67.answer (if Sh67.few (nats a).length = true then .magnitude (nats a) (nats b) else .bad)) := rfl
theorem mag_len {a b : List Int} (q : PySh67.ap_magnitude_asked a b = true) (n : a.length ≤ 1024) : b.length = a.length := by
  have q := asked_of q
  unfold asked1 at q
  simp only [Bool.and_eq_true] at q
  have e := q.2.2
  rw [if_pos (by rw [few_iff, nats_len]; exact n), Bool.and_eq_true, beq_iff_eq, beq_iff_eq, nats_len] at e
  exact e.2
theorem mag_bad {a b : List Int} (n : ¬ a.length ≤ 1024) : PySh67.ap_magnitude a b = [-2] := by
  rw [mag_eq, if_neg]
  · rfl
  · rw [few_iff, nats_len]
    exact n
theorem mag_none {a b : List Int} (ha : ∀ z ∈ a, 0 ≤ z) (hb : ∀ z ∈ b, 0 ≤ z) (n : a.length ≤ 1024) (e : ¬ ((∀ z ∈ a, z ≠ 0) ∧ (∀ z ∈ b, z ≠ 0))) : PySh67.ap_magnitude a b = [-3] := by
  rw [mag_eq, if_pos (by rw [few_iff, nats_len]; exact n)]
  show told (if (nats a).all (fun x => decide (0 < x)) = false ∨ (nats b).all (fun x => decide (0 < x)) = false then Sh67.fail (-3) else Sh67.done [((nats a).zip (nats b)).map fun p => Sh67.wordOf (Sh67.magnitude p.1 p.2)]) = _
  rw [if_pos]
  · rfl
  · cases q : (nats a).all (fun x => decide (0 < x)) with
    | false => exact .inl rfl
    | true =>
      cases q2 : (nats b).all (fun x => decide (0 < x)) with
      | false => exact .inr rfl
      | true => exact absurd ⟨(all_pos a ha).mp q, (all_pos b hb).mp q2⟩ e
theorem zip_nats : ∀ a b : List Int, (nats a).zip (nats b) = (a.zip b).map fun p => (p.1.toNat, p.2.toNat) := fun a b => by
  unfold nats
  rw [List.zip_map]
  rfl
theorem mag_good {a b : List Int} (ha : ∀ z ∈ a, 0 ≤ z) (hb : ∀ z ∈ b, 0 ≤ z) (n : a.length ≤ 1024) (e : (∀ z ∈ a, z ≠ 0) ∧ (∀ z ∈ b, z ≠ 0)) : PySh67.ap_magnitude a b = 0 :: (a.zip b).map fun p => magZ p.1 p.2 := by
  rw [mag_eq, if_pos (by rw [few_iff, nats_len]; exact n)]
  show told (if (nats a).all (fun x => decide (0 < x)) = false ∨ (nats b).all (fun x => decide (0 < x)) = false then Sh67.fail (-3) else Sh67.done [((nats a).zip (nats b)).map fun p => Sh67.wordOf (Sh67.magnitude p.1 p.2)]) = _
  rw [if_neg (by rw [(all_pos a ha).mpr e.1, (all_pos b hb).mpr e.2]; rintro (z | z) <;> cases z)]
  show (0 : Int) :: Sh67Neutral.ints (((nats a).zip (nats b)).map fun p => Sh67.wordOf (Sh67.magnitude p.1 p.2)) = _
  rw [zip_nats, ints_map, List.map_map]
  refine congrArg _ (List.map_congr_left fun p _ => ?_)
  show (((Sh67.near (((Sh67.log2 p.2.toNat : Nat) - (Sh67.log2 p.1.toNat : Nat) : Int) * 7526) 40960 % 4294967296).toNat : Nat) : Int) = _
  rw [Int.toNat_of_nonneg (Int.emod_nonneg _ (by decide))]
  rfl
/-! ### ap_shape -/
def s32 (z : Int) : Int := if z < 2147483648 then z else z - 4294967296
theorem int32_is {z : Int} (h : 0 ≤ z) : Sh67.int32 z.toNat = s32 z := by
  unfold Sh67.int32 s32
  by_cases e : z < 2147483648
  · rw [if_pos e, if_pos (by omega)]
    omega
  · rw [if_neg e, if_neg (by omega)]
    omega
def th (l : List Int) (j : Nat) : Int × Int × Int := (s32 (l.getD (3 * j) 0), s32 (l.getD (3 * j + 1) 0), s32 (l.getD (3 * j + 2) 0))
theorem threes_is : ∀ (n : Nat) (l : List Int), (∀ z ∈ l, 0 ≤ z) → l.length = 3 * n → Sh67.threes (nats l) = (List.range n).map (th l)
  | 0, l, _, e => by
    have e : l = [] := List.eq_nil_of_length_eq_zero (by omega)
    subst e
    rfl
  | n + 1, l, h, e => by
    match l, h, e with
    | [], _, e => simp at e; 
    | [_], _, e => simp at e; omega
    | [_, _], _, e => simp at e; omega
    | a :: b :: c :: l, h, e =>
      have ih := threes_is n l (fun z hz => h z (List.mem_cons_of_mem _ (List.mem_cons_of_mem _ (List.mem_cons_of_mem _ hz)))) (by simp at e; omega)
      show (Sh67.int32 a.toNat, Sh67.int32 b.toNat, Sh67.int32 c.toNat) :: Sh67.threes (nats l) = _
      rw [ih, int32_is (h a (by simp)), int32_is (h b (by simp)), int32_is (h c (by simp)), List.range_succ_eq_map, List.map_cons, List.map_map]
      refine congr (congrArg List.cons rfl) (List.map_congr_left fun j _ => ?_)
      show th l j = th (a :: b :: c :: l) (j + 1)
      unfold th
      rw [show 3 * (j + 1) = 3 * j + 3 by omega, show 3 * j + 3 + 1 = 3 * j + 1 + 3 by omega, show 3 * j + 3 + 2 = 3 * j + 2 + 3 by omega]
      rfl
/-- widths that there may be -/
def WideOk (p : Int × Int × Int) : Prop := (0 ≤ p.1 ∧ p.1 ≤ 33554432) ∧ (0 ≤ p.2.1 ∧ p.2.1 ≤ 33554432) ∧ (-33554432 ≤ p.2.2 ∧ p.2.2 ≤ 33554432)
theorem wide_iff (p : Int × Int × Int) : Sh67.wide p = true ↔ WideOk p := by
  unfold Sh67.wide WideOk
  simp only [Bool.and_eq_true, decide_eq_true_eq]
  omega
def wayZ (a b c : Int) : Int := if (2 * c).natAbs < (a - b).natAbs then (if b < a then 0 else 2) else (if 0 ≤ c then 1 else 3)
def shapeOf (p : Int × Int × Int) : List Int :=
  [(p.1 + p.2.1 + rootZ ((p.1 - p.2.1) * (p.1 - p.2.1) + 4 * p.2.2 * p.2.2)) % 4294967296, (p.1 + p.2.1 - rootZ ((p.1 - p.2.1) * (p.1 - p.2.1) + 4 * p.2.2 * p.2.2)) % 4294967296, wayZ p.1 p.2.1 p.2.2]
theorem shape_eq (l : List Int) : PySh67.ap_shape l = told (Sh67.answer (if Sh67.few ((nats l).length / 3) = true then .shape (nats l) else .bad)) := rfl
theorem shape_len {l : List Int} (q : PySh67.ap_shape_asked l = true) : l.length = 3 * (l.length / 3) := by
  have q := asked_of q
  unfold asked1 at q
  simp only [Bool.and_eq_true] at q
  have e := q.2
  rw [nats_len] at e
  by_cases h : Sh67.few (l.length / 3) = true
  · rw [if_pos h, beq_iff_eq] at e
    exact e
  · rw [if_neg h, Bool.or_eq_true, beq_iff_eq] at e
    rcases e with e | e
    · have := List.isEmpty_iff.mp e
      rw [this]
      rfl
    · exact e
theorem shape_bad {l : List Int} (n : ¬ l.length / 3 ≤ 1024) : PySh67.ap_shape l = [-2] := by
  rw [shape_eq, if_neg]
  · rfl
  · rw [few_iff, nats_len]
    exact n
theorem wide_all {l : List Int} (h : ∀ z ∈ l, 0 ≤ z) (hl : l.length = 3 * (l.length / 3)) : (Sh67.threes (nats l)).all Sh67.wide = true ↔ ∀ j, j < l.length / 3 → WideOk (th l j) := by
  rw [threes_is (l.length / 3) l h hl, List.all_eq_true]
  constructor
  · intro a j hj
    exact (wide_iff _).mp (a _ (List.mem_map_of_mem (List.mem_range.mpr hj)))
  · intro a x hx
    obtain ⟨j, hj, rfl⟩ := List.mem_map.mp hx
    exact (wide_iff _).mpr (a j (List.mem_range.mp hj))
theorem shape_none {l : List Int} (h : ∀ z ∈ l, 0 ≤ z) (hl : l.length = 3 * (l.length / 3)) (n : l.length / 3 ≤ 1024) (e : ¬ ∀ j, j < l.length / 3 → WideOk (th l j)) : PySh67.ap_shape l = [-3] := by
  rw [shape_eq, if_pos (by rw [few_iff, nats_len]; exact n)]
  show told (if (Sh67.threes (nats l)).all Sh67.wide = false then Sh67.fail (-3) else _) = _
  rw [if_pos]
  · rfl
  · cases q : (Sh67.threes (nats l)).all Sh67.wide with
    | false => rfl
    | true => exact absurd ((wide_all h hl).mp q) e
theorem shape_good {l : List Int} (h : ∀ z ∈ l, 0 ≤ z) (hl : l.length = 3 * (l.length / 3)) (n : l.length / 3 ≤ 1024) (e : ∀ j, j < l.length / 3 → WideOk (th l j)) : PySh67.ap_shape l = 0 :: flatTo (l.length / 3) fun j => shapeOf (th l j) := by
  rw [shape_eq, if_pos (by rw [few_iff, nats_len]; exact n)]
  show told (if (Sh67.threes (nats l)).all Sh67.wide = false then Sh67.fail (-3) else Sh67.done [(Sh67.threes (nats l)).flatMap fun p => [Sh67.wordOf (Sh67.axes p.1 p.2.1 p.2.2).1, Sh67.wordOf (Sh67.axes p.1 p.2.1 p.2.2).2, Sh67.way p.1 p.2.1 p.2.2]]) = _
  rw [if_neg (by rw [(wide_all h hl).mpr e]; exact Bool.noConfusion)]
  show (0 : Int) :: Sh67Neutral.ints ((Sh67.threes (nats l)).flatMap fun p => [Sh67.wordOf (Sh67.axes p.1 p.2.1 p.2.2).1, Sh67.wordOf (Sh67.axes p.1 p.2.1 p.2.2).2, Sh67.way p.1 p.2.1 p.2.2]) = _
  rw [threes_is (l.length / 3) l h hl, ints_flat, flat_map]
  unfold flatTo
  refine congrArg _ (flat_congr fun j _ => ?_)
  generalize th l j = p
  show [(((_ % 4294967296 : Int).toNat : Nat) : Int), (((_ % 4294967296 : Int).toNat : Nat) : Int), ((Sh67.way p.1 p.2.1 p.2.2 : Nat) : Int)] = shapeOf p
  rw [Int.toNat_of_nonneg (Int.emod_nonneg _ (by decide)), Int.toNat_of_nonneg (Int.emod_nonneg _ (by decide))]
  unfold shapeOf
  refine congr (congrArg List.cons rfl) (congr (congrArg List.cons rfl) (congrArg (fun z => [z]) ?_))
  unfold Sh67.way wayZ
  dsimp only
  split
  · split <;> rfl
  · split <;> rfl
end Ap
namespace Ap
open Sh67Neutral
/-! ### ap_radius: the least radius -/
def nsum : Nat → (Nat → Nat) → Nat
  | 0, _ => 0
  | n + 1, g => nsum n g + g n
/-- the light up to a radius -/
def pre (s : Array Nat) (n : Nat) : Nat := nsum n fun r => s.getD r 0
theorem nsum_congr {g g' : Nat → Nat} : ∀ {n : Nat}, (∀ i, i < n → g i = g' i) → nsum n g = nsum n g'
  | 0, _ => rfl
  | n + 1, h => by
    show nsum n g + g n = nsum n g' + g' n
    rw [nsum_congr fun i hi => h i (by omega), h n (by omega)]
theorem set_getD (s : Array Nat) {i : Nat} (hi : i < s.size) (v r : Nat) : (s.setIfInBounds i v).getD r 0 = if i = r then v else s.getD r 0 := by
  rw [Array.getD_eq_getD_getElem?, Array.getElem?_setIfInBounds, Array.getD_eq_getD_getElem?]
  by_cases h : i = r
  · rw [if_pos h, if_pos h, if_pos hi]
    rfl
  · rw [if_neg h, if_neg h]
theorem pre_set (s : Array Nat) {i : Nat} (hi : i < s.size) (v : Nat) : ∀ n, pre (s.setIfInBounds i (s.getD i 0 + v)) n = pre s n + if i < n then v else 0
  | 0 => by
    rw [if_neg (by omega)]
    rfl
  | n + 1 => by
    have ih := pre_set s hi v n
    unfold pre at ih ⊢
    show nsum n _ + (s.setIfInBounds i (s.getD i 0 + v)).getD n 0 = nsum n _ + s.getD n 0 + _
    rw [ih, set_getD s hi]
    by_cases h : i = n
    · subst h
      rw [if_pos rfl, if_neg (by omega), if_pos (by omega)]
      omega
    · rw [if_neg h]
      by_cases h2 : i < n
      · rw [if_pos h2, if_pos (by omega)]
        omega
      · rw [if_neg h2, if_neg (by omega)]
        omega
/-- the least whole number whose square isn't below -/
def ceilR (d : Nat) : Nat := if Sh67.root d * Sh67.root d = d then Sh67.root d else Sh67.root d + 1
theorem ceil_le {d R : Nat} (hd : d < 18446744073709551616) : ceilR d ≤ R ↔ d ≤ R * R := by
  obtain ⟨a1, a2⟩ := root_is hd
  have le_of : ∀ {x y : Nat}, x ≤ y → x * x ≤ y * y := fun e => Nat.mul_le_mul e e
  unfold ceilR
  constructor
  · intro h
    split at h
    · have := le_of h
      omega
    · have := le_of h
      omega
  · intro h
    split
    · apply Decidable.byContradiction
      intro z
      have := le_of (show R + 1 ≤ Sh67.root d by omega)
      rw [Nat.add_mul, Nat.mul_add] at this
      omega
    · apply Decidable.byContradiction
      intro z
      have := le_of (show R ≤ Sh67.root d by omega)
      omega
/-- one point's turn -/
def turn (x y : Int) (most w v i : Nat) (s : Array Nat) (p : Nat × Nat) : Array Nat :=
  if ((64 * (i % w) + p.1 : Nat) - x : Int) * ((64 * (i % w) + p.1 : Nat) - x) + ((64 * (i / w) + p.2 : Nat) - y : Int) * ((64 * (i / w) + p.2 : Nat) - y) ≤ (most * most : Nat) then
    s.setIfInBounds (ceilR (((64 * (i % w) + p.1 : Nat) - x : Int) * ((64 * (i % w) + p.1 : Nat) - x) + ((64 * (i / w) + p.2 : Nat) - y : Int) * ((64 * (i / w) + p.2 : Nat) - y)).toNat)
      (s.getD (ceilR (((64 * (i % w) + p.1 : Nat) - x : Int) * ((64 * (i % w) + p.1 : Nat) - x) + ((64 * (i / w) + p.2 : Nat) - y : Int) * ((64 * (i / w) + p.2 : Nat) - y)).toNat) 0 + v) else s
theorem turn_pre {x y : Int} {most w v i : Nat} {s : Array Nat} {p : Nat × Nat} {R : Nat} (hm : most ≤ 512) (hR : R ≤ most) (hs : s.size = most + 1) :
    (turn x y most w v i s p).size = most + 1 ∧ pre (turn x y most w v i s p) (R + 1) = pre s (R + 1) +
      if ((64 * (i % w) + p.1 : Nat) - x : Int) * ((64 * (i % w) + p.1 : Nat) - x) + ((64 * (i / w) + p.2 : Nat) - y : Int) * ((64 * (i / w) + p.2 : Nat) - y) ≤ (R : Int) * R then v else 0 := by
  unfold turn
  have sqn : ∀ z : Int, 0 ≤ z * z := fun z => by
    rcases Int.le_total 0 z with h | h
    · exact Int.mul_nonneg h h
    · have := Int.mul_nonneg (show 0 ≤ -z by omega) (show 0 ≤ -z by omega)
      rw [Int.neg_mul_neg] at this
      exact this
  have h0 := Int.add_nonneg (sqn (((64 * (i % w) + p.1 : Nat) : Int) - x)) (sqn (((64 * (i / w) + p.2 : Nat) : Int) - y))
  generalize (((64 * (i % w) + p.1 : Nat) : Int) - x) * (((64 * (i % w) + p.1 : Nat) : Int) - x) + (((64 * (i / w) + p.2 : Nat) : Int) - y) * (((64 * (i / w) + p.2 : Nat) : Int) - y) = d at h0 ⊢
  have m1 : most * most ≤ 512 * 512 := Nat.mul_le_mul hm hm
  have m2 : R * R ≤ most * most := Nat.mul_le_mul hR hR
  have eR : (R : Int) * R = ((R * R : Nat) : Int) := (Int.natCast_mul R R).symm
  rw [eR]
  by_cases hd : d ≤ ((most * most : Nat) : Int)
  · rw [if_pos hd]
    have hd2 : d.toNat < 18446744073709551616 := by omega
    have c1 : ceilR d.toNat ≤ most := (ceil_le hd2).mpr (by omega)
    refine ⟨by rw [Array.size_setIfInBounds]; exact hs, ?_⟩
    rw [pre_set s (by omega)]
    have c2 := ceil_le (R := R) hd2
    by_cases hq : ceilR d.toNat < R + 1
    · rw [if_pos hq, if_pos]
      have := c2.mp (by omega)
      omega
    · rw [if_neg hq, if_neg]
      intro z
      exact hq (by have := c2.mpr (by omega); omega)
  · rw [if_neg hd, if_neg (by omega)]
    exact ⟨hs, rfl⟩
/-- a fold whose turns each add their part -/
theorem fold_pre {α : Type} {most R : Nat} (st : Array Nat → α → Array Nat) (g : α → Nat) : ∀ (l : List α) (s : Array Nat), (∀ a ∈ l, ∀ s : Array Nat, s.size = most + 1 → (st s a).size = most + 1 ∧ pre (st s a) (R + 1) = pre s (R + 1) + g a) → s.size = most + 1 →
    (l.foldl st s).size = most + 1 ∧ pre (l.foldl st s) (R + 1) = pre s (R + 1) + (l.map g).sum
  | [], s, _, hs => ⟨hs, rfl⟩
  | a :: r, s, h, hs => by
    obtain ⟨h1, h2⟩ := h a (List.mem_cons_self ..) s hs
    obtain ⟨h3, h4⟩ := fold_pre st g r (st s a) (fun b hb => h b (List.mem_cons_of_mem _ hb)) h1
    refine ⟨h3, ?_⟩
    rw [List.foldl_cons, h4, h2, List.map_cons, List.sum_cons]
    omega
theorem filt_sum {α : Type} (p : α → Bool) (v : Nat) : ∀ l : List α, (l.map fun a => if p a = true then v else 0).sum = (l.filter p).length * v
  | [] => by simp
  | a :: r => by
    rw [List.map_cons, List.sum_cons, filt_sum p v r, List.filter_cons]
    by_cases h : p a = true
    · rw [if_pos h, if_pos h, List.length_cons, Nat.add_mul]
      omega
    · rw [if_neg h, if_neg h]
      omega
theorem pre_zero (n m : Nat) : pre (Array.replicate m 0) n = 0 := by
  unfold pre
  induction n with
  | zero => rfl
  | succ k ih =>
    show nsum k _ + (Array.replicate m 0).getD k 0 = 0
    rw [ih, Array.getD_eq_getD_getElem?, Array.getElem?_replicate]
    split <;> rfl
theorem lights_is (w h : Nat) (f : List Nat) (x y : Int) (most : Nat) : Sh67.lights w h f x y most = (List.range (w * h)).foldl (fun s i => Sh67.points.foldl (turn x y most w (f.toArray.getD i 0) i) s) (Array.replicate (most + 1) 0) := rfl
theorem lights_pre (w h : Nat) (f : List Nat) (x y : Int) {most R : Nat} (hm : most ≤ 512) (hR : R ≤ most) :
    (Sh67.lights w h f x y most).size = most + 1 ∧ pre (Sh67.lights w h f x y most) (R + 1) = ((List.range (w * h)).map fun i => Sh67.part x y R (i % w) (i / w) * f.toArray.getD i 0).sum := by
  rw [lights_is]
  have key := fold_pre (most := most) (R := R) (fun (s : Array Nat) (i : Nat) => Sh67.points.foldl (turn x y most w (f.toArray.getD i 0) i) s) (fun i => Sh67.part x y R (i % w) (i / w) * f.toArray.getD i 0) (List.range (w * h)) (Array.replicate (most + 1) 0) ?_ (by rw [Array.size_replicate])
  · rw [pre_zero, Nat.zero_add] at key
    exact key
  · intro i _ s hs
    have q := fold_pre (most := most) (R := R) (turn x y most w (f.toArray.getD i 0) i) (fun p => if ((64 * (i % w) + p.1 : Nat) - x : Int) * ((64 * (i % w) + p.1 : Nat) - x) + ((64 * (i / w) + p.2 : Nat) - y : Int) * ((64 * (i / w) + p.2 : Nat) - y) ≤ (R : Int) * R then f.toArray.getD i 0 else 0) Sh67.points s (fun p _ s hs => turn_pre hm hR hs) hs
    refine ⟨q.1, ?_⟩
    rw [q.2]
    unfold Sh67.part
    rw [← filt_sum]
    simp only [decide_eq_true_eq]
theorem list_foldl (l : List Nat) : ∀ b : Nat, l.foldl (fun s n => s + n) b = b + l.sum := by
  induction l with
  | nil => intro b; simp
  | cons a r ih =>
    intro b
    rw [List.foldl_cons, ih, List.sum_cons]
    omega
theorem sum_pre : ∀ (l : List Nat) , l.sum = nsum l.length fun r => l.getD r 0 := by
  intro l
  have : ∀ n, n ≤ l.length → (l.take n).sum = nsum n fun r => l.getD r 0 := by
    intro n
    induction n with
    | zero => intro _; rfl
    | succ k ih =>
      intro hk
      show _ = nsum k _ + l.getD k 0
      rw [← ih (by omega), List.take_add_one, List.sum_append, List.getD_eq_getElem?_getD]
      rw [List.getElem?_eq_getElem (by omega)]
      simp
  have e := this l.length (Nat.le_refl _)
  rw [List.take_length] at e
  exact e
theorem all_pre (s : Array Nat) : s.foldl (fun (s n : Nat) => s + n) 0 = pre s s.size := by
  rw [← Array.foldl_toList, list_foldl, Nat.zero_add, sum_pre, Array.length_toList]
  unfold pre
  refine nsum_congr fun i _ => ?_
  rw [List.getD_eq_getElem?_getD, Array.getD_eq_getD_getElem?, Array.getElem?_toList]
theorem first_is (k all : Nat) (a : Array Nat) : ∀ (n r b : Nat), b = pre a r → (r ≤ Sh67.firstWith k all a n r b ∧ Sh67.firstWith k all a n r b ≤ r + n) ∧
    (Sh67.firstWith k all a n r b = r + n ∨ k * all ≤ 256 * pre a (Sh67.firstWith k all a n r b + 1)) ∧ ∀ j, r ≤ j → j < Sh67.firstWith k all a n r b → ¬ k * all ≤ 256 * pre a (j + 1)
  | 0, r, b, _ => ⟨⟨Nat.le_refl _, Nat.le_refl _⟩, .inl rfl, fun j h1 h2 => absurd h2 (by show ¬ j < r; omega)⟩
  | n + 1, r, b, hb => by
    unfold Sh67.firstWith
    dsimp only
    have e : b + a.getD r 0 = pre a (r + 1) := by
      rw [hb]
      rfl
    rw [e]
    by_cases h : k * all ≤ 256 * pre a (r + 1)
    · rw [if_pos h]
      exact ⟨⟨Nat.le_refl _, by omega⟩, .inr h, fun j h1 h2 => by omega⟩
    · rw [if_neg h]
      obtain ⟨⟨a1, a2⟩, a3, a4⟩ := first_is k all a n (r + 1) (pre a (r + 1)) rfl
      refine ⟨⟨by omega, by omega⟩, ?_, fun j h1 h2 => ?_⟩
      · rcases a3 with e | e
        · exact .inl (by omega)
        · exact .inr e
      · by_cases hj : j = r
        · subst hj
          exact h
        · exact a4 j (by omega) h2
/-- the light within a radius, over whole numbers -/
theorem light_is (w h : Nat) (f : List Int) (x y : Int) {most R : Nat} (hm : most ≤ 512) (hR : R ≤ most) (hf : ∀ z ∈ f, 0 ≤ z) : ((pre (Sh67.lights w h (nats f) x y most) (R + 1) : Nat) : Int) = apN w h f x y R := by
  rw [(lights_pre w h (nats f) x y hm hR).2, cast_sum, List.map_map, sum_rows]
  unfold apN
  refine sumTo_congr fun q _ => sumTo_congr fun c hc => ?_
  obtain ⟨e1, e2, e3⟩ := at_rows q hc
  show ((Sh67.part x y R ((w * q + c) % w) ((w * q + c) / w) * (nats f).toArray.getD (w * q + c) 0 : Nat) : Int) = _
  rw [e1, e2, Int.natCast_mul, part_is, nats_getD f _ hf, e3, Int.mul_comm]
/-- the least radius: what it is, and that it is the only one -/
theorem radius_is (w h : Nat) (f : List Int) (x y : Int) {most k : Nat} (hm : most ≤ 512) (hk : k ≤ 256) (hf : ∀ z ∈ f, 0 ≤ z) :
    Sh67.radius w h (nats f) x y most k ≤ most ∧ (k : Int) * apN w h f x y most ≤ 256 * apN w h f x y (Sh67.radius w h (nats f) x y most k : Nat) ∧
      ∀ j : Nat, j < Sh67.radius w h (nats f) x y most k → ¬ (k : Int) * apN w h f x y most ≤ 256 * apN w h f x y j := by
  obtain ⟨⟨_, a1⟩, a2, a3⟩ := first_is k ((Sh67.lights w h (nats f) x y most).foldl (fun (s n : Nat) => s + n) 0) (Sh67.lights w h (nats f) x y most) most 0 0 rfl
  have er : Sh67.firstWith k ((Sh67.lights w h (nats f) x y most).foldl (fun (s n : Nat) => s + n) 0) (Sh67.lights w h (nats f) x y most) most 0 0 = Sh67.radius w h (nats f) x y most k := rfl
  rw [er] at a1 a2 a3
  have ea : (Sh67.lights w h (nats f) x y most).foldl (fun (s n : Nat) => s + n) 0 = pre (Sh67.lights w h (nats f) x y most) (most + 1) := by
    rw [all_pre, (lights_pre w h (nats f) x y hm (Nat.le_refl most)).1]
  rw [ea] at a2 a3
  have hM := light_is w h f x y hm (Nat.le_refl most) hf
  have hle : Sh67.radius w h (nats f) x y most k ≤ most := by omega
  refine ⟨hle, ?_, fun j hj => ?_⟩
  · rw [← hM, ← light_is w h f x y hm hle hf]
    rcases a2 with e | e
    · rw [Nat.zero_add] at e
      rw [e]
      have : k * pre (Sh67.lights w h (nats f) x y most) (most + 1) ≤ 256 * pre (Sh67.lights w h (nats f) x y most) (most + 1) := Nat.mul_le_mul_right _ hk
      rw [← Int.natCast_mul]
      omega
    · rw [← Int.natCast_mul]
      omega
  · have := a3 j (Nat.zero_le _) hj
    rw [← hM, ← light_is w h f x y hm (show j ≤ most by omega) hf]
    intro z
    rw [← Int.natCast_mul] at z
    exact this (by omega)
theorem radius_unique (w h : Nat) (f : List Int) (x y : Int) {most k R : Nat} (hm : most ≤ 512) (hk : k ≤ 256) (hf : ∀ z ∈ f, 0 ≤ z) (h1 : (k : Int) * apN w h f x y most ≤ 256 * apN w h f x y R)
    (h2 : ∀ j : Nat, j < R → ¬ (k : Int) * apN w h f x y most ≤ 256 * apN w h f x y j) : Sh67.radius w h (nats f) x y most k = R := by
  obtain ⟨a1, a2, a3⟩ := radius_is w h f x y hm hk hf
  apply Nat.le_antisymm
  · apply Decidable.byContradiction
    intro z
    exact a3 R (by omega) h1
  · apply Decidable.byContradiction
    intro z
    exact h2 _ (by omega) a2
theorem radius_asked {m k w h : Int} {f xy : List Int} (q : PySh67.ap_radius_asked m k w h f xy = true) (hm : 0 ≤ m) (hk : 0 ≤ k) :
    xy.length = 2 * (xy.length / 2) ∧ (m ≤ 512 → k ≤ 256 → FrameOk w h xy → f.length = w.toNat * h.toNat) := by
  have q := asked_of q
  unfold asked1 at q
  simp only [Bool.and_eq_true] at q
  have e := even_of q.2.2.2.2.2.2
  refine ⟨e.1, fun h1 h2 h4 => e.2 ?_⟩
  obtain ⟨a1, a2, a3, a4, a5⟩ := h4
  rw [sized_iff, some_iff, decide_eq_true_eq, decide_eq_true_eq, nats_len]
  omega
theorem radius_eq (m k w h : Int) (f xy : List Int) : PySh67.ap_radius m k w h f xy = told (Sh67.answer (if (Sh67.sized w.toNat h.toNat && Sh67.some_ ((nats xy).length / 2) && (decide (m.toNat ≤ 512) && decide (k.toNat ≤ 256))) = true then .radius m.toNat k.toNat w.toNat h.toNat (nats f) (nats xy) else .bad)) := rfl
theorem radius_bad {m k w h : Int} {f xy : List Int} (q : PySh67.ap_radius_asked m k w h f xy = true) (hm : 0 ≤ m) (hk : 0 ≤ k) (n : ¬ (m ≤ 512 ∧ k ≤ 256 ∧ FrameOk w h xy)) : PySh67.ap_radius m k w h f xy = [-2] := by
  have e := (radius_asked q hm hk).1
  rw [radius_eq, if_neg]
  · rfl
  · simp only [Bool.and_eq_true]
    rw [sized_iff, some_iff, decide_eq_true_eq, decide_eq_true_eq, nats_len]
    intro z
    exact n ⟨by omega, by omega, by omega, by omega, by omega, by omega, by omega⟩
def radAt (m k w h : Int) (f xy : List Int) (j : Nat) : Int := ((Sh67.radius w.toNat h.toNat (nats f) (placeX xy j) (placeY xy j) m.toNat k.toNat : Nat) : Int)
theorem radius_good {m k w h : Int} {f xy : List Int} (hx : ∀ z ∈ xy, 0 ≤ z) (g : m ≤ 512 ∧ k ≤ 256 ∧ FrameOk w h xy) :
    PySh67.ap_radius m k w h f xy = 0 :: mapTo (xy.length / 2) (radAt m k w h f xy) := by
  obtain ⟨h0, h1, a1, a2, a3, a4, a5⟩ := g
  rw [radius_eq, if_pos]
  · show (0 : Int) :: Sh67Neutral.ints ((Sh67.pairsOf (nats xy)).map fun p => Sh67.radius w.toNat h.toNat (nats f) p.1 p.2 m.toNat k.toNat) = _
    rw [ints_map, pairs_is xy hx, List.map_map]
    unfold mapTo
    exact congrArg _ (List.map_congr_left fun j _ => rfl)
  · simp only [Bool.and_eq_true]
    rw [sized_iff, some_iff, decide_eq_true_eq, decide_eq_true_eq, nats_len]
    omega
end Ap
namespace Ap
open Sh67Neutral
/-! ### ap_radius: the points within most, as the program lists them -/
abbrev Pr := Int × Int
def total (l : List Pr) : Int := (l.map fun p => p.2).sum
def upTo (r : Int) (l : List Pr) : Int := (l.map fun p => if p.1 ≤ r then p.2 else 0).sum
/-- the points of a column (or row) that are near: which one, how far -/
def colPts (most z : Int) (k : Nat) : List Pr := ((gaps k z).filter fun g => decide (g ≤ most * most)).map fun g => ((k : Int), g)
def nearPts (most z : Int) (n : Nat) : List Pr := (List.range n).flatMap (colPts most z)
def lightAt (most : Int) (w : Nat) (f : List Int) (a b : Pr) : List Pr := if b.2 + a.2 ≤ most * most then [(b.2 + a.2, f.getD (a.1 * (w : Int) + b.1).toNat 0)] else []
def lightRow (most : Int) (w : Nat) (f : List Int) (xs : List Pr) (a : Pr) : List Pr := xs.flatMap (lightAt most w f a)
def lightOf (most : Int) (w : Nat) (f : List Int) (xs ys : List Pr) : List Pr := ys.flatMap (lightRow most w f xs)
theorem sq_nonneg (z : Int) : 0 ≤ z ^ 2 := by
  rw [sq]
  rcases Int.le_total 0 z with h | h
  · exact Int.mul_nonneg h h
  · have := Int.mul_nonneg (show 0 ≤ -z by omega) (show 0 ≤ -z by omega)
    rw [Int.neg_mul_neg] at this
    exact this
theorem gaps_nonneg {k z g : Int} (h : g ∈ gaps k z) : 0 ≤ g := by
  unfold gaps at h
  obtain ⟨s, _, rfl⟩ := List.mem_map.mp h
  exact sq_nonneg _
theorem nearPts_in {most z : Int} {n : Nat} {p : Pr} (h : p ∈ nearPts most z n) : (∃ k : Nat, k < n ∧ p.1 = (k : Int)) ∧ 0 ≤ p.2 ∧ p.2 ≤ most * most := by
  unfold nearPts at h
  obtain ⟨k, hk, h⟩ := List.mem_flatMap.mp h
  unfold colPts at h
  obtain ⟨g, hg, rfl⟩ := List.mem_map.mp h
  obtain ⟨h1, h2⟩ := List.mem_filter.mp hg
  exact ⟨⟨k, List.mem_range.mp hk, rfl⟩, gaps_nonneg h1, of_decide_eq_true h2⟩
theorem colPts_len (most z : Int) (k : Nat) : (colPts most z k).length ≤ 4 := by
  unfold colPts
  rw [List.length_map]
  exact Nat.le_trans (List.length_filter_le _ _) (Nat.le_refl 4)
theorem nearPts_succ (most z : Int) (n : Nat) : nearPts most z (n + 1) = nearPts most z n ++ colPts most z n := by
  unfold nearPts
  rw [List.range_succ, List.flatMap_append]
  simp
theorem nearPts_len (most z : Int) : ∀ n : Nat, (nearPts most z n).length ≤ 4 * n
  | 0 => Nat.le_refl 0
  | n + 1 => by
    have h1 := nearPts_len most z n
    have h2 := colPts_len most z n
    rw [nearPts_succ, List.length_append]
    omega
theorem flat_len {α β : Type} {g : α → List β} {k : Nat} (h : ∀ a, (g a).length ≤ k) : ∀ l : List α, (l.flatMap g).length ≤ l.length * k
  | [] => Nat.zero_le _
  | a :: r => by
    have h1 := flat_len h r
    have h2 := h a
    rw [List.flatMap_cons, List.length_append, List.length_cons, Nat.add_mul, Nat.one_mul]
    omega
theorem lightAt_len (most : Int) (w : Nat) (f : List Int) (a b : Pr) : (lightAt most w f a b).length ≤ 1 := by
  unfold lightAt
  split
  · exact Nat.le_refl 1
  · exact Nat.zero_le 1
theorem lightRow_len (most : Int) (w : Nat) (f : List Int) (xs : List Pr) (a : Pr) : (lightRow most w f xs a).length ≤ xs.length := by
  have := flat_len (lightAt_len most w f a) xs
  unfold lightRow
  omega
theorem lightOf_len (most : Int) (w : Nat) (f : List Int) (xs ys : List Pr) : (lightOf most w f xs ys).length ≤ ys.length * xs.length := flat_len (lightRow_len most w f xs) ys
theorem light_in {most : Int} {w : Nat} {f : List Int} {xs ys : List Pr} (hf : ∀ z ∈ f, 0 ≤ z) (hx : ∀ p ∈ xs, 0 ≤ p.2) (hy : ∀ p ∈ ys, 0 ≤ p.2) {p : Pr} (h : p ∈ lightOf most w f xs ys) : 0 ≤ p.1 ∧ p.1 ≤ most * most ∧ 0 ≤ p.2 := by
  unfold lightOf at h
  obtain ⟨a, ha, h⟩ := List.mem_flatMap.mp h
  unfold lightRow at h
  obtain ⟨b, hb, h⟩ := List.mem_flatMap.mp h
  unfold lightAt at h
  split at h
  · rename_i e
    have e2 := List.mem_singleton.mp h
    subst e2
    have h1 := hy a ha
    have h2 := hx b hb
    exact ⟨by show 0 ≤ b.2 + a.2; omega, e, getD_nonneg hf _⟩
  · cases h
/-! ### its sums are the apertures' -/
theorem filt_drop {α : Type} {p : α → Bool} {g : α → Int} : ∀ {l : List α}, (∀ a ∈ l, p a = false → g a = 0) → ((l.filter p).map g).sum = (l.map g).sum
  | [], _ => rfl
  | a :: r, h => by
    have ih := filt_drop (p := p) (g := g) (l := r) fun b hb => h b (List.mem_cons_of_mem _ hb)
    rw [List.filter_cons, List.map_cons, List.sum_cons, ← ih]
    cases e : p a with
    | true => rw [if_pos rfl, List.map_cons, List.sum_cons]
    | false =>
      rw [if_neg Bool.false_ne_true, h a (List.mem_cons_self ..) e]
      omega
theorem near_sum {most z : Int} (G : Pr → Int) (hG : ∀ (k : Nat) (g : Int), most * most < g → G ((k : Int), g) = 0) (n : Nat) : ((nearPts most z n).map G).sum = sumTo n fun k => ((gaps k z).map fun g => G ((k : Int), g)).sum := by
  unfold nearPts
  rw [flat_sum]
  unfold sumTo
  refine congrArg _ (List.map_congr_left fun k _ => ?_)
  unfold colPts
  rw [List.map_map]
  refine filt_drop fun g _ e => hG k g ?_
  have := of_decide_eq_false e
  omega
theorem sumTo_add (n : Nat) (g g' : Nat → Int) : sumTo n (fun i => g i + g' i) = sumTo n g + sumTo n g' := by
  induction n with
  | zero => rfl
  | succ k ih =>
    rw [sumTo_succ, sumTo_succ, sumTo_succ, ih]
    omega
theorem sumTo_nil (n : Nat) : sumTo n (fun _ => 0) = 0 := by
  induction n with
  | zero => rfl
  | succ k ih => rw [sumTo_succ, ih]; rfl
theorem swap_sum {α : Type} (n : Nat) (g : α → Nat → Int) : ∀ l : List α, (l.map fun a => sumTo n fun c => g a c).sum = sumTo n fun c => (l.map fun a => g a c).sum
  | [] => by
    show (0 : Int) = _
    exact (sumTo_nil n).symm
  | a :: r => by
    rw [List.map_cons, List.sum_cons, swap_sum n g r, ← sumTo_add]
    exact sumTo_congr fun c _ => by rw [List.map_cons, List.sum_cons]
theorem cnt1_mul (v dy r : Int) : ∀ l : List Int, (l.map fun dx => if dx + dy ≤ r then v else 0).sum = v * cnt1 l dy r
  | [] => by
    show (0 : Int) = v * 0
    rw [Int.mul_zero]
  | a :: l => by
    have ih := cnt1_mul v dy r l
    unfold cnt1 at ih ⊢
    rw [List.map_cons, List.sum_cons, ih, List.map_cons, List.sum_cons, Int.mul_add]
    split
    · rw [Int.mul_one]
    · rw [Int.mul_zero]
theorem cnt2_mul (v r : Int) (xs : List Int) : ∀ l : List Int, (l.map fun dy => v * cnt1 xs dy r).sum = v * cnt2 xs l r
  | [] => by
    show (0 : Int) = v * 0
    rw [Int.mul_zero]
  | a :: l => by
    have ih := cnt2_mul v r xs l
    unfold cnt2 at ih ⊢
    rw [List.map_cons, List.sum_cons, ih, List.map_cons, List.sum_cons, Int.mul_add]
theorem zero_sum {α : Type} {g : α → Int} : ∀ {l : List α}, (∀ a ∈ l, g a = 0) → (l.map g).sum = 0
  | [], _ => rfl
  | a :: r, h => by
    rw [List.map_cons, List.sum_cons, h a (List.mem_cons_self ..), zero_sum fun b hb => h b (List.mem_cons_of_mem _ hb)]
    rfl
theorem lightAt_sum {most r : Int} (hr : r ≤ most * most) (w : Nat) (f : List Int) (a b : Pr) : upTo r (lightAt most w f a b) = if b.2 + a.2 ≤ r then f.getD (a.1 * (w : Int) + b.1).toNat 0 else 0 := by
  unfold lightAt upTo
  by_cases h : b.2 + a.2 ≤ most * most
  · rw [if_pos h]
    show (if b.2 + a.2 ≤ r then _ else _) + 0 = _
    rw [Int.add_zero]
  · rw [if_neg h, if_neg (by omega)]
    rfl
theorem upTo_flat {α : Type} (r : Int) (k : α → List Pr) (l : List α) : upTo r (l.flatMap k) = (l.map fun a => upTo r (k a)).sum := flat_sum k _ l
theorem light_sum (w h : Nat) (f : List Int) (x y : Int) {most R : Int} (hR : R * R ≤ most * most) : upTo (R * R) (lightOf most w f (nearPts most x w) (nearPts most y h)) = apN w h f x y R := by
  unfold lightOf
  rw [upTo_flat]
  have e1 : ∀ a : Pr, upTo (R * R) (lightRow most w f (nearPts most x w) a) = ((nearPts most x w).map fun b => if b.2 + a.2 ≤ R * R then f.getD (a.1 * (w : Int) + b.1).toNat 0 else 0).sum := fun a => by
    unfold lightRow
    rw [upTo_flat]
    exact congrArg _ (List.map_congr_left fun b _ => lightAt_sum hR w f a b)
  rw [near_sum (fun a => upTo (R * R) (lightRow most w f (nearPts most x w) a)) (fun k g hg => ?_) h]
  · unfold apN
    refine sumTo_congr fun q _ => ?_
    have e2 : ∀ dy ∈ gaps q y, upTo (R * R) (lightRow most w f (nearPts most x w) ((q : Int), dy)) = sumTo w fun c => f.getD (q * w + c) 0 * cnt1 (gaps c x) dy (R * R) := fun dy hdy => by
      have h2 := gaps_nonneg hdy
      rw [e1, near_sum (fun b : Pr => if b.2 + dy ≤ R * R then f.getD ((q : Int) * (w : Int) + b.1).toNat 0 else 0) (fun k g hg => if_neg (by show ¬ g + dy ≤ R * R; omega)) w]
      refine sumTo_congr fun c _ => ?_
      have ei : ((q : Int) * (w : Int) + (c : Int)).toNat = q * w + c := by
        rw [← Int.natCast_mul, ← Int.natCast_add]
        rfl
      dsimp only
      rw [ei]
      exact cnt1_mul _ _ _ _
    rw [List.map_congr_left e2, swap_sum]
    exact sumTo_congr fun c _ => cnt2_mul _ _ _ _
  · rw [e1]
    refine zero_sum fun b hb => ?_
    have := (nearPts_in hb).2.1
    dsimp only
    rw [if_neg (by omega)]
/-! ### from the nearest on -/
theorem perm_sum {l m : List Int} (h : l.Perm m) : l.sum = m.sum := by
  induction h with
  | nil => rfl
  | cons a _ ih => rw [List.sum_cons, List.sum_cons, ih]
  | swap a b l =>
    simp only [List.sum_cons]
    omega
  | trans _ _ h1 h2 => exact h1.trans h2
theorem total_perm {l m : List Pr} (h : l.Perm m) : total l = total m := perm_sum (h.map _)
theorem upTo_perm {r : Int} {l m : List Pr} (h : l.Perm m) : upTo r l = upTo r m := perm_sum (h.map _)
theorem upTo_all {r : Int} : ∀ {l : List Pr}, (∀ p ∈ l, p.1 ≤ r) → upTo r l = total l := fun {l} h => by
  unfold upTo total
  exact congrArg _ (List.map_congr_left fun p hp => if_pos (h p hp))
theorem upTo_none {r : Int} {l : List Pr} (h : ∀ p ∈ l, r < p.1) : upTo r l = 0 := zero_sum fun p hp => if_neg (by have := h p hp; omega)
theorem sum_le {α : Type} {g g' : α → Int} : ∀ {l : List α}, (∀ a ∈ l, g a ≤ g' a) → (l.map g).sum ≤ (l.map g').sum
  | [], _ => Int.le_refl _
  | a :: r, h => by
    rw [List.map_cons, List.sum_cons, List.map_cons, List.sum_cons]
    have h1 := h a (List.mem_cons_self ..)
    have h2 := sum_le (l := r) (g := g) (g' := g') fun b hb => h b (List.mem_cons_of_mem _ hb)
    omega
theorem upTo_nonneg {r : Int} {l : List Pr} (h : ∀ p ∈ l, 0 ≤ p.2) : 0 ≤ upTo r l := by
  have := sum_le (l := l) (g := fun _ => (0 : Int)) (g' := fun p => if p.1 ≤ r then p.2 else 0) fun p hp => by
    have := h p hp
    split <;> omega
  rw [zero_sum fun _ _ => rfl] at this
  exact this
theorem upTo_le {r : Int} {l : List Pr} (h : ∀ p ∈ l, 0 ≤ p.2) : upTo r l ≤ total l := sum_le fun p hp => by
  have := h p hp
  split <;> omega
theorem upTo_app (r : Int) (l m : List Pr) : upTo r (l ++ m) = upTo r l + upTo r m := by
  unfold upTo
  rw [List.map_append, List.sum_append]
theorem total_nonneg {l : List Pr} (h : ∀ p ∈ l, 0 ≤ p.2) : 0 ≤ total l := by
  have := upTo_le (r := 0) h
  have := upTo_nonneg (r := 0) h
  omega
theorem total_take {l : List Pr} {i : Nat} {p : Pr} (h : l[i]? = some p) : total (l.take (i + 1)) = total (l.take i) + p.2 := msum_take h
/-- the farthest one that was taken -/
def reachOf (l : List Pr) : Nat → Int
  | 0 => 0
  | i + 1 => (l.getD i (0, 0)).1
theorem take_le {l : List Pr} (hs : l.Pairwise fun a b => a.1 ≤ b.1) {i : Nat} {p : Pr} (h : l[i]? = some p) : ∀ q ∈ l.take (i + 1), q.1 ≤ p.1 := by
  intro q hq
  obtain ⟨hi, e⟩ := List.getElem?_eq_some_iff.mp h
  obtain ⟨j, hj, rfl⟩ := List.mem_iff_getElem.mp hq
  rw [List.length_take] at hj
  rw [List.getElem_take]
  by_cases hji : j = i
  · subst hji
    rw [e]
    exact Int.le_refl _
  · rw [← e]
    exact List.pairwise_iff_getElem.mp hs j i (by omega) hi (by omega)
theorem drop_ge {l : List Pr} (hs : l.Pairwise fun a b => a.1 ≤ b.1) {i : Nat} {p : Pr} (h : l[i]? = some p) : ∀ q ∈ l.drop i, p.1 ≤ q.1 := by
  intro q hq
  obtain ⟨hi, e⟩ := List.getElem?_eq_some_iff.mp h
  obtain ⟨j, hj, rfl⟩ := List.mem_iff_getElem.mp hq
  rw [List.length_drop] at hj
  rw [List.getElem_drop]
  by_cases hji : j = 0
  · subst hji
    simp only [Nat.add_zero]
    rw [e]
    exact Int.le_refl _
  · rw [← e]
    exact List.pairwise_iff_getElem.mp hs i (i + j) hi (by omega) (by omega)
theorem reach_is (w h : Nat) (f : List Int) (x y : Int) {most k : Nat} (hm : most ≤ 512) (hk : k ≤ 256) (hf : ∀ z ∈ f, 0 ≤ z) {l : List Pr} (hp : l.Perm (lightOf most w f (nearPts most x w) (nearPts most y h))) (hs : l.Pairwise fun a b => a.1 ≤ b.1)
    {i : Nat} (hi : i ≤ l.length) (h1 : (k : Int) * total l ≤ 256 * total (l.take i)) (h2 : ∀ j, j + 1 = i → 256 * total (l.take j) < (k : Int) * total l) :
    0 ≤ reachOf l i ∧ reachOf l i ≤ 262144 ∧ Sh67.radius w h (nats f) x y most k = ceilR (reachOf l i).toNat := by
  have hin : ∀ p ∈ l, 0 ≤ p.1 ∧ p.1 ≤ (most : Int) * most ∧ 0 ≤ p.2 := fun p hpl => light_in hf (fun p hp => (nearPts_in hp).2.1) (fun p hp => (nearPts_in hp).2.1) (hp.mem_iff.mp hpl)
  have hn : ∀ p ∈ l, 0 ≤ p.2 := fun p hpl => (hin p hpl).2.2
  have hmm : most * most ≤ 512 * 512 := Nat.mul_le_mul hm hm
  have emm : (most : Int) * most = ((most * most : Nat) : Int) := (Int.natCast_mul most most).symm
  have hap : ∀ R : Nat, R ≤ most → apN w h f x y R = upTo ((R : Int) * R) l := fun R hR => by
    have h3 : R * R ≤ most * most := Nat.mul_le_mul hR hR
    have eR : (R : Int) * R = ((R * R : Nat) : Int) := (Int.natCast_mul R R).symm
    rw [upTo_perm hp, light_sum w h f x y (most := (most : Int)) (R := (R : Int)) (by rw [eR, emm]; omega)]
  have hall : apN w h f x y most = total l := by
    rw [hap most (Nat.le_refl _)]
    exact upTo_all fun p hpl => (hin p hpl).2.1
  have hsplit : ∀ (r : Int) (n : Nat), upTo r l = upTo r (l.take n) + upTo r (l.drop n) := fun r n => by
    rw [← upTo_app, List.take_append_drop]
  cases i with
  | zero =>
    refine ⟨Int.le_refl _, (by show (0 : Int) ≤ 262144; decide), ?_⟩
    have e0 : ceilR (reachOf l 0).toNat = 0 := by
      show ceilR 0 = 0
      decide
    rw [e0]
    have ht : total (l.take 0) = 0 := rfl
    rw [ht, Int.mul_zero] at h1
    refine radius_unique w h f x y hm hk hf ?_ fun j hj => absurd hj (Nat.not_lt_zero _)
    rw [hall, hap 0 (Nat.zero_le _)]
    have := upTo_nonneg (r := ((0 : Nat) : Int) * ((0 : Nat) : Int)) hn
    omega
  | succ i =>
    obtain ⟨p, hpi⟩ : ∃ p, l[i]? = some p := ⟨_, List.getElem?_eq_getElem (by omega)⟩
    have er : reachOf l (i + 1) = p.1 := by
      show (l.getD i (0, 0)).1 = p.1
      rw [List.getD_eq_getElem?_getD, hpi]
      rfl
    obtain ⟨q1, q2, q3⟩ := hin p (List.mem_of_getElem? hpi)
    rw [emm] at q2
    rw [er]
    refine ⟨q1, by omega, ?_⟩
    have hd : p.1.toNat < 18446744073709551616 := by omega
    have hc : ∀ R : Nat, ceilR p.1.toNat ≤ R ↔ p.1 ≤ (R : Int) * R := fun R => by
      have eR : (R : Int) * R = ((R * R : Nat) : Int) := (Int.natCast_mul R R).symm
      rw [ceil_le hd, eR]
      omega
    have hle : ceilR p.1.toNat ≤ most := (hc most).mpr (by rw [emm]; exact q2)
    have hc1 := (hc _).mp (Nat.le_refl (ceilR p.1.toNat))
    refine radius_unique w h f x y hm hk hf ?_ fun j hj => ?_
    · rw [hall, hap _ hle, hsplit _ (i + 1), upTo_all fun q hq => Int.le_trans (take_le hs hpi q hq) hc1]
      have := upTo_nonneg (r := (ceilR p.1.toNat : Int) * (ceilR p.1.toNat : Int)) (l := l.drop (i + 1)) fun q hq => hn q (List.mem_of_mem_drop hq)
      omega
    · have hj2 : ¬ p.1 ≤ (j : Int) * j := fun z => by
        have := (hc j).mpr z
        omega
      rw [hall, hap j (by omega), hsplit _ i, upTo_none (l := l.drop i) fun q hq => by
        have := drop_ge hs hpi q hq
        omega]
      have := upTo_le (r := (j : Int) * j) (l := l.take i) fun q hq => hn q (List.mem_of_mem_take hq)
      have := h2 i rfl
      omega
/-- all of them are enough -/
theorem all_enough {l : List Pr} {k : Int} (hk : k ≤ 256) (hn : ∀ p ∈ l, 0 ≤ p.2) : k * total l ≤ 256 * total (l.take l.length) := by
  rw [List.take_length]
  exact Int.mul_le_mul_of_nonneg_right hk (total_nonneg hn)
end Ap
namespace Sl
open PySem PySem.Spec PyProof.Rows L2
open PySem.W (Codec)
/-! ### the text by places -/
def top (i : Nat) : Stmt := PySem.Challenge.pw_starlight_s07_ap_radius.main.body.getD i (.Pass ⟨0, 0, 0, 0⟩)
abbrev sFrame : Stmt := top 7
abbrev sMany : Stmt := top 8
abbrev sPlaces : Stmt := top 9
/-! ### heaps -/
theorem same_new {H : Hp} {p : Addr} {o : HO} (h : H p = none) : Same H (upd H p o) := fun b x e => by
  rw [upd_ne (ne_of_none e h)]
  exact e
theorem get_map {α : Type} {m : α → V} {l : List α} {i : Nat} {z : α} (h : l[i]? = some z) : (l.map m)[i]? = some (m z) := by
  rw [List.getElem?_map, h]
  rfl
theorem get_D {l : List Int} {i : Nat} (h : i < l.length) : l[i]? = some (l.getD i 0) := by
  rw [List.getD_eq_getElem?_getD, List.getElem?_eq_getElem h]
  rfl
theorem at_D {l : List Int} {i : Nat} {z : Int} (e : z = (i : Int)) (h : i < l.length) : atI (l.map V.int) z = some (V.int (l.getD i 0)) := at_of e (get_map (get_D h))
theorem tyes {σ : L2.St} {H : Hp} {A B : Hp → Prop} (h : A H) : tYes σ H (fun b H3 => if b = true then A H3 else B H3) := h
section
variable {P : Program} {w : World} {K : PySem.W.Frag} {mg : Str → Option Value} {base : Heap}
/-! ### frame_is_bad -/
theorem scFrame : FnScope ["w", "h"] ["w", "h"] (defScope sFrame) := ⟨rfl, rfl, rfl, by decide +kernel, rfl, by decide +kernel, by decide +kernel⟩
def spFrame : Sp := fun vs H Q _ => ∃ x y : Int, vs = [.int x, .int y] ∧ ∀ b : Bool, (b = true ↔ ¬ (1 ≤ x ∧ x ≤ 64 ∧ 1 ≤ y ∧ y ≤ 64)) → Q (.bl b) H
theorem ok_frame {f : Addr} {fd : FuncData} {k : Nat} {t : Nat} (F : Fun K "frame_is_bad" "frame_is_bad" sFrame f fd) (gM : mg "MOST_SIDE" = some (.int 64 t)) : FnOk P w K mg base CX0 (k + 1) f fd ["w", "h"] spFrame := by
  refine F.ok scFrame (fun vs H Q E h => ?_) (fun cdv A outer s H vs Q E hr h => ?_)
  · obtain ⟨x, y, rfl, _⟩ := h
    rfl
  · obtain ⟨x, y, rfl, q⟩ := h
    refine ⟨_, pss_one (ps_ret (pe_or (pe_cmpR op_lt (pv 0) pe_int (nomark _)) (pe_or (pe_cmpR op_gt (pv 0) (pe_glob (v := .int 64) rfl gM ⟨_, rfl⟩) (nomark _))
      (pe_or (pe_cmpR op_lt (pv 1) pe_int (nomark _)) (pe_one (pe_cmpR op_gt (pv 1) (pe_glob (v := .int 64) rfl gM ⟨_, rfl⟩) (nomark _))))))), ?_⟩
    refine ⟨_, rfl, x, 1, rfl, rfl, _, rfl, ite2 (fun e => q _ ?_) (fun e => ?_)⟩
    · have := of_decide_eq_true e
      simp
      omega
    have e1 : ¬ x < 1 := fun z => e (decide_eq_true z)
    refine ⟨_, rfl, x, 64, rfl, rfl, _, rfl, ite2 (fun e => q _ ?_) (fun e => ?_)⟩
    · have := of_decide_eq_true e
      simp
      omega
    have e2 : ¬ 64 < x := fun z => e (decide_eq_true z)
    refine ⟨_, rfl, y, 1, rfl, rfl, _, rfl, ite2 (fun e => q _ ?_) (fun e => ?_)⟩
    · have := of_decide_eq_true e
      simp
      omega
    have e3 : ¬ y < 1 := fun z => e (decide_eq_true z)
    refine ⟨_, rfl, y, 64, rfl, rfl, q _ ?_⟩
    rw [decide_eq_true_eq]
    omega
/-! ### places_are_bad -/
theorem scMany : FnScope ["xy"] ["xy"] (defScope sMany) := ⟨rfl, rfl, rfl, by decide +kernel, rfl, by decide +kernel, by decide +kernel⟩
def spMany (K : PySem.W.Frag) : Sp := fun vs H Q _ => ∃ (a : Addr) (xy : List Int), vs = [.ref a] ∧ SqL K H a (xy.map V.int) ∧ ∀ b : Bool, (b = true ↔ ¬ xy.length ≤ 128) → Q (.bl b) H
theorem ok_many {f : Addr} {fd : FuncData} {k : Nat} {t : Nat} (F : Fun K "places_are_bad" "places_are_bad" sMany f fd) (gM : mg "MOST_PLACES" = some (.int 64 t)) (mL : mg "len" = none) : FnOk P w K mg base CX0 (k + 1) f fd ["xy"] (spMany K) := by
  refine F.ok scMany (fun vs H Q E h => ?_) (fun cdv A outer s H vs Q E hr h => ?_)
  · obtain ⟨a, xy, rfl, _⟩ := h
    rfl
  · obtain ⟨a, xy, rfl, hS, q⟩ := h
    refine ⟨_, pss_one (ps_ret (pe_cmpR op_gt (pe_callB call_len_seq (by rfl) mL PySem.boot_len (pa_cons (pv 0) pa_nil)) (pe_op op_mul pe_int (pe_glob (v := .int 64) rfl gM ⟨_, rfl⟩)) (nomark _))), ?_⟩
    refine ⟨_, rfl, a, _, rfl, .inl hS, 2, 64, rfl, rfl, .inl ⟨by decide, by decide⟩, _, _, rfl, rfl, q _ ?_⟩
    rw [decide_eq_true_eq, List.length_map]
    omega
/-! ### places_of -/
theorem scPlaces : FnScope ["xy", "k"] ["xy"] (defScope sPlaces) := ⟨rfl, rfl, rfl, by decide +kernel, rfl, by decide +kernel, by decide +kernel⟩
/-- at t the j-th place stands -/
def PlaceAt (H : Hp) (xy : List Int) (j : Nat) (t : Addr) : Prop := H t = some (.tup [.int (Ap.placeX xy j), .int (Ap.placeY xy j)])
def spPlaces (K : PySem.W.Frag) : Sp := fun vs H Q _ => ∃ (a : Addr) (xy : List Int), vs = [.ref a] ∧ SqL K H a (xy.map V.int) ∧ xy.length = 2 * (xy.length / 2) ∧ xy.length ≤ 128 ∧
  ∀ (H' : Hp) (p : Addr) (ts : List Addr), Same H H' → H' p = some (.lst (ts.map V.ref)) → ts.length = xy.length / 2 → (∀ j t, ts[j]? = some t → PlaceAt H' xy j t) → Q (.ref p) H'
theorem rg_size {n : Int} (h0 : 0 ≤ n) (m : Nat) (hm : n = 2 * m) : Builtin.Range.rangeSize 0 n 2 = m := by
  unfold Builtin.Range.rangeSize
  rw [if_pos (by decide)]
  split <;> omega
theorem rg_two {n : Int} (h0 : 0 ≤ n) (h1 : n ≤ 1000) (m : Nat) (hm : n = 2 * m) : RgC 0 n 2 m := by
  refine ⟨by decide, by decide, ?_, ?_⟩
  · unfold Builtin.Range.small
    rw [rg_size h0 m hm]
    simp only [Builtin.Range.rangeFitsLong, Bool.and_eq_true, Bool.or_eq_true, decide_eq_true_eq, beq_iff_eq, show ((2 : Int) > 0) by decide, if_true]
    omega
  · exact rg_size h0 m hm
theorem ok_places {f : Addr} {fd : FuncData} {k : Nat} (F : Fun K "places_of" "places_of" sPlaces f fd) (mL : mg "len" = none) (mR : mg "range" = none) : FnOk P w K mg base CX0 (k + 1) f fd ["xy"] (spPlaces K) := by
  refine F.ok scPlaces (fun vs H Q E h => ?_) (fun cdv A outer s H vs Q E hr h => ?_)
  · obtain ⟨a, xy, rfl, _⟩ := h
    rfl
  · obtain ⟨a, xy, rfl, hS, hev, hlen, q⟩ := h
    refine ⟨_, pss_one (ps_ret (pe_lc (own := [("k", 1)]) (g := gName 1) (tt := tYes) rfl scPlaces.nd
      (pi_range3 rfl mR (pa_cons pe_int (pa_cons (pe_callB call_len_seq (by rfl) mL PySem.boot_len (pa_cons (pv 0) pa_nil)) (pa_cons pe_int pa_nil))))
      (blkOk_by (own := [("k", 1)]) (N := ["xy", "k"]) (sc := defScope sPlaces) (by decide +kernel)) (fun _ _ _ _ _ => pg_name (i := 1) scPlaces.nd rfl (Or.inl rfl)) (fun _ _ _ _ _ => pts_nil)
      (fun _ _ _ _ _ => pe_tup (pa_cons (pe_ix (r := rIxL K) ix_list (pv 0) (pv 1) (fun _ _ => rfl)) (pa_cons (pe_ix (r := rIxL K) ix_list (pv 0) (pe_op op_add (pv 1) pe_int) (fun _ _ => rfl)) pa_nil))))), ?_⟩
    refine ⟨.ref a, rfl, a, _, rfl, .inl hS, 0, _, 2, xy.length / 2, rfl, rg_two (by omega) (by rw [List.length_map]; omega) _ (by rw [List.length_map]; omega), fun D nD => ?_⟩
    refine lc_it walk_rangeC (fun i H' => ∃ ts : List Addr, ts.length = i ∧ H' D = some (.lst (ts.map V.ref)) ∧ Same H H' ∧ ∀ j t, ts[j]? = some t → PlaceAt H' xy j t)
      ⟨[], rfl, upd_same, same_new nD, fun j t h => by simp at h⟩ (fun _ _ _ _ => trivial) ?_ ?_
    · rintro i x H1 H2 hi ⟨ts, hl, hD, sm, hp⟩ ⟨rfl, rfl⟩
      refine ⟨rfl, tyes ?_⟩
      have hi2 : i < xy.length / 2 := hi
      refine ⟨.ref a, rfl, _, rfl, a, _, _, _, rfl, rfl, sm.seq hS, at_D (i := 2 * i) (by omega) (by omega), .ref a, rfl, _, rfl, _, 1, rfl, rfl, a, _, _, _, rfl, rfl, sm.seq hS, at_D (i := 2 * i + 1) (by omega) (by omega), (by show 2 ≤ sizeLine; decide), fun t nt => ?_⟩
      have nDt : D ≠ t := ne_of_none hD nt
      refine ⟨_, (by rw [upd_ne nDt]; exact hD), (by rw [List.length_map, hl]; exact small1000 (by omega)), ts ++ [t], (by rw [List.length_append, hl]; rfl), (by rw [upd_same, List.map_append]; rfl), ?_, ?_⟩
      · intro b o e
        have nb : b ≠ D := ne_of_none e nD
        rw [upd_ne nb]
        exact same_new nt b o (sm b o e)
      · intro j u hj
        unfold PlaceAt
        by_cases hjl : j < ts.length
        · rw [List.getElem?_append_left hjl] at hj
          have e1 := hp j u hj
          have n1 : u ≠ D := ne_of e1 hD (by intro z; cases z)
          rw [upd_ne n1]
          exact same_new nt _ _ e1
        · rw [List.getElem?_append_right (by omega)] at hj
          have ej : j - ts.length = 0 := by
            cases hz : j - ts.length with
            | zero => rfl
            | succ m => rw [hz] at hj; simp at hj
          rw [ej] at hj
          have eu : t = u := Option.some.inj hj
          have ei : j = i := by omega
          subst eu ei
          rw [upd_ne (fun z => nDt z.symm), upd_same]
          rfl
    · rintro H1 ⟨ts, hl, hD, sm, hp⟩
      exact q H1 D ts sm hD hl hp
end
end Sl
namespace Sl
open PySem PySem.Spec PyProof.Rows L2
theorem cell_lt {W M q c : Nat} (hq : q < M) (hc : c < W) : q * W + c < W * M := by
  have h1 : (q + 1) * W ≤ M * W := Nat.mul_le_mul_right W hq
  rw [Nat.add_mul, Nat.one_mul, Nat.mul_comm M W] at h1
  omega
theorem cell_at (W q c : Nat) : ((0 : Int) + (q : Int)) * (W : Int) + ((0 : Int) + (c : Int)) = ((q * W + c : Nat) : Int) := by
  rw [Int.zero_add, Int.zero_add, Int.natCast_add, Int.natCast_mul]
theorem ref_at {l : List Addr} {i : Nat} {v : V} (h : (l.map V.ref)[i]? = some v) : ∃ z, l[i]? = some z ∧ v = V.ref z := by
  rw [List.getElem?_map] at h
  cases e : l[i]? with
  | none => rw [e] at h; cases h
  | some z => rw [e] at h; exact ⟨z, rfl, (Option.some.inj h).symm⟩
theorem getD_in {l : List Int} {lo hi : Int} (h : ∀ z ∈ l, lo ≤ z ∧ z ≤ hi) (h0 : lo ≤ 0 ∧ 0 ≤ hi) (i : Nat) : lo ≤ l.getD i 0 ∧ l.getD i 0 ≤ hi := by
  rw [List.getD_eq_getElem?_getD]
  cases e : l[i]? with
  | none => exact h0
  | some z => exact h z (List.mem_of_getElem? e)
end Sl
namespace Sl
open PySem PySem.Spec PyProof.Rows L2
open PySem.W (Codec)
abbrev sGaps : Stmt := top 10
section
variable {P : Program} {w : World} {K : PySem.W.Frag} {mg : Str → Option Value} {base : Heap}
/-! ### point_gaps -/
theorem scGaps : FnScope ["k", "at", "step"] ["k", "at"] (defScope sGaps) := ⟨rfl, rfl, rfl, by decide +kernel, rfl, by decide +kernel, by decide +kernel⟩
def spGaps : Sp := fun vs H Q _ => ∃ x z : Int, vs = [.int x, .int z] ∧ (0 ≤ x ∧ x ≤ 64) ∧ (0 ≤ z ∧ z ≤ 65535) ∧ ∀ (H' : Hp) (p : Addr), Same H H' → H p = none → H' p = some (.lst ((Ap.gaps x z).map V.int)) → Q (.ref p) H'
theorem ok_gaps {f aP : Addr} {fd : FuncData} {k : Nat} {t : Nat} (F : Fun K "point_gaps" "point_gaps" sGaps f fd) (gS : mg "SIDE" = some (.int 64 t)) (gP : mg "POINT_STEPS" = some (.ref aP)) (hP : ∀ H : Hp, SqT K H aP (Ap.steps.map V.int)) :
    FnOk P w K mg base CX0 (k + 1) f fd ["k", "at"] spGaps := by
  refine F.ok scGaps (fun vs H Q E h => ?_) (fun cdv A outer s H vs Q E hr h => ?_)
  · obtain ⟨x, z, rfl, _⟩ := h
    rfl
  · obtain ⟨x, z, rfl, hx, hz, q⟩ := h
    refine ⟨_, pss_one (ps_ret (pe_lc (own := [("step", 2)]) (g := gName 2) (tt := tYes) rfl scGaps.nd (pi_tup (pe_glob (v := .ref aP) rfl gP rfl))
      (blkOk_by (own := [("step", 2)]) (N := ["k", "at", "step"]) (sc := defScope sGaps) (by decide +kernel)) (fun _ _ _ _ _ => pg_name (i := 2) scGaps.nd rfl (Or.inl rfl)) (fun _ _ _ _ _ => pts_nil)
      (fun _ _ _ _ _ => pe_op op_pow (pe_op op_sub (pe_op op_add (pe_op op_mul (pe_glob (v := .int 64) rfl gS ⟨_, rfl⟩) (pv 0)) (pv 2)) (pv 1)) pe_int))), ?_⟩
    refine ⟨aP, rfl, ⟨_, hP H⟩, fun D nD => ?_⟩
    refine lc_tup (K := K) (a := aP) (xs := Ap.steps.map V.int) (fun i H' => H' D = some (.lst (((Ap.gaps x z).take i).map V.int)) ∧ Same H H') ⟨upd_same, same_new nD⟩ (fun _ H' _ _ => hP H') ?_ ?_
    · rintro i v H1 hi ⟨hD, sm⟩
      obtain ⟨s0, hs0, rfl⟩ : ∃ s0, Ap.steps[i]? = some s0 ∧ v = V.int s0 := by
        rw [List.getElem?_map] at hi
        cases e : Ap.steps[i]? with
        | none => rw [e] at hi; cases hi
        | some s0 => rw [e] at hi; exact ⟨s0, rfl, (Option.some.inj hi).symm⟩
      have hs : 0 ≤ s0 ∧ s0 ≤ 56 := by
        have hm := List.mem_of_getElem? hs0
        simp [Ap.steps] at hm
        omega
      refine ⟨rfl, tyes ?_⟩
      refine ⟨.int x, rfl, 64, x, rfl, rfl, .inl ⟨by decide, by decide⟩, .int s0, rfl, _, _, rfl, rfl, .int z, rfl, _, _, rfl, rfl, _, 2, rfl, rfl, ⟨by decide, by decide, ?_⟩, ?_⟩
      · have e : (2 : Nat) ^ 64 = 18446744073709551616 := by decide
        rw [e]
        omega
      · have hl : (((Ap.gaps x z).take i).map V.int).length < sizeLine := by
          rw [List.length_map, List.length_take, Ap.gaps_len]
          exact small1000 (by omega)
        refine ⟨_, hD, hl, ?_, fun b o e => by rw [upd_ne (ne_of_none e nD)]; exact sm b o e⟩
        have hg : (Ap.gaps x z)[i]? = some ((64 * x + s0 - z) ^ 2) := by
          unfold Ap.gaps
          rw [List.getElem?_map, hs0]
          rfl
        rw [upd_same, List.take_add_one, hg, List.map_append]
        rfl
    · rintro H1 ⟨hD, sm⟩
      refine q H1 D sm nD ?_
      rw [hD]
      rfl
theorem int_at {l : List Int} {i : Nat} {v : V} (h : (l.map V.int)[i]? = some v) : ∃ z, l[i]? = some z ∧ v = V.int z := by
  rw [List.getElem?_map] at h
  cases e : l[i]? with
  | none => rw [e] at h; cases h
  | some z => rw [e] at h; exact ⟨z, rfl, (Option.some.inj h).symm⟩
end
end Sl
namespace Sl
open PySem PySem.Spec PyProof.Rows L2
open PySem.W (Codec)
abbrev sRoot : Stmt := top 11
theorem ip_fdiv {X : Cx} : PIp X .FloorDiv (rI CDiv fun i j => .int (i / j)) := iop_fdiv
section
variable {P : Program} {w : World} {K : PySem.W.Frag} {mg : Str → Option Value} {base : Heap}
/-! ### root -/
theorem scRoot : FnScope ["n", "found", "step"] ["n"] (defScope sRoot) := ⟨rfl, rfl, rfl, by decide +kernel, rfl, by decide +kernel, by decide +kernel⟩
def spRoot : Sp := fun vs H Q _ => ∃ n : Int, vs = [.int n] ∧ 0 ≤ n ∧ n < 18446744073709551616 ∧ Q (.int (Ap.rootZ n)) H
/-- the step with k bits to come -/
def stepOf (k : Nat) : Int := ((2 ^ k / 2 : Nat) : Int)
def slotAt (σ : L2.St) (i : Nat) : Int := match σ[i]? with
  | some (some (.int z)) => z
  | _ => 0
theorem ok_root {f : Addr} {fd : FuncData} {k : Nat} (F : Fun K "root" "root" sRoot f fd) : FnOk P w K mg base CX0 (k + 1) f fd ["n"] spRoot := by
  refine F.ok scRoot (fun vs H Q E h => ?_) (fun cdv A outer s H vs Q E hr h => ?_)
  · obtain ⟨n, rfl, _⟩ := h
    rfl
  · obtain ⟨n, rfl, n0, n1, q⟩ := h
    obtain ⟨N, rfl⟩ : ∃ N : Nat, n = (N : Int) := ⟨n.toNat, by omega⟩
    refine ⟨_, pss_cons (ps_set (i := 1) scRoot.nd rfl (.inl rfl) pe_int)
      (pss_cons (ps_set (i := 2) scRoot.nd rfl (.inl rfl) (pe_op op_pow pe_int pe_int))
      (pss_cons (ps_while PassesOwn.never (pt_cmpR op_gt (pv 2) pe_int (nomark _))
        (pss_cons (ps_if (pt_cmpR op_le (pe_op op_pow (pe_op op_add (pv 1) (pv 2)) pe_int) (pv 0) (nomark _)) (pss_one (ps_aug (i := 1) scRoot.nd rfl (.inl rfl) (pv 2) ip_add)) pss_nil)
        (pss_one (ps_aug (i := 2) scRoot.nd rfl (.inl rfl) pe_int ip_fdiv))))
      (pss_one (ps_ret (pv 1))))), ?_⟩
    refine ⟨2, 31, rfl, rfl, ⟨by decide, by decide, by decide⟩, ?_⟩
    refine while_by (fun σ H' => H' = H ∧ ∃ k r : Nat, σ = [some (.int (N : Int)), some (.int (r : Int)), some (.int (stepOf k))] ∧ r + 2 ^ k ≤ 4294967296 ∧ Sh67.rootBy k N r = Sh67.root N) (fun σ _ => (slotAt σ 2).toNat) ?_ ?_ ?_
    · exact ⟨rfl, 32, 0, rfl, by decide, rfl⟩
    · rintro σ H' ⟨rfl, k, r, rfl, hb, he⟩
      refine ⟨_, rfl, stepOf k, 0, rfl, rfl, _, rfl, ?_⟩
      cases k with
      | zero =>
        refine ite2 (fun e => ?_) (fun _ => ?_)
        · have e := of_decide_eq_true e
          exact absurd e (by decide)
        · have he : r = Sh67.root N := he
          refine ⟨_, rfl, ?_⟩
          rw [he]
          exact q
      | succ k =>
        have es : stepOf (k + 1) = ((2 ^ k : Nat) : Int) := by
          unfold stepOf
          rw [Nat.pow_succ, Nat.mul_div_cancel _ (by decide)]
        have hp : 0 < 2 ^ k := Nat.two_pow_pos k
        have e2 : 2 ^ (k + 1) = 2 ^ k + 2 ^ k := by rw [Nat.pow_succ]; omega
        rw [e2] at hb
        refine ite2 (fun _ => ?_) (fun e => ?_)
        · have eq : ((r : Int) + stepOf (k + 1)) ^ (2 : Int).toNat = (((r + 2 ^ k) * (r + 2 ^ k) : Nat) : Int) := by
            rw [es]
            show ((r : Int) + ((2 ^ k : Nat) : Int)) ^ 2 = _
            rw [Ap.sq, Int.natCast_mul, Int.natCast_add]
          have hd : stepOf (k + 1) / 2 = stepOf k := by
            rw [es]
            unfold stepOf
            omega
          have hm : (stepOf (k + 1) / 2).toNat < (stepOf (k + 1)).toNat := by
            rw [es]
            omega
          unfold Sh67.rootBy at he
          refine ⟨_, rfl, _, rfl, _, _, rfl, rfl, _, 2, rfl, rfl, ⟨by decide, by decide, ?_⟩, _, rfl, _, _, rfl, rfl, _, rfl, ?_⟩
          · rw [es]
            omega
          rw [eq]
          refine ite2 (fun e => ?_) (fun e => ?_)
          · have e : (((r + 2 ^ k) * (r + 2 ^ k) : Nat) : Int) ≤ (N : Int) := of_decide_eq_true e
            rw [if_pos (by omega)] at he
            refine ⟨_, rfl, _, rfl, _, _, rfl, rfl, _, rfl, _, 2, rfl, rfl, ⟨by decide, by decide⟩, ⟨rfl, k, r + 2 ^ k, ?_, by omega, he⟩, hm⟩
            rw [← hd]
            show [_, _, _] = _
            rw [Int.natCast_add, ← es]
          · have e : ¬ (((r + 2 ^ k) * (r + 2 ^ k) : Nat) : Int) ≤ (N : Int) := fun z => e (decide_eq_true z)
            rw [if_neg (by omega)] at he
            refine ⟨_, rfl, _, 2, rfl, rfl, ⟨by decide, by decide⟩, ⟨rfl, k, r, ?_, by omega, he⟩, hm⟩
            rw [← hd]
            rfl
        · exact absurd (by rw [es]; omega) (fun z => e (decide_eq_true z))
    · rintro σ H' Q1 Q2 hq ⟨v, e1, i, j, e2, e3, k, e4, h⟩
      exact ⟨v, e1, i, j, e2, e3, k, e4, hq _ _ h⟩
end
end Sl
namespace Sl
open PySem PySem.Spec PyProof.Rows L2
open PySem.W (Codec)
abbrev sPnear : Stmt := top 12
abbrev sLight : Stmt := top 13
/-! ### lists of pairs in the heap -/
def Two (H : Hp) (t : Addr) (p : Ap.Pr) : Prop := H t = some (.tup [.int p.1, .int p.2])
def Twos (H : Hp) (ts : List Addr) (ps : List Ap.Pr) : Prop := ts.length = ps.length ∧ ∀ (j : Nat) (t : Addr) (p : Ap.Pr), ts[j]? = some t → ps[j]? = some p → Two H t p
def TwosAt (H : Hp) (a : Addr) (ps : List Ap.Pr) : Prop := ∃ ts : List Addr, H a = some (.lst (ts.map V.ref)) ∧ Twos H ts ps
theorem Twos.mono {H H' : Hp} {ts : List Addr} {ps : List Ap.Pr} (h : Twos H ts ps) (s : Same H H') : Twos H' ts ps := ⟨h.1, fun j t p a b => s _ _ (h.2 j t p a b)⟩
theorem TwosAt.mono {H H' : Hp} {a : Addr} {ps : List Ap.Pr} (h : TwosAt H a ps) (s : Same H H') : TwosAt H' a ps := by
  obtain ⟨ts, ha, ht⟩ := h
  exact ⟨ts, s _ _ ha, ht.mono s⟩
theorem Twos.at {H : Hp} {ts : List Addr} {ps : List Ap.Pr} {i : Nat} {t : Addr} (h : Twos H ts ps) (e : ts[i]? = some t) : ∃ p, ps[i]? = some p ∧ Two H t p := by
  have hl := (List.getElem?_eq_some_iff.mp e).1
  have hp : ps[i]? = some (ps[i]'(by rw [← h.1]; exact hl)) := List.getElem?_eq_getElem _
  exact ⟨_, hp, h.2 i t _ e hp⟩
theorem Twos.push {H : Hp} {D t : Addr} {xs ys : List V} {ts : List Addr} {ps : List Ap.Pr} {p : Ap.Pr} (hD : H D = some (.lst xs)) (h : Twos H ts ps) (ht : Two H t p) : Twos (upd H D (.lst ys)) (ts ++ [t]) (ps ++ [p]) := by
  refine ⟨by rw [List.length_append, List.length_append, h.1]; rfl, fun j u q hu hq => ?_⟩
  have key : ∀ {v : Addr} {z : Ap.Pr}, Two H v z → Two (upd H D (.lst ys)) v z := fun {v z} e => by
    have n : v ≠ D := ne_of e hD (by intro z; cases z)
    unfold Two
    rw [upd_ne n]
    exact e
  by_cases hj : j < ts.length
  · rw [List.getElem?_append_left hj] at hu
    rw [List.getElem?_append_left (by rw [← h.1]; exact hj)] at hq
    exact key (h.2 j u q hu hq)
  · rw [List.getElem?_append_right (by omega)] at hu
    rw [List.getElem?_append_right (by rw [← h.1]; omega), ← h.1] at hq
    have ej : j - ts.length = 0 := by
      cases hz : j - ts.length with
      | zero => rfl
      | succ m => rw [hz] at hu; simp at hu
    rw [ej] at hu hq
    have e1 : t = u := Option.some.inj hu
    have e2 : p = q := Option.some.inj hq
    subst e1 e2
    exact key ht
theorem Twos.nil {H : Hp} : Twos H [] [] := ⟨rfl, fun j t p h => by simp at h⟩
theorem filt_take {α : Type} {q : α → Bool} {l : List α} {i : Nat} {z : α} (h : l[i]? = some z) : (l.take (i + 1)).filter q = (l.take i).filter q ++ (if q z = true then [z] else []) := by
  rw [List.take_add_one, h, List.filter_append]
  cases e : q z with
  | true => simp [e]
  | false => simp [e]
theorem flat_take {α β : Type} {g : α → List β} {l : List α} {i : Nat} {z : α} (h : l[i]? = some z) : (l.take (i + 1)).flatMap g = (l.take i).flatMap g ++ g z := by
  rw [List.take_add_one, h, List.flatMap_append]
  simp
theorem line_of {n : Nat} (h : n ≤ 100000) : n < sizeLine := Nat.lt_of_le_of_lt h (by decide)
section
variable {P : Program} {w : World} {K : PySem.W.Frag} {mg : Str → Option Value} {base : Heap}
/-! ### points_near -/
theorem scPnear : FnScope ["most", "many", "at", "found", "k", "gap"] ["most", "many", "at"] (defScope sPnear) := ⟨rfl, rfl, rfl, by decide +kernel, rfl, by decide +kernel, by decide +kernel⟩
def spPnear : Sp := fun vs H Q _ => ∃ (most z : Int) (n : Nat), vs = [.int most, .int n, .int z] ∧ (0 ≤ most ∧ most ≤ 512) ∧ n ≤ 64 ∧ (0 ≤ z ∧ z ≤ 65535) ∧
  ∀ (H' : Hp) (p : Addr), Same H H' → H p = none → TwosAt H' p (Ap.nearPts most z n) → Q (.ref p) H'
/-- the near ones of a column's first j points -/
def colTo (most z : Int) (k j : Nat) : List Ap.Pr := (((Ap.gaps k z).take j).filter fun g => decide (g ≤ most * most)).map fun g => ((k : Int), g)
theorem colTo_len (most z : Int) (k j : Nat) : (colTo most z k j).length ≤ 4 := by
  unfold colTo
  rw [List.length_map]
  have h1 := List.length_filter_le (fun g => decide (g ≤ most * most)) ((Ap.gaps k z).take j)
  have h2 : ((Ap.gaps k z).take j).length ≤ 4 := by
    rw [List.length_take, Ap.gaps_len]
    omega
  omega
theorem ok_pnear {f fG : Addr} {fd fdG : FuncData} {k : Nat} (F : Fun K "points_near" "points_near" sPnear f fd) (mR : mg "range" = none)
    (gG : mg "point_gaps" = some (.ref fG)) (kG : PySem.W.keepIn K (.ref fG) = true) (bG : Binds K fdG ["k", "at"] []) (GG : FnOk P w K mg base CX0 k fG fdG ["k", "at"] spGaps) :
    FnOk P w K mg base CX0 (k + 1) f fd ["most", "many", "at"] spPnear := by
  refine F.ok scPnear (fun vs H Q E h => ?_) (fun cdv A outer s H vs Q E hr h => ?_)
  · obtain ⟨most, z, n, rfl, _⟩ := h
    rfl
  · obtain ⟨most, z, n, rfl, hm, hn, hz, q⟩ := h
    refine ⟨_, pss_cons (ps_set (i := 3) scPnear.nd rfl (.inl rfl) (pe_lst pa_nil))
      (pss_cons (ps_for PassesOwn.never rfl (pi_range1 rfl mR (pa_cons (pv 1) pa_nil)) (pg_name (i := 4) scPnear.nd rfl (.inl rfl))
        (pss_one (ps_for PassesOwn.never rfl (pi_list (pe_call GG hr (by rfl) gG kG bG .nil pass0 (pa_cons (pv 4) (pa_cons (pv 2) pa_nil)))) (pg_name (i := 5) scPnear.nd rfl (.inl rfl))
          (pss_one (ps_if (pt_cmpR op_le (pv 5) (pe_op op_mul (pv 0) (pv 0)) (nomark _))
            (pss_one (ps_expr (pe_bm PySem.F.plainAttrs_list PySem.F.slot_list_append PySem.F.type_list_append mt_append (pv 3) (pa_cons (pe_tup (pa_cons (pv 4) (pa_cons (pv 5) pa_nil))) pa_nil)))) pss_nil)))))
      (pss_one (ps_ret (pv 3)))), ?_⟩
    refine ⟨Nat.zero_le _, fun o no => ?_⟩
    refine ⟨_, rfl, (n : Int), rfl, by omega, by omega, for_range (lo := 0) (n := n) (fun i σ H' => Same H H' ∧ TwosAt H' o (Ap.nearPts most z i) ∧ ∃ v4 v5 : Option V,
      σ = [some (.int most), some (.int n), some (.int z), some (.ref o), v4, v5]) ⟨same_new no, ⟨[], upd_same, Twos.nil⟩, none, none, rfl⟩ ?_ ?_⟩
    · rintro i σ H' hi ⟨sm, ⟨ts0, ho0, ht0⟩, v4, v5, rfl⟩
      refine ⟨_, rfl, _, rfl, 0 + (i : Int), z, rfl, ⟨by omega, by omega⟩, hz, fun H1 g sm1 ng hg => ?_⟩
      have hgo : g ≠ o := fun e => by
        rw [e, ho0] at ng
        cases ng
      rw [Int.zero_add] at hg
      refine ⟨g, rfl, ⟨_, SqL.of hg⟩, for_list (K := K) (a := g) (xs := (Ap.gaps i z).map V.int) (fun j σ H2 => Same H H2 ∧ H2 g = some (.lst ((Ap.gaps i z).map V.int)) ∧ TwosAt H2 o (Ap.nearPts most z i ++ colTo most z i j) ∧ ∃ v5 : Option V,
        σ = [some (.int most), some (.int n), some (.int z), some (.ref o), some (.int (0 + (i : Int))), v5]) ⟨sm.trans sm1, hg, ?_, v5, rfl⟩ (fun j σ H2 _ h => SqL.of h.2.1) ?_ ?_⟩
      · rw [show colTo most z i 0 = [] from rfl, List.append_nil]
        exact ⟨ts0, sm1 _ _ ho0, ht0.mono sm1⟩
      · rintro j v σ H2 hj ⟨sm2, hg2, ⟨ts, ho, ht⟩, v5', rfl⟩
        obtain ⟨gap, hgap, rfl⟩ := int_at hj
        have ec : colTo most z i (j + 1) = colTo most z i j ++ (if gap ≤ most * most then [((i : Int), gap)] else []) := by
          unfold colTo
          rw [filt_take hgap, List.map_append]
          by_cases e : gap ≤ most * most
          · rw [if_pos (decide_eq_true e), if_pos e]
            rfl
          · rw [if_neg (fun z => e (of_decide_eq_true z)), if_neg e]
            rfl
        refine ⟨_, rfl, _, rfl, _, rfl, most, most, rfl, rfl, .inl ⟨by omega, by omega⟩, _, _, rfl, rfl, _, rfl, ite2 (fun e => ?_) (fun e => ?_)⟩
        · have e : gap ≤ most * most := of_decide_eq_true e
          refine ⟨.ref o, rfl, .inl ⟨rfl, _, SqL.of ho⟩, _, rfl, _, rfl, (by show 2 ≤ sizeLine; decide), fun t nt => ?_⟩
          have st := same_new (o := .tup [.int (0 + (i : Int)), .int gap]) nt
          have ho2 := st _ _ ho
          refine ⟨o, _, _, rfl, rfl, ho2, ?_, ?_, ?_, ?_, _, rfl⟩
          · rw [List.length_map, ht.1, List.length_append]
            have h1 := Ap.nearPts_len most z i
            have h2 := colTo_len most z i j
            exact line_of (by omega)
          · intro b ob e
            rw [upd_ne (ne_of_none e no)]
            exact st _ _ (sm2 b ob e)
          · rw [upd_ne hgo]
            exact st _ _ hg2
          · refine ⟨ts ++ [t], by rw [upd_same, List.map_append]; rfl, ?_⟩
            rw [ec, if_pos e, ← List.append_assoc]
            refine (ht.mono st).push ho2 ?_
            unfold Two
            rw [upd_same, Int.zero_add]
        · have e : ¬ gap ≤ most * most := fun z => e (decide_eq_true z)
          refine ⟨sm2, hg2, ?_, _, rfl⟩
          rw [ec, if_neg e, List.append_nil]
          exact ⟨ts, ho, ht⟩
      · rintro σ H2 ⟨sm2, hg2, ht, v5', rfl⟩
        refine ⟨sm2, ?_, _, _, rfl⟩
        have ef : colTo most z i ((Ap.gaps i z).map V.int).length = Ap.colPts most z i := by
          rw [List.length_map]
          unfold colTo
          rw [List.take_length]
          rfl
        rw [Ap.nearPts_succ, ← ef]
        exact ht
    · rintro σ H' ⟨sm, ht, v4, v5, rfl⟩
      exact ⟨_, rfl, q H' o sm no ht⟩
/-! ### light_near -/
theorem scLight : FnScope ["most", "w", "h", "f", "x", "y", "across", "light", "q", "dy", "c", "dx"] ["most", "w", "h", "f", "x", "y"] (defScope sLight) := ⟨rfl, rfl, rfl, by decide +kernel, rfl, by decide +kernel, by decide +kernel⟩
def spLight (K : PySem.W.Frag) : Sp := fun vs H Q _ => ∃ (fa : Addr) (most x y : Int) (W M : Nat) (f : List Int), vs = [.int most, .int W, .int M, .ref fa, .int x, .int y] ∧ SqL K H fa (f.map V.int) ∧ (0 ≤ most ∧ most ≤ 512) ∧ W ≤ 64 ∧ M ≤ 64 ∧ f.length = W * M ∧
  (0 ≤ x ∧ x ≤ 65535) ∧ (0 ≤ y ∧ y ≤ 65535) ∧ ∀ (H' : Hp) (p : Addr), Same H H' → TwosAt H' p (Ap.lightOf most W f (Ap.nearPts most x W) (Ap.nearPts most y M)) → Q (.ref p) H'
theorem ok_light {f fN : Addr} {fd fdN : FuncData} {k : Nat} (F : Fun K "light_near" "light_near" sLight f fd)
    (gN : mg "points_near" = some (.ref fN)) (kN : PySem.W.keepIn K (.ref fN) = true) (bN : Binds K fdN ["most", "many", "at"] []) (GN : FnOk P w K mg base CX0 k fN fdN ["most", "many", "at"] spPnear) :
    FnOk P w K mg base CX0 (k + 1) f fd ["most", "w", "h", "f", "x", "y"] (spLight K) := by
  refine F.ok scLight (fun vs H Q E h => ?_) (fun cdv A outer s H vs Q E hr h => ?_)
  · obtain ⟨fa, most, x, y, W, M, f, rfl, _⟩ := h
    rfl
  · obtain ⟨fa, most, x, y, W, M, f, rfl, hS, hm, hW, hM, hlen, hx, hy, q⟩ := h
    refine ⟨_, pss_cons (ps_set (i := 6) scLight.nd rfl (.inl rfl) (pe_call GN hr (by rfl) gN kN bN .nil pass0 (pa_cons (pv 0) (pa_cons (pv 1) (pa_cons (pv 4) pa_nil)))))
      (pss_cons (ps_set (i := 7) scLight.nd rfl (.inl rfl) (pe_lst pa_nil))
      (pss_cons (ps_for PassesOwn.never rfl (pi_list (pe_call GN hr (by rfl) gN kN bN .nil pass0 (pa_cons (pv 0) (pa_cons (pv 2) (pa_cons (pv 5) pa_nil))))) (pg_tup rfl (pgs_cons (pg_name (i := 8) scLight.nd rfl (.inl rfl)) (pgs_cons (pg_name (i := 9) scLight.nd rfl (.inl rfl)) pgs_nil)))
        (pss_one (ps_for PassesOwn.never rfl (pi_list (pv 6)) (pg_tup rfl (pgs_cons (pg_name (i := 10) scLight.nd rfl (.inl rfl)) (pgs_cons (pg_name (i := 11) scLight.nd rfl (.inl rfl)) pgs_nil)))
          (pss_one (ps_if (pt_cmpR op_le (pe_op op_add (pv 11) (pv 9)) (pe_op op_mul (pv 0) (pv 0)) (nomark _))
            (pss_one (ps_expr (pe_bm PySem.F.plainAttrs_list PySem.F.slot_list_append PySem.F.type_list_append mt_append (pv 7) (pa_cons (pe_tup (pa_cons (pe_op op_add (pv 11) (pv 9))
              (pa_cons (pe_ix ix_list (pv 3) (pe_op op_add (pe_op op_mul (pv 8) (pv 1)) (pv 10)) (fun _ _ => rfl)) pa_nil))) pa_nil)))) pss_nil)))))
      (pss_one (ps_ret (pv 7))))), ?_⟩
    refine ⟨_, rfl, _, rfl, _, rfl, most, x, W, rfl, hm, hW, hx, fun H1 a1 sm1 na1 hxs => ?_⟩
    refine ⟨Nat.zero_le _, fun o no => ?_⟩
    have s2 : Same H1 (upd H1 o (.lst [])) := same_new no
    refine ⟨_, rfl, _, rfl, _, rfl, most, y, M, rfl, hm, hM, hy, fun H3 a2 sm3 na2 hys => ?_⟩
    obtain ⟨ts2, ha2, ht2⟩ := hys
    obtain ⟨ts1, ha1, ht1⟩ := (hxs.mono s2).mono sm3
    have ho3 : H3 o = some (.lst []) := sm3 _ _ upd_same
    have n2 : a2 ≠ o := fun e => by
      rw [e, upd_same] at na2
      cases na2
    have n1 : a1 ≠ o := by
      obtain ⟨ts, ha, _⟩ := hxs
      exact ne_of_none ha no
    have sm : Same H H3 := (sm1.trans s2).trans sm3
    have lx := Ap.nearPts_len most x W
    have ly := Ap.nearPts_len most y M
    have hxin : ∀ p ∈ Ap.nearPts most x W, _ := fun p hp => Ap.nearPts_in hp
    have hyin : ∀ p ∈ Ap.nearPts most y M, _ := fun p hp => Ap.nearPts_in hp
    generalize Ap.nearPts most x W = xs at *
    generalize Ap.nearPts most y M = ys at *
    have hkp : ∀ {H' : Hp}, (∀ b ob, b ≠ o → H3 b = some ob → H' b = some ob) → SqL K H' fa (f.map V.int) := fun {H'} kp => by
      rcases hS with (h | ⟨ob, h⟩) | h
      · exact .inl (.inl (kp _ _ (ne_of_none (sm1 _ _ h) no) (sm _ _ h)))
      · exact .inl (.inr ⟨ob, kp _ _ (ne_of_none (sm1 _ _ h) no) (sm _ _ h)⟩)
      · exact .inr h
    refine ⟨a2, rfl, ⟨_, SqL.of ha2⟩, for_list (K := K) (a := a2) (xs := ts2.map V.ref) (fun i σ H' => (∀ b ob, b ≠ o → H3 b = some ob → H' b = some ob) ∧ TwosAt H' o (Ap.lightOf most W f xs (ys.take i)) ∧ ∃ v8 v9 v10 v11 : Option V,
      σ = [some (.int most), some (.int W), some (.int M), some (.ref fa), some (.int x), some (.int y), some (.ref a1), some (.ref o), v8, v9, v10, v11]) ⟨fun _ _ _ e => e, ⟨[], ho3, Twos.nil⟩, none, none, none, none, rfl⟩ (fun i σ H' _ h => SqL.of (h.1 _ _ n2 ha2)) ?_ ?_⟩
    · rintro i v σ H' hi ⟨kp, ht, v8, v9, v10, v11, rfl⟩
      obtain ⟨t, hti, rfl⟩ := ref_at hi
      obtain ⟨a, hai, hT⟩ := ht2.at hti
      have nt : t ≠ o := ne_of hT ho3 (by intro z; cases z)
      have hT' : Two H' t a := kp _ _ nt hT
      obtain ⟨⟨kq, hkq, eq1⟩, hq2, hq3⟩ := hyin a (List.mem_of_getElem? hai)
      refine ⟨t, _, rfl, SqT.of hT', rfl, _, _, rfl, _, _, rfl, rfl, ?_⟩
      refine ⟨_, rfl, a1, rfl, ⟨_, SqL.of (kp _ _ n1 ha1)⟩, for_list (K := K) (a := a1) (xs := ts1.map V.ref) (fun j σ H2 => (∀ b ob, b ≠ o → H3 b = some ob → H2 b = some ob) ∧ TwosAt H2 o (Ap.lightOf most W f xs (ys.take i) ++ (xs.take j).flatMap (Ap.lightAt most W f a)) ∧ ∃ v10 v11 : Option V,
        σ = [some (.int most), some (.int W), some (.int M), some (.ref fa), some (.int x), some (.int y), some (.ref a1), some (.ref o), some (.int a.1), some (.int a.2), v10, v11]) ⟨kp, ?_, v10, v11, rfl⟩ (fun j σ H2 _ h => SqL.of (h.1 _ _ n1 ha1)) ?_ ?_⟩
      · rw [List.take_zero, List.flatMap_nil, List.append_nil]
        exact ht
      · rintro j v σ H2 hj ⟨kp2, ⟨ts, ho, hts⟩, v10', v11', rfl⟩
        obtain ⟨t1, htj, rfl⟩ := ref_at hj
        obtain ⟨b, hbj, hB⟩ := ht1.at htj
        have nt1 : t1 ≠ o := ne_of hB ho3 (by intro z; cases z)
        have hB' : Two H2 t1 b := kp2 _ _ nt1 hB
        obtain ⟨⟨kc, hkc, eq2⟩, hc2, hc3⟩ := hxin b (List.mem_of_getElem? hbj)
        have ez : a.1 * (W : Int) + b.1 = ((kq * W + kc : Nat) : Int) := by rw [eq1, eq2, Int.natCast_add, Int.natCast_mul]
        have ez2 : (a.1 * (W : Int) + b.1).toNat = kq * W + kc := by rw [ez]; rfl
        have ef := flat_take (g := Ap.lightAt most W f a) hbj
        refine ⟨t1, _, rfl, SqT.of hB', rfl, _, _, rfl, _, _, rfl, rfl, ?_⟩
        refine ⟨_, rfl, _, rfl, _, _, rfl, rfl, _, rfl, _, rfl, most, most, rfl, rfl, .inl ⟨by omega, by omega⟩, _, _, rfl, rfl, _, rfl, ite2 (fun e => ?_) (fun e => ?_)⟩
        · have e : b.2 + a.2 ≤ most * most := of_decide_eq_true e
          have ea : Ap.lightAt most W f a b = [(b.2 + a.2, f.getD (kq * W + kc) 0)] := by
            unfold Ap.lightAt
            rw [if_pos e, ez2]
          refine ⟨.ref o, rfl, .inl ⟨rfl, _, SqL.of ho⟩, _, rfl, _, rfl, _, _, rfl, rfl, ?_⟩
          refine ⟨_, rfl, _, rfl, _, rfl, _, _, rfl, rfl, .inl ⟨by omega, by omega⟩, _, rfl, _, _, rfl, rfl, fa, _, _, _, rfl, rfl, hkp kp2, at_D (i := kq * W + kc) ez (by rw [hlen]; exact cell_lt hkq hkc), ?_⟩
          refine ⟨(by show 2 ≤ sizeLine; decide), fun t nt => ?_⟩
          have st := same_new (o := .tup [.int (b.2 + a.2), .int (f.getD (kq * W + kc) 0)]) nt
          have ho2 := st _ _ ho
          refine ⟨o, _, _, rfl, rfl, ho2, ?_, ?_, ?_, _, _, rfl⟩
          · rw [List.length_map, hts.1, List.length_append]
            have h1 := Ap.lightOf_len most W f xs (ys.take i)
            have h2 := Ap.lightRow_len most W f (xs.take j) a
            unfold Ap.lightRow at h2
            have h3 : (ys.take i).length ≤ ys.length := by rw [List.length_take]; omega
            have h4 : (xs.take j).length ≤ xs.length := by rw [List.length_take]; omega
            have h5 : (ys.take i).length * xs.length ≤ 256 * 256 := Nat.mul_le_mul (by omega) (by omega)
            exact line_of (by omega)
          · intro u ob nu e
            rw [upd_ne nu]
            exact st _ _ (kp2 u ob nu e)
          · refine ⟨ts ++ [t], by rw [upd_same, List.map_append]; rfl, ?_⟩
            rw [ef, ea, ← List.append_assoc]
            refine (hts.mono st).push ho2 ?_
            unfold Two
            rw [upd_same]
        · have e : ¬ b.2 + a.2 ≤ most * most := fun z => e (decide_eq_true z)
          have ea : Ap.lightAt most W f a b = [] := by
            unfold Ap.lightAt
            rw [if_neg e]
          refine ⟨kp2, ?_, _, _, rfl⟩
          rw [ef, ea, List.append_nil]
          exact ⟨ts, ho, hts⟩
      · rintro σ H2 ⟨kp2, hts, v10', v11', rfl⟩
        refine ⟨kp2, ?_, _, _, _, _, rfl⟩
        have ew : Ap.lightOf most W f xs (ys.take (i + 1)) = Ap.lightOf most W f xs (ys.take i) ++ Ap.lightRow most W f xs a := flat_take hai
        rw [List.length_map, ht1.1, List.take_length] at hts
        rw [ew]
        exact hts
    · rintro σ H' ⟨kp, ht, v8, v9, v10, v11, rfl⟩
      rw [List.length_map, ht2.1, List.take_length] at ht
      refine ⟨_, rfl, q H' o (fun b ob e => kp b ob (ne_of_none (sm1 _ _ e) no) (sm _ _ e)) ht⟩
end
end Sl
namespace Sl
open PySem PySem.Spec PyProof.Rows L2
open PySem.W (Codec)
abbrev sReach : Stmt := top 14
abbrev sLeast : Stmt := top 15
/-- the pair that stands at a value's address -/
def pairOf (H : Hp) : V → Int × Int
  | .ref t => match H t with
    | some (.tup [.int a, .int b]) => (a, b)
    | _ => (0, 0)
  | _ => (0, 0)
theorem pairOf_is {H : Hp} {t : Addr} {p : Ap.Pr} (h : Two H t p) : pairOf H (.ref t) = p := by
  unfold Two at h
  show (match H t with
    | some (.tup [.int a, .int b]) => (a, b)
    | _ => (0, 0)) = p
  rw [h]
theorem Twos.map {H : Hp} {ts : List Addr} {ps : List Ap.Pr} (h : Twos H ts ps) : (ts.map V.ref).map (pairOf H) = ps := by
  apply List.ext_getElem?
  intro i
  rw [List.map_map, List.getElem?_map]
  cases e : ts[i]? with
  | none =>
    have := List.getElem?_eq_none_iff.mp e
    exact (List.getElem?_eq_none_iff.mpr (by rw [← h.1]; exact this)).symm
  | some t =>
    obtain ⟨p, hp, hT⟩ := h.at e
    rw [hp]
    exact congrArg some (pairOf_is hT)
theorem Twos.each {H : Hp} {ts : List Addr} {ps : List Ap.Pr} (h : Twos H ts ps) : ∀ x ∈ ts.map V.ref, ∃ t, x = V.ref t ∧ H t = some (.tup [.int (pairOf H x).1, .int (pairOf H x).2]) := by
  intro x hx
  obtain ⟨i, hi⟩ := List.getElem?_of_mem hx
  obtain ⟨t, ht, rfl⟩ := ref_at hi
  obtain ⟨p, _, hT⟩ := h.at ht
  refine ⟨t, rfl, ?_⟩
  rw [pairOf_is hT]
  exact hT
section
variable {P : Program} {w : World} {K : PySem.W.Frag} {mg : Str → Option Value} {base : Heap}
/-! ### radius_that_reaches -/
theorem scReach : FnScope ["gap", "below"] ["gap"] (defScope sReach) := ⟨rfl, rfl, rfl, by decide +kernel, rfl, by decide +kernel, by decide +kernel⟩
def spReach : Sp := fun vs H Q _ => ∃ g : Int, vs = [.int g] ∧ 0 ≤ g ∧ g ≤ 262144 ∧ Q (.int ((Ap.ceilR g.toNat : Nat) : Int)) H
theorem ok_reach {f fR : Addr} {fd fdR : FuncData} {k : Nat} (F : Fun K "radius_that_reaches" "radius_that_reaches" sReach f fd)
    (gR : mg "root" = some (.ref fR)) (kR : PySem.W.keepIn K (.ref fR) = true) (bR : Binds K fdR ["n"] []) (GR : FnOk P w K mg base CX0 k fR fdR ["n"] spRoot) :
    FnOk P w K mg base CX0 (k + 1) f fd ["gap"] spReach := by
  refine F.ok scReach (fun vs H Q E h => ?_) (fun cdv A outer s H vs Q E hr h => ?_)
  · obtain ⟨g, rfl, _⟩ := h
    rfl
  · obtain ⟨g, rfl, g0, g1, q⟩ := h
    refine ⟨_, pss_cons (ps_set (i := 1) scReach.nd rfl (.inl rfl) (pe_call GR hr (by rfl) gR kR bR .nil pass0 (pa_cons (pv 0) pa_nil)))
      (pss_one (ps_ret (pe_ifExp (pt_cmpR op_eq (pe_op op_mul (pv 1) (pv 1)) (pv 0) (nomark _)) (pv 1) (pe_op op_add (pv 1) pe_int)))), ?_⟩
    obtain ⟨r0, r1, r2⟩ := Ap.rootZ_is g0 (show g < 18446744073709551616 by omega)
    have er : Ap.rootZ g = ((Sh67.root g.toNat : Nat) : Int) := rfl
    have eg : g = ((g.toNat : Nat) : Int) := by omega
    have r3 : Ap.rootZ g ≤ 262144 := by
      apply Decidable.byContradiction
      intro z
      have h1 : 262145 * 1 ≤ Ap.rootZ g * Ap.rootZ g := Int.mul_le_mul (by omega) (by omega) (by decide) r0
      omega
    refine ⟨_, rfl, g, rfl, g0, by omega, ?_⟩
    have ec : Ap.rootZ g * Ap.rootZ g = g ↔ Sh67.root g.toNat * Sh67.root g.toNat = g.toNat := by
      rw [er, ← Int.natCast_mul]
      omega
    have hq : ∀ z : Int, z = ((Ap.ceilR g.toNat : Nat) : Int) → Q (.int z) H := fun z e => by
      rw [e]
      exact q
    refine ⟨_, rfl, _, rfl, _, _, rfl, rfl, .inl ⟨by omega, by omega⟩, _, rfl, rfl, _, rfl, ite2 (fun e => ?_) (fun e => ?_)⟩
    · have e : Ap.rootZ g * Ap.rootZ g = g := V.int.inj (of_decide_eq_true e)
      refine ⟨_, rfl, hq _ ?_⟩
      unfold Ap.ceilR
      rw [if_pos (ec.mp e)]
      rfl
    · have e : ¬ Ap.rootZ g * Ap.rootZ g = g := fun z => e (decide_eq_true (congrArg V.int z))
      refine ⟨_, rfl, _, 1, rfl, rfl, hq _ ?_⟩
      unfold Ap.ceilR
      rw [if_neg (fun z => e (ec.mpr z))]
      rfl
/-! ### least_radius -/
theorem scLeast : FnScope ["light", "k", "need", "have", "reach", "gap", "number"] ["light", "k"] (defScope sLeast) := ⟨rfl, rfl, rfl, by decide +kernel, rfl, by decide +kernel, by decide +kernel⟩
/-- R is told wherever the taking may end -/
def Tells (R : Nat) (k : Int) (ps : List Ap.Pr) : Prop := ∀ (l : List Ap.Pr) (i : Nat), l.Perm ps → (l.Pairwise fun a b => a.1 ≤ b.1) → i ≤ l.length → k * Ap.total l ≤ 256 * Ap.total (l.take i) → (∀ j, j + 1 = i → 256 * Ap.total (l.take j) < k * Ap.total l) →
  0 ≤ Ap.reachOf l i ∧ Ap.reachOf l i ≤ 262144 ∧ R = Ap.ceilR (Ap.reachOf l i).toNat
def spLeast : Sp := fun vs H Q _ => ∃ (a : Addr) (k : Int) (ps : List Ap.Pr) (R : Nat), vs = [.ref a, .int k] ∧ TwosAt H a ps ∧ ps.length ≤ 65536 ∧ (0 ≤ k ∧ k ≤ 256) ∧ (∀ p ∈ ps, 0 ≤ p.2) ∧ Tells R k ps ∧ ∀ H' : Hp, Same H H' → Q (.int (R : Int)) H'
theorem ok_least {f fR : Addr} {fd fdR : FuncData} {k t : Nat} (F : Fun K "least_radius" "least_radius" sLeast f fd) (gS : mg "MOST_SHARE" = some (.int 256 t)) (mS : mg "sum" = none) (mO : mg "sorted" = none)
    (gR : mg "radius_that_reaches" = some (.ref fR)) (kR : PySem.W.keepIn K (.ref fR) = true) (bR : Binds K fdR ["gap"] []) (GR : FnOk P w K mg base CX0 k fR fdR ["gap"] spReach) :
    FnOk P w K mg base CX0 (k + 1) f fd ["light", "k"] spLeast := by
  refine F.ok scLeast (fun vs H Q E h => ?_) (fun cdv A outer s H vs Q E hr h => ?_)
  · obtain ⟨a, k, ps, R, rfl, _⟩ := h
    rfl
  · obtain ⟨a, k, ps, R, rfl, ⟨ts, ha, ht⟩, hlen, hk, hn, hR, q⟩ := h
    refine ⟨_, pss_cons (ps_set (i := 2) scLeast.nd rfl (.inl rfl) (pe_op op_mul (pv 1) (pe_callB (cr_sum rfl) (by rfl) mS (by decide +kernel) (pa_cons
        (pe_lc (own := [("gap", 5), ("number", 6)]) (g := gTup K 2 (gCons (gName 5) (gCons (gName 6) gNil))) (tt := tYes) rfl scLeast.nd (pi_list (pv 0))
          (blkOk_by (own := [("gap", 5), ("number", 6)]) (N := ["light", "k", "need", "have", "reach", "gap", "number"]) (sc := defScope sLeast) (by decide +kernel))
          (fun _ _ _ _ _ => pg_tup rfl (pgs_cons (pg_name (i := 5) scLeast.nd rfl (.inl rfl)) (pgs_cons (pg_name (i := 6) scLeast.nd rfl (.inl rfl)) pgs_nil))) (fun _ _ _ _ _ => pts_nil)
          (fun _ _ _ _ _ => pv 6)) pa_nil))))
      (pss_cons (ps_set (i := 3) scLeast.nd rfl (.inl rfl) pe_int)
      (pss_cons (ps_set (i := 4) scLeast.nd rfl (.inl rfl) pe_int)
      (pss_cons (ps_for PassesOwn.never rfl (pi_list (pe_callB cr_sortedPO (by rfl) mO (by decide +kernel) (pa_cons (pv 0) pa_nil))) (pg_tup rfl (pgs_cons (pg_name (i := 5) scLeast.nd rfl (.inl rfl)) (pgs_cons (pg_name (i := 6) scLeast.nd rfl (.inl rfl)) pgs_nil)))
        (pss_cons (ps_if (pt_cmpR op_ge (pv 3) (pv 2) (nomark _)) (pss_one ps_break) pss_nil)
        (pss_cons (ps_aug (i := 3) scLeast.nd rfl (.inl rfl) (pe_op op_mul (pe_glob (v := .int 256) rfl gS ⟨_, rfl⟩) (pv 6)) ip_add)
        (pss_one (ps_set (i := 4) scLeast.nd rfl (.inl rfl) (pv 5))))))
      (pss_one (ps_ret (pe_call GR hr (by rfl) gR kR bR .nil pass0 (pa_cons (pv 4) pa_nil))))))), ?_⟩
    refine ⟨_, rfl, .ref a, rfl, a, rfl, ⟨_, SqL.of ha⟩, fun D nD => ?_⟩
    refine lc_list (K := K) (a := a) (xs := ts.map V.ref) (fun i H' => H' D = some (.lst (((ps.take i).map fun p => p.2).map V.int)) ∧ Same H H') ⟨upd_same, same_new nD⟩ (fun _ H' _ h => SqL.of (h.2 _ _ ha)) ?_ ?_
    · rintro i v H1 hi ⟨hD, sm⟩
      obtain ⟨t, hti, rfl⟩ := ref_at hi
      obtain ⟨p, hpi, hp⟩ := ht.at hti
      refine ⟨t, _, rfl, SqT.of (sm _ _ hp), rfl, _, _, rfl, _, _, rfl, rfl, rfl, tyes ?_⟩
      refine ⟨_, rfl, _, hD, ?_, ?_, ?_⟩
      · rw [List.length_map, List.length_map, List.length_take]
        exact line_of (by omega)
      · rw [upd_same, List.take_add_one, hpi, List.map_append, List.map_append]
        rfl
      · intro b ob z
        rw [upd_ne (ne_of_none z nD)]
        exact sm b ob z
    rintro H1 ⟨hD, sm⟩
    rw [List.length_map, ht.1, List.take_length] at hD
    refine ⟨D, _, rfl, SqL.of hD, k, Ap.total ps, rfl, rfl, .inl ⟨by omega, by omega⟩, ?_⟩
    have ht1 := ht.mono sm
    refine ⟨_, rfl, a, _, pairOf H1, rfl, SqL.of (sm _ _ ha), ht1.each, fun ys p srt stb np => ?_⟩
    have hmap := ht1.map
    have sp : Same H1 (upd H1 p (.lst ys)) := same_new np
    have hperm : (ys.map (pairOf H1)).Perm ps := by
      rw [← hmap]
      exact stb.perm.map _
    have hsrt : (ys.map (pairOf H1)).Pairwise fun a b => a.1 ≤ b.1 := by
      refine List.pairwise_map.mpr (srt.imp fun {x y} e => ?_)
      have e := SrtO.lexB_no.mp e
      omega
    have htot := Ap.total_perm hperm
    have hn2 : ∀ p ∈ ys.map (pairOf H1), 0 ≤ p.2 := fun p hp => hn p (hperm.mem_iff.mp hp)
    have hlq : (ys.map (pairOf H1)).length = ys.length := List.length_map _
    have hget : ∀ (i : Nat) (v : V), ys[i]? = some v → ∃ t, v = V.ref t ∧ upd H1 p (.lst ys) t = some (.tup [.int (pairOf H1 v).1, .int (pairOf H1 v).2]) ∧ (ys.map (pairOf H1))[i]? = some (pairOf H1 v) := fun i v hv => by
      have hm := stb.perm.mem_iff.mp (List.mem_of_getElem? hv)
      obtain ⟨t, e, hT⟩ := ht1.each v hm
      refine ⟨t, e, sp _ _ hT, ?_⟩
      rw [List.getElem?_map, hv]
      rfl
    have hfin : ∀ (i : Nat), i ≤ (ys.map (pairOf H1)).length → k * Ap.total (ys.map (pairOf H1)) ≤ 256 * Ap.total ((ys.map (pairOf H1)).take i) → (∀ j, j + 1 = i → 256 * Ap.total ((ys.map (pairOf H1)).take j) < k * Ap.total (ys.map (pairOf H1))) →
        0 ≤ Ap.reachOf (ys.map (pairOf H1)) i ∧ Ap.reachOf (ys.map (pairOf H1)) i ≤ 262144 ∧ Q (.int ((Ap.ceilR (Ap.reachOf (ys.map (pairOf H1)) i).toNat : Nat) : Int)) (upd H1 p (.lst ys)) := fun i hi h1 h2 => by
      obtain ⟨r1, r2, r3⟩ := hR _ i hperm hsrt hi h1 h2
      refine ⟨r1, r2, ?_⟩
      rw [← r3]
      exact q _ (sm.trans sp)
    rw [← htot]
    generalize ys.map (pairOf H1) = qs at *
    refine ⟨p, rfl, ⟨_, SqL.of upd_same⟩, for_list (K := K) (a := p) (xs := ys) (fun i σ H' => H' = upd H1 p (.lst ys) ∧ (∀ j, j + 1 = i → 256 * Ap.total (qs.take j) < k * Ap.total qs) ∧ ∃ v5 v6 : Option V,
      σ = [some (.ref a), some (.int k), some (.int (k * Ap.total qs)), some (.int (256 * Ap.total (qs.take i))), some (.int (Ap.reachOf qs i)), v5, v6]) ⟨rfl, fun j hj => by omega, none, none, rfl⟩ (fun i σ H' _ h => by rw [h.1]; exact SqL.of upd_same) ?_ ?_⟩
    · rintro i v σ H' hi ⟨rfl, hlow, v5, v6, rfl⟩
      obtain ⟨t, rfl, hT, hqi⟩ := hget i v hi
      have hil : i < qs.length := (List.getElem?_eq_some_iff.mp hqi).1
      refine ⟨t, _, rfl, SqT.of hT, rfl, _, _, rfl, _, _, rfl, rfl, ?_⟩
      refine ⟨_, rfl, _, rfl, _, _, rfl, rfl, _, rfl, ite2 (fun e => ?_) (fun e => ?_)⟩
      · have e : k * Ap.total qs ≤ 256 * Ap.total (qs.take i) := of_decide_eq_true e
        obtain ⟨r1, r2, r3⟩ := hfin i (by omega) e hlow
        exact ⟨_, rfl, _, rfl, r1, r2, r3⟩
      · have e : ¬ k * Ap.total qs ≤ 256 * Ap.total (qs.take i) := fun z => e (decide_eq_true z)
        refine ⟨_, rfl, _, rfl, 256, _, rfl, rfl, .inl ⟨by decide, by decide⟩, _, _, rfl, rfl, _, rfl, rfl, ?_, some (.int (pairOf H1 (V.ref t)).1), some (.int (pairOf H1 (V.ref t)).2), ?_⟩
        · intro j hj
          have : j = i := by omega
          rw [this]
          omega
        · have e1 : 256 * Ap.total (qs.take (i + 1)) = 256 * Ap.total (qs.take i) + 256 * (pairOf H1 (V.ref t)).2 := by
            rw [Ap.total_take hqi, Int.mul_add]
          have e2 : Ap.reachOf qs (i + 1) = (pairOf H1 (V.ref t)).1 := by
            show (qs.getD i (0, 0)).1 = _
            rw [List.getD_eq_getElem?_getD, hqi]
            rfl
          rw [e1, e2]
          rfl
    · rintro σ H' ⟨rfl, hlow, v5, v6, rfl⟩
      rw [← hlq] at hlow ⊢
      obtain ⟨r1, r2, r3⟩ := hfin qs.length (Nat.le_refl _) (Ap.all_enough hk.2 hn2) hlow
      exact ⟨_, rfl, _, rfl, r1, r2, r3⟩
end
end Sl
namespace Sl
open PySem PySem.Spec PyProof.Rows L2
open PySem.W (Codec)
abbrev sMain : Stmt := top 16
section
variable {P : Program} {w : World} {K : PySem.W.Frag} {mg : Str → Option Value} {base : Heap}
/-! ### ap_radius -/
theorem scMain : FnScope ["most", "k", "w", "h", "f", "xy", "answer", "x", "y"] ["most", "k", "w", "h", "f", "xy"] (defScope sMain) := ⟨rfl, rfl, rfl, by decide +kernel, rfl, by decide +kernel, by decide +kernel⟩
def spMain (K : PySem.W.Frag) : Sp := fun vs H Q _ => ∃ (c d : Addr) (m k w h : Int) (f xy : List Int), vs = [.int m, .int k, .int w, .int h, .ref c, .ref d] ∧ SqL K H c (f.map V.int) ∧ SqL K H d (xy.map V.int) ∧ 0 ≤ m ∧ 0 ≤ k ∧ 0 ≤ w ∧ 0 ≤ h ∧ (∀ z ∈ f, 0 ≤ z) ∧ (∀ z ∈ xy, 0 ≤ z ∧ z ≤ 65535) ∧
  PySh67.ap_radius_asked m k w h f xy = true ∧ ∀ (H' : Hp) (p : Addr), H' p = some (.lst ((PySh67.ap_radius m k w h f xy).map V.int)) → Q (.ref p) H'
theorem ok_main {f fF fM fP fA fB : Addr} {fd fdF fdM fdP fdA fdB : FuncData} {k t u : Nat} (F : Fun K "ap_radius" "ap_radius" sMain f fd) (gR : mg "MOST_REACH" = some (.int 512 t)) (gS : mg "MOST_SHARE" = some (.int 256 u))
    (gF : mg "frame_is_bad" = some (.ref fF)) (kF : PySem.W.keepIn K (.ref fF) = true) (bF : Binds K fdF ["w", "h"] []) (GF : FnOk P w K mg base CX0 k fF fdF ["w", "h"] spFrame)
    (gM : mg "places_are_bad" = some (.ref fM)) (kM : PySem.W.keepIn K (.ref fM) = true) (bM : Binds K fdM ["xy"] []) (GM : FnOk P w K mg base CX0 k fM fdM ["xy"] (spMany K))
    (gP : mg "places_of" = some (.ref fP)) (kP : PySem.W.keepIn K (.ref fP) = true) (bP : Binds K fdP ["xy"] []) (GP : FnOk P w K mg base CX0 k fP fdP ["xy"] (spPlaces K))
    (gA : mg "light_near" = some (.ref fA)) (kA : PySem.W.keepIn K (.ref fA) = true) (bA : Binds K fdA ["most", "w", "h", "f", "x", "y"] []) (GA : FnOk P w K mg base CX0 k fA fdA ["most", "w", "h", "f", "x", "y"] (spLight K))
    (gB : mg "least_radius" = some (.ref fB)) (kB : PySem.W.keepIn K (.ref fB) = true) (bB : Binds K fdB ["light", "k"] []) (GB : FnOk P w K mg base CX0 k fB fdB ["light", "k"] spLeast) :
    FnOk P w K mg base CX0 (k + 1) f fd ["most", "k", "w", "h", "f", "xy"] (spMain K) := by
  refine F.ok scMain (fun vs H Q E h => ?_) (fun cdv A outer s H vs Q E hr hh => ?_)
  · obtain ⟨c, d, m, k, w, h, f, xy, rfl, _⟩ := h
    rfl
  · obtain ⟨c, d, m, k, w, h, f, xy, rfl, hA, hB, m0, k0, w0, h0, hf, hxy, hask, q⟩ := hh
    refine ⟨_, pss_cons (ps_if (PW.pt (pw_or (pt_cmpR op_gt (pv 0) (pe_glob (v := .int 512) rfl gR ⟨_, rfl⟩) (nomark _)) (pw_or (pt_cmpR op_gt (pv 1) (pe_glob (v := .int 256) rfl gS ⟨_, rfl⟩) (nomark _))
        (pw_or (pt_val (pe_call GF hr (by rfl) gF kF bF .nil pass0 (pa_cons (pv 2) (pa_cons (pv 3) pa_nil))))
        (pw_or1 (pt_val (pe_call GM hr (by rfl) gM kM bM .nil pass0 (pa_cons (pv 5) pa_nil)))))))) (pss_one (ps_ret (pe_lst (pa_cons (pe_un un_neg pe_int) pa_nil)))) pss_nil)
      (pss_cons (ps_set (i := 6) scMain.nd rfl (.inl rfl) (pe_lst (pa_cons pe_int pa_nil)))
      (pss_cons (ps_for PassesOwn.never rfl (pi_list (pe_call GP hr (by rfl) gP kP bP .nil pass0 (pa_cons (pv 5) pa_nil))) (pg_tup rfl (pgs_cons (pg_name (i := 7) scMain.nd rfl (.inl rfl)) (pgs_cons (pg_name (i := 8) scMain.nd rfl (.inl rfl)) pgs_nil)))
        (pss_one (ps_expr (pe_bm PySem.F.plainAttrs_list PySem.F.slot_list_append PySem.F.type_list_append mt_append (pv 6) (pa_cons (pe_call GB hr (by rfl) gB kB bB .nil pass0 (pa_cons
          (pe_call GA hr (by rfl) gA kA bA .nil pass0 (pa_cons (pv 0) (pa_cons (pv 2) (pa_cons (pv 3) (pa_cons (pv 4) (pa_cons (pv 7) (pa_cons (pv 8) pa_nil))))))) (pa_cons (pv 1) pa_nil))) pa_nil)))))
      (pss_one (ps_ret (pv 6))))), ?_⟩
    have hbad : ¬ (m ≤ 512 ∧ k ≤ 256 ∧ Ap.FrameOk w h xy) → ∀ p, Q (.ref p) (upd H p (.lst [.int (-2)])) := fun n p => q _ p (by
      rw [upd_same, Ap.radius_bad hask m0 k0 n]
      rfl)
    refine ⟨_, rfl, m, 512, rfl, rfl, _, rfl, ite2 (fun e => ?_) (fun e => ?_)⟩
    · have e := of_decide_eq_true e
      exact ⟨2, rfl, (by show 1 ≤ sizeLine; decide), fun p _ => hbad (fun z => by omega) p⟩
    have em : m ≤ 512 := by
      have : ¬ 512 < m := fun z => e (decide_eq_true z)
      omega
    refine ⟨_, rfl, k, 256, rfl, rfl, _, rfl, ite2 (fun e => ?_) (fun e => ?_)⟩
    · have e := of_decide_eq_true e
      exact ⟨2, rfl, (by show 1 ≤ sizeLine; decide), fun p _ => hbad (fun z => by omega) p⟩
    have ek : k ≤ 256 := by
      have : ¬ 256 < k := fun z => e (decide_eq_true z)
      omega
    refine ⟨_, rfl, _, rfl, w, h, rfl, fun c' hc => ⟨c', rfl, ?_⟩⟩
    cases c' with
    | true => exact ⟨2, rfl, (by show 1 ≤ sizeLine; decide), fun p _ => hbad (fun z => by have := hc.mp rfl; unfold Ap.FrameOk at z; omega) p⟩
    | false =>
      have e2 : 1 ≤ w ∧ w ≤ 64 ∧ 1 ≤ h ∧ h ≤ 64 := by
        apply Decidable.byContradiction
        intro z
        exact Bool.noConfusion (hc.mpr z)
      refine ⟨_, rfl, d, xy, rfl, hB, fun c' hc => ⟨c', rfl, ?_⟩⟩
      cases c' with
      | true => exact ⟨2, rfl, (by show 1 ≤ sizeLine; decide), fun p _ => hbad (fun z => by have := hc.mp rfl; unfold Ap.FrameOk at z; omega) p⟩
      | false =>
        have e3 : xy.length ≤ 128 := by
          apply Decidable.byContradiction
          intro z
          exact Bool.noConfusion (hc.mpr z)
        have hok : m ≤ 512 ∧ k ≤ 256 ∧ Ap.FrameOk w h xy := ⟨em, ek, e2.1, e2.2.1, e2.2.2.1, e2.2.2.2, e3⟩
        obtain ⟨hev, hfl0⟩ := Ap.radius_asked hask m0 k0
        have hfl1 := hfl0 em ek hok.2.2
        rw [Ap.radius_good (fun z hz => (hxy z hz).1) hok] at q
        obtain ⟨W, rfl⟩ : ∃ W : Nat, w = (W : Int) := ⟨w.toNat, by omega⟩
        obtain ⟨M, rfl⟩ : ∃ M : Nat, h = (M : Int) := ⟨h.toNat, by omega⟩
        obtain ⟨B, rfl⟩ : ∃ B : Nat, m = (B : Int) := ⟨m.toNat, by omega⟩
        obtain ⟨L, rfl⟩ : ∃ L : Nat, k = (L : Int) := ⟨k.toNat, by omega⟩
        have hfl : f.length = W * M := hfl1
        -- answer = [0]
        refine ⟨(by show 1 ≤ sizeLine; decide), fun o no => ?_⟩
        have s1 : Same H (upd H o (.lst [.int 0])) := same_new no
        refine ⟨_, rfl, d, xy, rfl, s1.seq hB, hev, e3, fun H2 p ts sm hp hl hpl => ?_⟩
        have sm2 : Same H H2 := s1.trans sm
        have ho2 : H2 o = some (.lst [.int 0]) := sm _ _ upd_same
        refine ⟨p, rfl, ⟨_, SqL.of hp⟩, ?_⟩
        by_cases hpo : p = o
        · subst hpo
          have e := hp.symm.trans ho2
          have e := HO.lst.inj (Option.some.inj e)
          cases ts with
          | nil => cases e
          | cons t0 r0 => cases e
        refine for_list (K := K) (a := p) (xs := ts.map V.ref) (fun i σ H' => ∃ v7 v8 : Option V, σ = [some (.int (B : Int)), some (.int (L : Int)), some (.int W), some (.int M), some (.ref c), some (.ref d), some (.ref o), v7, v8] ∧ (∀ e ob, e ≠ o → H2 e = some ob → H' e = some ob) ∧
          H' o = some (.lst ((0 :: Ap.mapTo i (Ap.radAt B L W M f xy)).map V.int))) ⟨none, none, rfl, fun _ _ _ e => e, ho2⟩ (fun i σ H' _ ⟨_, _, _, kp, _⟩ => SqL.of (kp _ _ hpo hp)) ?_ ?_
        · rintro i v σ H' hi ⟨v7, v8, rfl, kp, ho⟩
          obtain ⟨t, ht, rfl⟩ := ref_at hi
          have hil : i < xy.length / 2 := by
            have := (List.getElem?_eq_some_iff.mp ht).1
            omega
          have hT := hpl i t ht
          have nt : t ≠ o := ne_of hT ho2 (by intro z; cases z)
          have hx := getD_in hxy ⟨by decide, by decide⟩ (2 * i)
          have hy := getD_in hxy ⟨by decide, by decide⟩ (2 * i + 1)
          refine ⟨t, _, rfl, .inl (.inl (kp _ _ nt hT)), rfl, _, _, rfl, _, _, rfl, rfl, ?_⟩
          have hA' : SqL K H' c (f.map V.int) := by
            rcases hA with (h | ⟨ob, h⟩) | h
            · exact .inl (.inl (kp _ _ (ne_of_none h no) (sm2 _ _ h)))
            · exact .inl (.inr ⟨ob, kp _ _ (ne_of_none h no) (sm2 _ _ h)⟩)
            · exact .inr h
          refine ⟨.ref o, rfl, .inl ⟨rfl, _, SqL.of ho⟩, _, rfl, _, rfl, _, rfl, _, rfl, _, rfl, _, rfl, c, (B : Int), Ap.placeX xy i, Ap.placeY xy i, W, M, f, rfl, hA', ⟨m0, em⟩, by omega, by omega, hfl, hx, hy, fun H3 p3 sm3 hp3 => ?_⟩
          have hlen := Ap.lightOf_len (B : Int) W f (Ap.nearPts B (Ap.placeX xy i) W) (Ap.nearPts B (Ap.placeY xy i) M)
          have lx := Ap.nearPts_len (B : Int) (Ap.placeX xy i) W
          have ly := Ap.nearPts_len (B : Int) (Ap.placeY xy i) M
          have l2 : (Ap.nearPts B (Ap.placeY xy i) M).length * (Ap.nearPts B (Ap.placeX xy i) W).length ≤ 256 * 256 := Nat.mul_le_mul (by omega) (by omega)
          refine ⟨_, rfl, p3, (L : Int), _, Sh67.radius W M (Sh67Neutral.nats f) (Ap.placeX xy i) (Ap.placeY xy i) B L, rfl, hp3, by omega, ⟨k0, ek⟩, fun p hp => (Ap.light_in hf (fun p hp => (Ap.nearPts_in hp).2.1) (fun p hp => (Ap.nearPts_in hp).2.1) hp).2.2,
            fun l j h1 h2 h3 h4 h5 => Ap.reach_is W M f (Ap.placeX xy i) (Ap.placeY xy i) (by omega) (by omega) hf h1 h2 h3 h4 h5, fun H4 sm4 => ?_⟩
          have ho4 := sm4 _ _ (sm3 _ _ ho)
          refine ⟨o, _, _, rfl, rfl, ho4, ?_, ?_⟩
          · rw [List.length_map, List.length_cons, Ap.mapTo_len]
            exact small1000 (by omega)
          · refine ⟨_, _, rfl, fun e ob ne h => ?_, ?_⟩
            · rw [upd_ne ne]
              exact sm4 _ _ (sm3 _ _ (kp e ob ne h))
            · rw [upd_same, Ap.mapTo_succ, ← List.cons_append, List.map_append]
              rfl
        · rintro σ H' ⟨v7, v8, rfl, kp, ho⟩
          rw [List.length_map, hl] at ho
          exact ⟨_, rfl, q H' o ho⟩
end
end Sl
namespace Sl
open PySem PySem.Spec PyProof.Rows L2
open PySem.W (Codec)
/-! ### what the top has written -/
theorem all_mk {P : Program} {w : World} {K : PySem.W.Frag} {h : Heap} {mg : Str → Option Value} {fa f1 f2 f3 f4 f5 f6 f7 f8 f9 f10 p0 : Addr} (X : K.In h) (G : h.Ns mainGlobals mg) (hfa : mg "ap_radius" = some (.ref fa))
    {od1 an1 od2 an2 od3 an3 od4 an4 od5 an5 od6 an6 od7 an7 od8 an8 od9 an9 od10 an10 odp0 : Option Addr} {sl1 sl2 sl3 sl4 sl5 sl6 sl7 sl8 sl9 sl10 slp0 : Array (Option Value)} {oc1 kV1 dc1 pm1 cd1 ct1 oc2 kV2 dc2 pm2 cd2 ct2 oc3 kV3 dc3 pm3 cd3 ct3 oc4 kV4 dc4 pm4 cd4 ct4 oc5 kV5 dc5 pm5 cd5 ct5 oc6 kV6 dc6 pm6 cd6 ct6 oc7 kV7 dc7 pm7 cd7 ct7 oc8 kV8 dc8 pm8 cd8 ct8 oc9 kV9 dc9 pm9 cd9 ct9 oc10 kV10 dc10 pm10 cd10 ct10 : Value} {t0 t1 t2 t3 t4 np0 tp0_0 tp0_1 tp0_2 tp0_3 : Nat}
    (a1 : PySem.W.nsIn K mainGlobals "frame_is_bad" = some (some (.ref f1))) (l1 : K.lookup f1 = some ⟨oc1, od1, .func (PySem.W.fnOf "frame_is_bad" "frame_is_bad" (defArgs sFrame) (defBody sFrame) (defScope sFrame) .none kV1 dc1 pm1 an1 cd1 ct1), sl1⟩) (c1 : PySem.W.codeIn K cd1 "frame_is_bad" = true) (k1 : PySem.W.keepIn K (.ref f1) = true)
    (a2 : PySem.W.nsIn K mainGlobals "places_are_bad" = some (some (.ref f2))) (l2 : K.lookup f2 = some ⟨oc2, od2, .func (PySem.W.fnOf "places_are_bad" "places_are_bad" (defArgs sMany) (defBody sMany) (defScope sMany) .none kV2 dc2 pm2 an2 cd2 ct2), sl2⟩) (c2 : PySem.W.codeIn K cd2 "places_are_bad" = true) (k2 : PySem.W.keepIn K (.ref f2) = true)
    (a3 : PySem.W.nsIn K mainGlobals "places_of" = some (some (.ref f3))) (l3 : K.lookup f3 = some ⟨oc3, od3, .func (PySem.W.fnOf "places_of" "places_of" (defArgs sPlaces) (defBody sPlaces) (defScope sPlaces) .none kV3 dc3 pm3 an3 cd3 ct3), sl3⟩) (c3 : PySem.W.codeIn K cd3 "places_of" = true) (k3 : PySem.W.keepIn K (.ref f3) = true)
    (a4 : PySem.W.nsIn K mainGlobals "point_gaps" = some (some (.ref f4))) (l4 : K.lookup f4 = some ⟨oc4, od4, .func (PySem.W.fnOf "point_gaps" "point_gaps" (defArgs sGaps) (defBody sGaps) (defScope sGaps) .none kV4 dc4 pm4 an4 cd4 ct4), sl4⟩) (c4 : PySem.W.codeIn K cd4 "point_gaps" = true) (k4 : PySem.W.keepIn K (.ref f4) = true)
    (a5 : PySem.W.nsIn K mainGlobals "root" = some (some (.ref f5))) (l5 : K.lookup f5 = some ⟨oc5, od5, .func (PySem.W.fnOf "root" "root" (defArgs sRoot) (defBody sRoot) (defScope sRoot) .none kV5 dc5 pm5 an5 cd5 ct5), sl5⟩) (c5 : PySem.W.codeIn K cd5 "root" = true) (k5 : PySem.W.keepIn K (.ref f5) = true)
    (a6 : PySem.W.nsIn K mainGlobals "points_near" = some (some (.ref f6))) (l6 : K.lookup f6 = some ⟨oc6, od6, .func (PySem.W.fnOf "points_near" "points_near" (defArgs sPnear) (defBody sPnear) (defScope sPnear) .none kV6 dc6 pm6 an6 cd6 ct6), sl6⟩) (c6 : PySem.W.codeIn K cd6 "points_near" = true) (k6 : PySem.W.keepIn K (.ref f6) = true)
    (a7 : PySem.W.nsIn K mainGlobals "light_near" = some (some (.ref f7))) (l7 : K.lookup f7 = some ⟨oc7, od7, .func (PySem.W.fnOf "light_near" "light_near" (defArgs sLight) (defBody sLight) (defScope sLight) .none kV7 dc7 pm7 an7 cd7 ct7), sl7⟩) (c7 : PySem.W.codeIn K cd7 "light_near" = true) (k7 : PySem.W.keepIn K (.ref f7) = true)
    (a8 : PySem.W.nsIn K mainGlobals "radius_that_reaches" = some (some (.ref f8))) (l8 : K.lookup f8 = some ⟨oc8, od8, .func (PySem.W.fnOf "radius_that_reaches" "radius_that_reaches" (defArgs sReach) (defBody sReach) (defScope sReach) .none kV8 dc8 pm8 an8 cd8 ct8), sl8⟩) (c8 : PySem.W.codeIn K cd8 "radius_that_reaches" = true) (k8 : PySem.W.keepIn K (.ref f8) = true)
    (a9 : PySem.W.nsIn K mainGlobals "least_radius" = some (some (.ref f9))) (l9 : K.lookup f9 = some ⟨oc9, od9, .func (PySem.W.fnOf "least_radius" "least_radius" (defArgs sLeast) (defBody sLeast) (defScope sLeast) .none kV9 dc9 pm9 an9 cd9 ct9), sl9⟩) (c9 : PySem.W.codeIn K cd9 "least_radius" = true) (k9 : PySem.W.keepIn K (.ref f9) = true)
    (a10 : PySem.W.nsIn K mainGlobals "ap_radius" = some (some (.ref f10))) (l10 : K.lookup f10 = some ⟨oc10, od10, .func (PySem.W.fnOf "ap_radius" "ap_radius" (defArgs sMain) (defBody sMain) (defScope sMain) .none kV10 dc10 pm10 an10 cd10 ct10), sl10⟩) (c10 : PySem.W.codeIn K cd10 "ap_radius" = true) (k10 : PySem.W.keepIn K (.ref f10) = true)
    (v0 : PySem.W.nsIn K mainGlobals "SIDE" = some (some (.int 64 t0)))
    (v1 : PySem.W.nsIn K mainGlobals "MOST_SIDE" = some (some (.int 64 t1)))
    (v2 : PySem.W.nsIn K mainGlobals "MOST_PLACES" = some (some (.int 64 t2)))
    (v3 : PySem.W.nsIn K mainGlobals "MOST_REACH" = some (some (.int 512 t3)))
    (v4 : PySem.W.nsIn K mainGlobals "MOST_SHARE" = some (some (.int 256 t4)))
    (u0 : PySem.W.nsIn K mainGlobals "POINT_STEPS" = some (some (.ref p0))) (y0 : K.lookup p0 = some ⟨.type "tuple", odp0, .seq #[.int 8 tp0_0, .int 24 tp0_1, .int 40 tp0_2, .int 56 tp0_3] np0, slp0⟩)
    (z0 : PySem.W.nsIn K mainGlobals "len" = some none)
    (z1 : PySem.W.nsIn K mainGlobals "range" = some none)
    (z2 : PySem.W.nsIn K mainGlobals "sum" = some none)
    (z3 : PySem.W.nsIn K mainGlobals "sorted" = some none) :
    ∃ fd : FuncData, (∀ (s : Shared) (us : List Value), us.length = (["most", "k", "w", "h", "f", "xy"] : List Str).length → BindsTo s fd ⟨us, []⟩ ((["most", "k", "w", "h", "f", "xy"] : List Str).zip us)) ∧ ∀ base : Heap, K.In base → base.Ns mainGlobals mg → FnOk P w K mg base CX0 4 fa fd ["most", "k", "w", "h", "f", "xy"] (spMain K) := by
  have e := hfa.symm.trans (PySem.W.mg_of X G a10)
  cases e
  have F1 := fun_mk (st := sFrame) l1 c1 k1
  have b1 := F1.binds (ps := ["w", "h"]) fun _ _ _ _ _ _ us hl => match us, hl with | [_, _], _ => rfl
  have g1 := PySem.W.mg_of X G a1
  have F2 := fun_mk (st := sMany) l2 c2 k2
  have b2 := F2.binds (ps := ["xy"]) fun _ _ _ _ _ _ us hl => match us, hl with | [_], _ => rfl
  have g2 := PySem.W.mg_of X G a2
  have F3 := fun_mk (st := sPlaces) l3 c3 k3
  have b3 := F3.binds (ps := ["xy"]) fun _ _ _ _ _ _ us hl => match us, hl with | [_], _ => rfl
  have g3 := PySem.W.mg_of X G a3
  have F4 := fun_mk (st := sGaps) l4 c4 k4
  have b4 := F4.binds (ps := ["k", "at"]) fun _ _ _ _ _ _ us hl => match us, hl with | [_, _], _ => rfl
  have g4 := PySem.W.mg_of X G a4
  have F5 := fun_mk (st := sRoot) l5 c5 k5
  have b5 := F5.binds (ps := ["n"]) fun _ _ _ _ _ _ us hl => match us, hl with | [_], _ => rfl
  have g5 := PySem.W.mg_of X G a5
  have F6 := fun_mk (st := sPnear) l6 c6 k6
  have b6 := F6.binds (ps := ["most", "many", "at"]) fun _ _ _ _ _ _ us hl => match us, hl with | [_, _, _], _ => rfl
  have g6 := PySem.W.mg_of X G a6
  have F7 := fun_mk (st := sLight) l7 c7 k7
  have b7 := F7.binds (ps := ["most", "w", "h", "f", "x", "y"]) fun _ _ _ _ _ _ us hl => match us, hl with | [_, _, _, _, _, _], _ => rfl
  have g7 := PySem.W.mg_of X G a7
  have F8 := fun_mk (st := sReach) l8 c8 k8
  have b8 := F8.binds (ps := ["gap"]) fun _ _ _ _ _ _ us hl => match us, hl with | [_], _ => rfl
  have g8 := PySem.W.mg_of X G a8
  have F9 := fun_mk (st := sLeast) l9 c9 k9
  have b9 := F9.binds (ps := ["light", "k"]) fun _ _ _ _ _ _ us hl => match us, hl with | [_, _], _ => rfl
  have g9 := PySem.W.mg_of X G a9
  have F10 := fun_mk (st := sMain) l10 c10 k10
  have gv_SIDE := PySem.W.mg_of X G v0
  have gv_MOST_SIDE := PySem.W.mg_of X G v1
  have gv_MOST_PLACES := PySem.W.mg_of X G v2
  have gv_MOST_REACH := PySem.W.mg_of X G v3
  have gv_MOST_SHARE := PySem.W.mg_of X G v4
  have gu_POINT_STEPS := PySem.W.mg_of X G u0
  have hu_POINT_STEPS : ∀ H : Hp, SqT K H p0 (Ap.steps.map V.int) := fun H => .inr ⟨_, _, _, y0, rfl, rfl, (by show 4 ≤ sizeLine; decide), .cons ⟨_, rfl⟩ (.cons ⟨_, rfl⟩ (.cons ⟨_, rfl⟩ (.cons ⟨_, rfl⟩ (.nil))))⟩
  have m_len : mg "len" = none := PySem.W.mg_none_of X G z0
  have m_range : mg "range" = none := PySem.W.mg_none_of X G z1
  have m_sum : mg "sum" = none := PySem.W.mg_none_of X G z2
  have m_sorted : mg "sorted" = none := PySem.W.mg_none_of X G z3
  refine ⟨PySem.W.fnOf "ap_radius" "ap_radius" (defArgs sMain) (defBody sMain) (defScope sMain) .none kV10 dc10 pm10 an10 cd10 ct10, fun s us hu => match us, hu with | [_, _, _, _, _, _], _ => .of_eq rfl, fun base _ _ => ?_⟩
  have GG : FnOk P w K mg base CX0 1 f4 _ ["k", "at"] spGaps := ok_gaps F4 gv_SIDE gu_POINT_STEPS hu_POINT_STEPS
  have GN : FnOk P w K mg base CX0 2 f6 _ ["most", "many", "at"] spPnear := ok_pnear F6 m_range g4 k4 b4 GG
  have GA : FnOk P w K mg base CX0 3 f7 _ ["most", "w", "h", "f", "x", "y"] (spLight K) := ok_light F7 g6 k6 b6 GN
  have GR : FnOk P w K mg base CX0 1 f5 _ ["n"] spRoot := ok_root F5
  have GT : FnOk P w K mg base CX0 2 f8 _ ["gap"] spReach := ok_reach F8 g5 k5 b5 GR
  have GB : FnOk P w K mg base CX0 3 f9 _ ["light", "k"] spLeast := ok_least F9 gv_MOST_SHARE m_sum m_sorted g8 k8 b8 GT
  have GF : FnOk P w K mg base CX0 3 f1 _ ["w", "h"] spFrame := ok_frame F1 gv_MOST_SIDE
  have GM : FnOk P w K mg base CX0 3 f2 _ ["xy"] (spMany K) := ok_many F2 gv_MOST_PLACES m_len
  have GP : FnOk P w K mg base CX0 3 f3 _ ["xy"] (spPlaces K) := ok_places F3 m_len m_range
  exact ok_main F10 gv_MOST_REACH gv_MOST_SHARE g1 k1 b1 GF g2 k2 b2 GM g3 k3 b3 GP g7 k7 b7 GA g9 k9 b9 GB
end Sl
open PySem PySem.W PyProof.Rows
set_option maxRecDepth 100000 in
set_option maxHeartbeats 0 in
theorem PySem.Challenge.cw_starlight_s07_ap_radius_holds : PySem.Challenge.rw_starlight_s07_ap_radius.Holds := by
  w_on; k_headS; (case hw => exact ⟨[.int 0, .int 0, .int 1, .int 1, .list [.int 0], .list []], by decide +kernel, by decide +kernel⟩)
  k_fillS
  refine L2.walk_specK (r := PySem.Challenge.rw_starlight_s07_ap_radius) (k := 4) (CX := L2.CX0) (ps := ["most", "k", "w", "h", "f", "xy"]) (sp := Sl.spMain) (by decide +kernel) rfl rfl ⟨rfl, by decide, by decide⟩ (fun w h Y => PySem.W.kIn_of Y) ?F ?S (fun _ _ _ _ z => z)
  case F =>
    intro w mg fa h Y KX G hmg
    refine' Sl.all_mk KX G hmg ?a1 ?l1 ?c1 ?k1 ?a2 ?l2 ?c2 ?k2 ?a3 ?l3 ?c3 ?k3 ?a4 ?l4 ?c4 ?k4 ?a5 ?l5 ?c5 ?k5 ?a6 ?l6 ?c6 ?k6 ?a7 ?l7 ?c7 ?k7 ?a8 ?l8 ?c8 ?k8 ?a9 ?l9 ?c9 ?k9 ?a10 ?l10 ?c10 ?k10 ?v0 ?v1 ?v2 ?v3 ?v4 ?u0 ?y0 ?z0 ?z1 ?z2 ?z3
    (case a1 => k_is)
    (case l1 => k_is)
    (case c1 => k_is)
    (case k1 => k_is)
    (case a2 => k_is)
    (case l2 => k_is)
    (case c2 => k_is)
    (case k2 => k_is)
    (case a3 => k_is)
    (case l3 => k_is)
    (case c3 => k_is)
    (case k3 => k_is)
    (case a4 => k_is)
    (case l4 => k_is)
    (case c4 => k_is)
    (case k4 => k_is)
    (case a5 => k_is)
    (case l5 => k_is)
    (case c5 => k_is)
    (case k5 => k_is)
    (case a6 => k_is)
    (case l6 => k_is)
    (case c6 => k_is)
    (case k6 => k_is)
    (case a7 => k_is)
    (case l7 => k_is)
    (case c7 => k_is)
    (case k7 => k_is)
    (case a8 => k_is)
    (case l8 => k_is)
    (case c8 => k_is)
    (case k8 => k_is)
    (case a9 => k_is)
    (case l9 => k_is)
    (case c9 => k_is)
    (case k9 => k_is)
    (case a10 => k_is)
    (case l10 => k_is)
    (case c10 => k_is)
    (case k10 => k_is)
    (case v0 => k_is)
    (case v1 => k_is)
    (case v2 => k_is)
    (case v3 => k_is)
    (case v4 => k_is)
    (case u0 => k_is)
    (case y0 => k_is)
    (case z0 => k_is)
    (case z1 => k_is)
    (case z2 => k_is)
    (case z3 => k_is)
  case S =>
    intro K H xs a hO hwi hask hx
    obtain ⟨m, k, w, h, f, xy, u⟩ := a
    cases hx with
    | cons x1 hx =>
    cases hx with
    | cons x0 hx =>
    cases hx with
    | cons x2 hx =>
    cases hx with
    | cons x3 hx =>
    cases hx with
    | cons x4 hx =>
    cases hx with
    | cons x5 hx =>
    cases hx
    cases x1
    cases x0
    cases x2
    cases x3
    cases x4 with
    | lst s4 y4 =>
    cases x5 with
    | lst s5 y5 =>
    have e4 := L2.ints_dw f _ y4
    have e5 := L2.ints_dw xy _ y5
    subst e4 e5
    have q : (Codec.inInt 0 4294967295 m && (Codec.inInt 0 4294967295 k && (Codec.inInt 0 4294967295 w && (Codec.inInt 0 4294967295 h && ((Codec.inLen 0 4200 f && f.all (Codec.inInt 0 65535)) && ((Codec.inLen 0 140 xy && xy.all (Codec.inInt 0 65535)) && true)))))) = true := hwi
    simp only [Bool.and_eq_true, List.all_eq_true] at q
    have i1 := Codec.inInt_iff.mp q.1
    have i0 := Codec.inInt_iff.mp q.2.1
    have i2 := Codec.inInt_iff.mp q.2.2.1
    have i3 := Codec.inInt_iff.mp q.2.2.2.1
    exact ⟨_, _, m, k, w, h, f, xy, rfl, s4, s5, i1.1, i0.1, i2.1, i3.1, fun z hz => (Codec.inInt_iff.mp (q.2.2.2.2.1.2 z hz)).1, fun z hz => Codec.inInt_iff.mp (q.2.2.2.2.2.1.2 z hz), hask, fun H' p hp => .lst (L2.SqL.of hp) (L2.dw_ints _)⟩
#print axioms PySem.Challenge.cw_starlight_s07_ap_radius_holds
