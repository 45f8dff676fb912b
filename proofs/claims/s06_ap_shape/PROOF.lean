import PyProof.Rows.All
import Wide.All
import OpenK.AllK
import Wide.FinOn
import Open.SpecLaws
import KE.OsHead
import KE.OsGo
import HandS.ForSpec
import HandS.Comp
import HandS.Iter
import HandS.Walk
import HandS.SortInts
import PySem.Challenge.RW_starlight_s06_ap_shape
set_option Elab.async false
set_option linter.all false
set_option maxRecDepth 100000
set_option maxHeartbeats 4000000
namespace Ap
/-! ### sums over a list and over a range -/
theorem sum_snoc (l : List Int) (z : Int) : (l ++ [z]).sum = l.sum + z := by
  rw [List.sum_append]
  simp
theorem msum_take {α : Type} {g : α → Int} {l : List α} {i : Nat} {z : α} (h : l[i]? = some z) : ((l.take (i + 1)).map g).sum = ((l.take i).map g).sum + g z := by
  rw [List.take_add_one, h, List.map_append]
  exact sum_snoc _ _
def sumTo (n : Nat) (g : Nat → Int) : Int := ((List.range n).map g).sum
theorem sumTo_zero (g : Nat → Int) : sumTo 0 g = 0 := rfl
theorem sumTo_succ (n : Nat) (g : Nat → Int) : sumTo (n + 1) g = sumTo n g + g n := by
  unfold sumTo
  rw [List.range_succ, List.map_append]
  exact sum_snoc _ _
theorem sumTo_congr {n : Nat} {g g' : Nat → Int} (h : ∀ i, i < n → g i = g' i) : sumTo n g = sumTo n g' := by
  unfold sumTo
  congr 1
  exact List.map_congr_left fun i hi => h i (List.mem_range.mp hi)
theorem cast_sum : ∀ (l : List Nat), ((l.sum : Nat) : Int) = (l.map fun (n : Nat) => (n : Int)).sum
  | [] => rfl
  | a :: r => by
    rw [List.sum_cons, List.map_cons, List.sum_cons, ← cast_sum r]
    omega
theorem flat_sum {α β : Type} (k : α → List β) (g : β → Int) : ∀ l : List α, ((l.flatMap k).map g).sum = (l.map fun a => ((k a).map g).sum).sum
  | [] => rfl
  | a :: r => by
    rw [List.flatMap_cons, List.map_append, List.sum_append, List.map_cons, List.sum_cons, flat_sum k g r]
theorem sq (a : Int) : a ^ 2 = a * a := by
  rw [Int.pow_succ, Int.pow_succ, Int.pow_zero, Int.one_mul]
theorem filt_len {α : Type} (p : α → Bool) : ∀ l : List α, (((l.filter p).length : Nat) : Int) = (l.map fun a => if p a = true then (1 : Int) else 0).sum
  | [] => rfl
  | a :: r => by
    have ih := filt_len p r
    rw [List.filter_cons, List.map_cons, List.sum_cons, ← ih]
    by_cases h : p a = true
    · rw [if_pos h, if_pos h, List.length_cons]
      omega
    · rw [if_neg h, if_neg h]
      omega
/-! ### a place's points -/
def steps : List Int := [8, 24, 40, 56]
def gaps (k z : Int) : List Int := steps.map fun s => (64 * k + s - z) ^ 2
def cnt1 (across : List Int) (dy most : Int) : Int := (across.map fun dx => if dx + dy ≤ most then (1 : Int) else 0).sum
def cnt2 (across down : List Int) (most : Int) : Int := (down.map fun dy => cnt1 across dy most).sum
theorem part_is (x y r : Int) (c q : Nat) : ((Sh67.part x y r c q : Nat) : Int) = cnt2 (gaps c x) (gaps q y) (r * r) := by
  unfold Sh67.part Sh67.points
  rw [filt_len, flat_sum]
  have e : ∀ b a : Nat, (if decide ((((64 * c + a : Nat) : Int) - x) * (((64 * c + a : Nat) : Int) - x) + (((64 * q + b : Nat) : Int) - y) * (((64 * q + b : Nat) : Int) - y) ≤ r * r) = true then (1 : Int) else 0) =
      (if (64 * (c : Int) + (a : Int) - x) ^ 2 + (64 * (q : Int) + (b : Int) - y) ^ 2 ≤ r * r then (1 : Int) else 0) := fun b a => by
    rw [sq, sq, Int.natCast_add, Int.natCast_mul, Int.natCast_add, Int.natCast_mul]
    simp only [decide_eq_true_eq]
    rfl
  simp only [List.map_map]
  unfold cnt2 gaps steps
  simp only [List.map_cons, List.map_nil, List.map_map, cnt1, Function.comp_def, e]
  rfl
theorem cnt1_le (dy most : Int) : ∀ l : List Int, 0 ≤ cnt1 l dy most ∧ cnt1 l dy most ≤ l.length
  | [] => ⟨Int.le_refl _, Int.le_refl _⟩
  | a :: r => by
    have ih := cnt1_le dy most r
    unfold cnt1 at ih ⊢
    rw [List.map_cons, List.sum_cons, List.length_cons]
    split <;> omega
theorem cnt2_le (across : List Int) (most : Int) (ha : across.length = 4) : ∀ l : List Int, 0 ≤ cnt2 across l most ∧ cnt2 across l most ≤ 4 * l.length
  | [] => ⟨Int.le_refl _, Int.le_refl _⟩
  | a :: r => by
    have ih := cnt2_le across most ha r
    have h1 := cnt1_le a most across
    unfold cnt2 at ih ⊢
    rw [List.map_cons, List.sum_cons, List.length_cons]
    omega
theorem gaps_len (k z : Int) : (gaps k z).length = 4 := rfl
/-! ### an aperture -/
def apN (w h : Nat) (f : List Int) (x y r : Int) : Int := sumTo h fun q => sumTo w fun c => f.getD (q * w + c) 0 * cnt2 (gaps c x) (gaps q y) (r * r)
def apP (w h : Nat) (x y r : Int) : Int := sumTo h fun q => sumTo w fun c => cnt2 (gaps c x) (gaps q y) (r * r)
theorem each_sum {α : Type} (w h : Nat) (k : Nat → Nat → α) (g : α → Int) : ((Sh67.each w h k).map g).sum = sumTo h fun q => sumTo w fun c => g (k c q) := by
  unfold Sh67.each sumTo
  rw [flat_sum]
  simp only [List.map_map, Function.comp_def]
theorem nats_getD (f : List Int) (i : Nat) (hf : ∀ z ∈ f, 0 ≤ z) : (((Sh67Neutral.nats f).toArray.getD i 0 : Nat) : Int) = f.getD i 0 := by
  unfold Sh67Neutral.nats
  rw [Array.getD_eq_getD_getElem?, List.getElem?_toArray, List.getElem?_map, List.getD_eq_getElem?_getD]
  cases e : f[i]? with
  | none => rfl
  | some z =>
    have := hf z (List.mem_of_getElem? e)
    show ((z.toNat : Nat) : Int) = z
    omega
theorem ap1_is (w h : Nat) (f : List Int) (x y r : Int) (hf : ∀ z ∈ f, 0 ≤ z) : (((Sh67.aperture w h (Sh67Neutral.nats f) x y r).1 : Nat) : Int) = apN w h f x y r := by
  show (((List.map (fun (p : Nat × Nat) => p.1 * p.2) (Sh67.each w h fun c q => (Sh67.part x y r c q, (Sh67Neutral.nats f).toArray.getD (q * w + c) 0))).sum : Nat) : Int) = _
  rw [cast_sum, List.map_map, each_sum]
  unfold apN
  refine sumTo_congr fun q _ => sumTo_congr fun c _ => ?_
  show ((Sh67.part x y r c q * (Sh67Neutral.nats f).toArray.getD (q * w + c) 0 : Nat) : Int) = _
  rw [Int.natCast_mul, part_is, nats_getD f _ hf, Int.mul_comm]
theorem ap2_is (w h : Nat) (f : List Int) (x y r : Int) : (((Sh67.aperture w h (Sh67Neutral.nats f) x y r).2 : Nat) : Int) = apP w h x y r := by
  show (((List.map (fun (p : Nat × Nat) => p.1) (Sh67.each w h fun c q => (Sh67.part x y r c q, (Sh67Neutral.nats f).toArray.getD (q * w + c) 0))).sum : Nat) : Int) = _
  rw [cast_sum, List.map_map, each_sum]
  unfold apP
  refine sumTo_congr fun q _ => sumTo_congr fun c _ => ?_
  exact part_is x y r c q
/-! ### places -/
def placeX (xy : List Int) (j : Nat) : Int := xy.getD (2 * j) 0
def placeY (xy : List Int) (j : Nat) : Int := xy.getD (2 * j + 1) 0
theorem num_nats (xy : List Int) (i : Nat) (h : ∀ z ∈ xy, 0 ≤ z) : ((Sh67.num (Sh67Neutral.nats xy) i : Nat) : Int) = xy.getD i 0 := by
  unfold Sh67.num Sh67Neutral.nats
  rw [List.getD_eq_getElem?_getD, List.getElem?_map, List.getD_eq_getElem?_getD]
  cases e : xy[i]? with
  | none => rfl
  | some z =>
    have := h z (List.mem_of_getElem? e)
    show ((z.toNat : Nat) : Int) = z
    omega
theorem pairs_is (xy : List Int) (h : ∀ z ∈ xy, 0 ≤ z) : Sh67.pairsOf (Sh67Neutral.nats xy) = (List.range (xy.length / 2)).map fun j => (placeX xy j, placeY xy j) := by
  unfold Sh67.pairsOf
  have e : (Sh67Neutral.nats xy).length = xy.length := by
    unfold Sh67Neutral.nats
    rw [List.length_map]
  rw [e]
  refine List.map_congr_left fun j _ => ?_
  rw [num_nats xy _ h, num_nats xy _ h]
  rfl
/-- what is answered place by place, up to the n-th -/
def flatTo (n : Nat) (g : Nat → List Int) : List Int := (List.range n).flatMap g
theorem flatTo_zero (g : Nat → List Int) : flatTo 0 g = [] := rfl
theorem flatTo_succ (n : Nat) (g : Nat → List Int) : flatTo (n + 1) g = flatTo n g ++ g n := by
  unfold flatTo
  rw [List.range_succ, List.flatMap_append]
  simp
theorem ints_flat {α : Type} (k : α → List Nat) : ∀ l : List α, Sh67Neutral.ints (l.flatMap k) = l.flatMap fun a => Sh67Neutral.ints (k a)
  | [] => rfl
  | a :: r => by
    have ih := ints_flat k r
    unfold Sh67Neutral.ints at ih ⊢
    rw [List.flatMap_cons, List.map_append, ih, List.flatMap_cons]
theorem flat_map {α β γ : Type} (k : β → List γ) (m : α → β) : ∀ l : List α, (l.map m).flatMap k = l.flatMap fun a => k (m a)
  | [] => rfl
  | a :: r => by
    rw [List.map_cons, List.flatMap_cons, List.flatMap_cons, flat_map k m r]
end Ap
namespace Ap
/-! ### a ring -/
def mgap (k z : Int) : Int := (64 * k + 32 - z) ^ 2
/-- the number of the place in column c of row q, if it is in the ring -/
def cell (w : Nat) (f : List Int) (x y a b : Int) (q c : Nat) : List Int :=
  if a * a < mgap c x + mgap q y ∧ mgap c x + mgap q y ≤ b * b then [f.getD (q * w + c) 0] else []
def row (w : Nat) (f : List Int) (x y a b : Int) (q : Nat) (n : Nat) : List Int := flatTo n (cell w f x y a b q)
def ringL (w h : Nat) (f : List Int) (x y a b : Int) : List Int := flatTo h fun q => row w f x y a b q w
theorem fm_flat {α β : Type} (k : α → Option β) : ∀ l : List α, l.filterMap k = l.flatMap fun a => (k a).toList
  | [] => rfl
  | a :: r => by
    rw [List.flatMap_cons, ← fm_flat k r, List.filterMap_cons]
    cases k a <;> rfl
theorem range_rows (w : Nat) {β : Type} (k : Nat → List β) : ∀ h : Nat, (List.range (w * h)).flatMap k = (List.range h).flatMap fun q => (List.range w).flatMap fun c => k (w * q + c)
  | 0 => rfl
  | h + 1 => by
    rw [Nat.mul_succ, List.range_add, List.flatMap_append, range_rows w k h, List.range_succ, List.flatMap_append, flat_map]
    simp
theorem flat_congr {α β : Type} {k m : α → List β} {l : List α} (h : ∀ a ∈ l, k a = m a) : l.flatMap k = l.flatMap m := by
  rw [List.flatMap_def, List.flatMap_def, List.map_congr_left h]
theorem ring_is (w h : Nat) (f : List Int) (x y a b : Int) (hf : ∀ z ∈ f, 0 ≤ z) : Sh67Neutral.ints (Sh67.ring w h (Sh67Neutral.nats f) x y a b) = ringL w h f x y a b := by
  unfold Sh67.ring
  rw [fm_flat, ints_flat, range_rows]
  unfold ringL row flatTo
  refine flat_congr fun q _ => flat_congr fun c hc => ?_
  have hc : c < w := List.mem_range.mp hc
  have e1 : (w * q + c) % w = c := by rw [Nat.mul_add_mod]; exact Nat.mod_eq_of_lt hc
  have e2 : (w * q + c) / w = q := by rw [Nat.mul_add_div (by omega)]; rw [Nat.div_eq_of_lt hc]; rfl
  have e3 : w * q + c = q * w + c := by rw [Nat.mul_comm]
  simp only [e1, e2]
  unfold cell mgap
  rw [sq, sq]
  have g := nats_getD f (w * q + c) hf
  rw [e3] at g ⊢
  have ex : ((64 * c + 32 : Nat) : Int) = 64 * (c : Int) + 32 := by omega
  have ey : ((64 * q + 32 : Nat) : Int) = 64 * (q : Int) + 32 := by omega
  rw [ex, ey]
  by_cases hh : a * a < (64 * (c : Int) + 32 - x) * (64 * (c : Int) + 32 - x) + (64 * (q : Int) + 32 - y) * (64 * (q : Int) + 32 - y) ∧ (64 * (c : Int) + 32 - x) * (64 * (c : Int) + 32 - x) + (64 * (q : Int) + 32 - y) * (64 * (q : Int) + 32 - y) ≤ b * b
  · rw [if_pos hh, if_pos hh]
    show [(((Sh67Neutral.nats f).toArray.getD (q * w + c) 0 : Nat) : Int)] = _
    rw [g]
  · rw [if_neg hh, if_neg hh]
    rfl
theorem ring_len (w h : Nat) (f : List Int) (x y a b : Int) (hf : ∀ z ∈ f, 0 ≤ z) : (((Sh67.ring w h (Sh67Neutral.nats f) x y a b).length : Nat) : Int) = ((ringL w h f x y a b).length : Nat) := by
  rw [← ring_is w h f x y a b hf]
  unfold Sh67Neutral.ints
  rw [List.length_map]
/-! ### the middle one -/
def midOne (l s : List Int) : Int := if l = [] then 0 else s.getD ((l.length - 1) / 2) 0
theorem median_is (l : List Nat) (s : List Int) (hp : s.Perm (Sh67Neutral.ints l)) (hs : s.Pairwise (· ≤ ·)) : ((Sh67.median l : Nat) : Int) = s.getD (((Sh67Neutral.ints l).length - 1) / 2) 0 := by
  have h1 : (Sh67Neutral.ints (l.mergeSort fun a b => decide (a ≤ b))).Perm (Sh67Neutral.ints l) := by
    unfold Sh67Neutral.ints
    exact (List.mergeSort_perm l _).map _
  have h2 : (l.mergeSort fun a b => decide (a ≤ b)).Pairwise (fun a b => decide (a ≤ b) = true) :=
    List.pairwise_mergeSort (fun a b c x y => by simp at x y ⊢; omega) (fun a b => by simp; omega) l
  have h3 : (Sh67Neutral.ints (l.mergeSort fun a b => decide (a ≤ b))).Pairwise (· ≤ ·) := by
    unfold Sh67Neutral.ints
    rw [List.pairwise_map]
    refine h2.imp fun {a b} e => ?_
    have e := of_decide_eq_true e
    omega
  have e : s = Sh67Neutral.ints (l.mergeSort fun a b => decide (a ≤ b)) := List.Perm.eq_of_pairwise (fun a b _ _ x y => Int.le_antisymm x y) hs h3 (hp.trans h1.symm)
  rw [e]
  unfold Sh67.median Sh67.num Sh67Neutral.ints
  rw [List.length_map, List.getD_eq_getElem?_getD, List.getD_eq_getElem?_getD, List.getElem?_map]
  cases (l.mergeSort fun a b => decide (a ≤ b))[(l.length - 1) / 2]? <;> rfl
/-- the middle one of whole numbers, told by the specification's own -/
def med (l : List Int) : Int := ((Sh67.median (Sh67Neutral.nats l) : Nat) : Int)
theorem ints_nats (l : List Int) (h : ∀ z ∈ l, 0 ≤ z) : Sh67Neutral.ints (Sh67Neutral.nats l) = l := by
  unfold Sh67Neutral.ints Sh67Neutral.nats
  rw [List.map_map]
  refine (List.map_congr_left fun z hz => ?_).trans (List.map_id l)
  have := h z hz
  show ((z.toNat : Nat) : Int) = z
  omega
theorem nats_ints (l : List Nat) : Sh67Neutral.nats (Sh67Neutral.ints l) = l := by
  unfold Sh67Neutral.ints Sh67Neutral.nats
  rw [List.map_map]
  exact (List.map_congr_left fun z _ => rfl).trans (List.map_id l)
theorem med_sorted {l s : List Int} (h : ∀ z ∈ l, 0 ≤ z) (hp : s.Perm l) (hs : s.Pairwise (· ≤ ·)) : s.getD ((l.length - 1) / 2) 0 = med l := by
  unfold med
  have e := ints_nats l h
  rw [median_is (Sh67Neutral.nats l) s (by rw [e]; exact hp) hs, e]
theorem med_nil : med [] = 0 := by
  have e := med_sorted (l := []) (s := []) (fun z hz => by cases hz) (List.Perm.refl _) List.Pairwise.nil
  exact e.symm
theorem med_ring (w h : Nat) (f : List Int) (x y a b : Int) (hf : ∀ z ∈ f, 0 ≤ z) : ((Sh67.median (Sh67.ring w h (Sh67Neutral.nats f) x y a b) : Nat) : Int) = med (ringL w h f x y a b) := by
  unfold med
  rw [← ring_is w h f x y a b hf, nats_ints]
theorem getD_nonneg {f : List Int} (hf : ∀ z ∈ f, 0 ≤ z) (i : Nat) : 0 ≤ f.getD i 0 := by
  rw [List.getD_eq_getElem?_getD]
  cases e : f[i]? with
  | none => exact Int.le_refl _
  | some z => exact hf z (List.mem_of_getElem? e)
theorem ring_nonneg (w h : Nat) (f : List Int) (x y a b : Int) (hf : ∀ z ∈ f, 0 ≤ z) : ∀ z ∈ ringL w h f x y a b, 0 ≤ z := by
  intro z hz
  unfold ringL row flatTo at hz
  rw [List.mem_flatMap] at hz
  obtain ⟨q, _, hz⟩ := hz
  rw [List.mem_flatMap] at hz
  obtain ⟨c, _, hz⟩ := hz
  unfold cell at hz
  split at hz
  · rw [List.mem_singleton] at hz
    rw [hz]
    exact getD_nonneg hf _
  · cases hz
theorem flatTo_len_le {g : Nat → List Int} {k : Nat} (h : ∀ i, (g i).length ≤ k) : ∀ n, (flatTo n g).length ≤ n * k
  | 0 => by rw [flatTo_zero]; exact Nat.zero_le _
  | n + 1 => by
    have ih := flatTo_len_le h n
    have := h n
    rw [flatTo_succ, List.length_append, Nat.add_mul, Nat.one_mul]
    omega
theorem cell_len (w : Nat) (f : List Int) (x y a b : Int) (q c : Nat) : (cell w f x y a b q c).length ≤ 1 := by
  unfold cell
  split
  · exact Nat.le_refl _
  · exact Nat.zero_le _
theorem row_len (w : Nat) (f : List Int) (x y a b : Int) (q n : Nat) : (row w f x y a b q n).length ≤ n := by
  have := flatTo_len_le (cell_len w f x y a b q) n
  rw [Nat.mul_one] at this
  exact this
theorem rows_len (w : Nat) (f : List Int) (x y a b : Int) (n : Nat) : (flatTo n fun q => row w f x y a b q w).length ≤ n * w := flatTo_len_le (fun q => row_len w f x y a b q w) n
end Ap
namespace Ap
open Sh67Neutral
/-! ### what is asked, and what is due -/
theorem nats_len (l : List Int) : (nats l).length = l.length := by
  unfold nats
  rw [List.length_map]
theorem even_of {c : Prop} [Decidable c] {l0 l1 : List Int} {n : Nat} (h : (if c then l0.length == n && l1.length == (2 * ((nats l1).length / 2)) else (l0.isEmpty && l1.isEmpty) || (l0.length == n && l1.length == (2 * ((nats l1).length / 2)))) = true) :
    l1.length = 2 * (l1.length / 2) ∧ (c → l0.length = n) := by
  rw [nats_len] at h
  by_cases hc : c
  · rw [if_pos hc, Bool.and_eq_true, beq_iff_eq, beq_iff_eq] at h
    exact ⟨h.2, fun _ => h.1⟩
  · rw [if_neg hc, Bool.or_eq_true, Bool.and_eq_true, Bool.and_eq_true, beq_iff_eq, beq_iff_eq] at h
    refine ⟨?_, fun e => absurd e hc⟩
    rcases h with h | h
    · have := List.isEmpty_iff.mp h.2
      rw [this]
      rfl
    · exact h.2
theorem sized_iff (w h : Nat) : Sh67.sized w h = true ↔ (1 ≤ w ∧ w ≤ 64) ∧ (1 ≤ h ∧ h ≤ 64) := by
  unfold Sh67.sized Sh67.among
  simp
theorem some_iff (n : Nat) : Sh67.some_ n = true ↔ n ≤ 64 := by
  unfold Sh67.some_
  simp
theorem asked_of {c : Call} (h : asked c = true) : asked1 c = true := by
  unfold asked at h
  rw [Bool.and_eq_true] at h
  exact h.1
/-- the frame and the places are in their ranges -/
def FrameOk (w h : Int) (xy : List Int) : Prop := 1 ≤ w ∧ w ≤ 64 ∧ 1 ≤ h ∧ h ≤ 64 ∧ xy.length ≤ 128
/-! ### ap_aperture -/
theorem aperture_asked {r w h : Int} {f xy : List Int} (q : PySh67.ap_aperture_asked r w h f xy = true) (hr : 0 ≤ r) :
    xy.length = 2 * (xy.length / 2) ∧ (r ≤ 4096 → FrameOk w h xy → f.length = w.toNat * h.toNat) := by
  have q := asked_of q
  unfold asked1 at q
  simp only [Bool.and_eq_true] at q
  have e := even_of q.2.2.2.2.2
  refine ⟨e.1, fun h1 h2 => e.2 ?_⟩
  obtain ⟨a1, a2, a3, a4, a5⟩ := h2
  rw [sized_iff, some_iff, decide_eq_true_eq, nats_len]
  omega
theorem aperture_eq (r w h : Int) (f xy : List Int) : PySh67.ap_aperture r w h f xy = told (Sh67.answer (if (Sh67.sized w.toNat h.toNat && Sh67.some_ ((nats xy).length / 2) && decide (r.toNat ≤ 4096)) = true then .aperture r.toNat w.toNat h.toNat (nats f) (nats xy) else .bad)) := rfl
theorem aperture_bad {r w h : Int} {f xy : List Int} (q : PySh67.ap_aperture_asked r w h f xy = true) (hr : 0 ≤ r) (b : ¬ (r ≤ 4096 ∧ FrameOk w h xy)) : PySh67.ap_aperture r w h f xy = [-2] := by
  have e := (aperture_asked q hr).1
  rw [aperture_eq, if_neg]
  · rfl
  · rw [Bool.and_eq_true, Bool.and_eq_true, sized_iff, some_iff, decide_eq_true_eq, nats_len]
    intro z
    refine b ⟨by omega, by omega, by omega, by omega, by omega, by omega⟩
def apAt (w h : Int) (f : List Int) (r : Int) (xy : List Int) (j : Nat) : List Int := [apN w.toNat h.toNat f (placeX xy j) (placeY xy j) r, apP w.toNat h.toNat (placeX xy j) (placeY xy j) r]
theorem aperture_good {r w h : Int} {f xy : List Int} (hr : 0 ≤ r) (hf : ∀ z ∈ f, 0 ≤ z) (hx : ∀ z ∈ xy, 0 ≤ z) (g : r ≤ 4096 ∧ FrameOk w h xy) :
    PySh67.ap_aperture r w h f xy = 0 :: flatTo (xy.length / 2) (apAt w h f r xy) := by
  obtain ⟨h1, a1, a2, a3, a4, a5⟩ := g
  rw [aperture_eq, if_pos]
  · show (0 : Int) :: Sh67Neutral.ints ((Sh67.pairsOf (nats xy)).flatMap fun p => [(Sh67.aperture w.toNat h.toNat (nats f) p.1 p.2 (r.toNat : Nat)).1, (Sh67.aperture w.toNat h.toNat (nats f) p.1 p.2 (r.toNat : Nat)).2]) = _
    have er : ((r.toNat : Nat) : Int) = r := by omega
    rw [er, ints_flat, pairs_is xy hx, flat_map]
    unfold flatTo
    refine congrArg _ (flat_congr fun j _ => ?_)
    show [_, _] = apAt w h f r xy j
    unfold apAt
    dsimp only
    rw [ap1_is _ _ f _ _ _ hf, ap2_is]
  · rw [Bool.and_eq_true, Bool.and_eq_true, sized_iff, some_iff, decide_eq_true_eq, nats_len]
    omega
/-! ### ap_ring -/
theorem ring_asked {a b w h : Int} {f xy : List Int} (q : PySh67.ap_ring_asked a b w h f xy = true) (ha : 0 ≤ a) (hb : 0 ≤ b) :
    xy.length = 2 * (xy.length / 2) ∧ (a ≤ 4096 → b ≤ 4096 → FrameOk w h xy → f.length = w.toNat * h.toNat) := by
  have q := asked_of q
  unfold asked1 at q
  simp only [Bool.and_eq_true] at q
  have e := even_of q.2.2.2.2.2.2
  refine ⟨e.1, fun h1 h1' h2 => e.2 ?_⟩
  obtain ⟨a1, a2, a3, a4, a5⟩ := h2
  rw [sized_iff, some_iff, decide_eq_true_eq, decide_eq_true_eq, nats_len]
  omega
theorem ring_eq (a b w h : Int) (f xy : List Int) : PySh67.ap_ring a b w h f xy = told (Sh67.answer (if (Sh67.sized w.toNat h.toNat && Sh67.some_ ((nats xy).length / 2) && (decide (a.toNat ≤ 4096) && decide (b.toNat ≤ 4096))) = true then .ring a.toNat b.toNat w.toNat h.toNat (nats f) (nats xy) else .bad)) := rfl
theorem ring_bad {a b w h : Int} {f xy : List Int} (q : PySh67.ap_ring_asked a b w h f xy = true) (ha : 0 ≤ a) (hb : 0 ≤ b) (n : ¬ (a ≤ 4096 ∧ b ≤ 4096 ∧ FrameOk w h xy)) : PySh67.ap_ring a b w h f xy = [-2] := by
  have e := (ring_asked q ha hb).1
  rw [ring_eq, if_neg]
  · rfl
  · rw [Bool.and_eq_true, Bool.and_eq_true, Bool.and_eq_true, sized_iff, some_iff, decide_eq_true_eq, decide_eq_true_eq, nats_len]
    intro z
    refine n ⟨by omega, by omega, by omega, by omega, by omega, by omega, by omega⟩
def ringAt (w h : Int) (f : List Int) (a b : Int) (xy : List Int) (j : Nat) : List Int :=
  [((ringL w.toNat h.toNat f (placeX xy j) (placeY xy j) a b).length : Nat), med (ringL w.toNat h.toNat f (placeX xy j) (placeY xy j) a b)]
theorem ring_good {a b w h : Int} {f xy : List Int} (ha : 0 ≤ a) (hb : 0 ≤ b) (hf : ∀ z ∈ f, 0 ≤ z) (hx : ∀ z ∈ xy, 0 ≤ z) (g : a ≤ 4096 ∧ b ≤ 4096 ∧ FrameOk w h xy) :
    PySh67.ap_ring a b w h f xy = 0 :: flatTo (xy.length / 2) (ringAt w h f a b xy) := by
  obtain ⟨h1, h2, a1, a2, a3, a4, a5⟩ := g
  rw [ring_eq, if_pos]
  · show (0 : Int) :: Sh67Neutral.ints ((Sh67.pairsOf (nats xy)).flatMap fun p => [(Sh67.ring w.toNat h.toNat (nats f) p.1 p.2 (a.toNat : Nat) (b.toNat : Nat)).length, Sh67.median (Sh67.ring w.toNat h.toNat (nats f) p.1 p.2 (a.toNat : Nat) (b.toNat : Nat))]) = _
    have ea : ((a.toNat : Nat) : Int) = a := by omega
    have eb : ((b.toNat : Nat) : Int) = b := by omega
    rw [ea, eb, ints_flat, pairs_is xy hx, flat_map]
    unfold flatTo
    refine congrArg _ (flat_congr fun j _ => ?_)
    show [_, _] = ringAt w h f a b xy j
    unfold ringAt
    dsimp only
    rw [ring_len _ _ f _ _ _ _ hf, med_ring _ _ f _ _ _ _ hf]
  · rw [Bool.and_eq_true, Bool.and_eq_true, Bool.and_eq_true, sized_iff, some_iff, decide_eq_true_eq, decide_eq_true_eq, nats_len]
    omega
end Ap
namespace Ap
open Sh67Neutral
/-! ### ap_own -/
theorem own_asked {r a b w h : Int} {f xy : List Int} (q : PySh67.ap_own_asked r a b w h f xy = true) (hr : 0 ≤ r) (ha : 0 ≤ a) (hb : 0 ≤ b) :
    xy.length = 2 * (xy.length / 2) ∧ (r ≤ 4096 → a ≤ 4096 → b ≤ 4096 → FrameOk w h xy → f.length = w.toNat * h.toNat) := by
  have q := asked_of q
  unfold asked1 at q
  simp only [Bool.and_eq_true] at q
  have e := even_of q.2.2.2.2.2.2.2
  refine ⟨e.1, fun h1 h2 h3 h4 => e.2 ?_⟩
  obtain ⟨a1, a2, a3, a4, a5⟩ := h4
  rw [sized_iff, some_iff, decide_eq_true_eq, decide_eq_true_eq, decide_eq_true_eq, nats_len]
  omega
theorem own_eq (r a b w h : Int) (f xy : List Int) : PySh67.ap_own r a b w h f xy = told (Sh67.answer (if (Sh67.sized w.toNat h.toNat && Sh67.some_ ((nats xy).length / 2) && (decide (r.toNat ≤ 4096) && (decide (a.toNat ≤ 4096) && decide (b.toNat ≤ 4096)))) = true then .own r.toNat a.toNat b.toNat w.toNat h.toNat (nats f) (nats xy) else .bad)) := rfl
theorem own_bad {r a b w h : Int} {f xy : List Int} (q : PySh67.ap_own_asked r a b w h f xy = true) (hr : 0 ≤ r) (ha : 0 ≤ a) (hb : 0 ≤ b) (n : ¬ (r ≤ 4096 ∧ a ≤ 4096 ∧ b ≤ 4096 ∧ FrameOk w h xy)) : PySh67.ap_own r a b w h f xy = [-2] := by
  have e := (own_asked q hr ha hb).1
  rw [own_eq, if_neg]
  · rfl
  · simp only [Bool.and_eq_true]
    rw [sized_iff, some_iff, decide_eq_true_eq, decide_eq_true_eq, decide_eq_true_eq, nats_len]
    intro z
    exact n ⟨by omega, by omega, by omega, by omega, by omega, by omega, by omega, by omega⟩
def ownAt (w h : Int) (f : List Int) (r a b : Int) (xy : List Int) (j : Nat) : Int :=
  (apN w.toNat h.toNat f (placeX xy j) (placeY xy j) r - med (ringL w.toNat h.toNat f (placeX xy j) (placeY xy j) a b) * apP w.toNat h.toNat (placeX xy j) (placeY xy j) r) % 18446744073709551616
theorem ints_map {α : Type} (k : α → Nat) : ∀ l : List α, Sh67Neutral.ints (l.map k) = l.map fun a => ((k a : Nat) : Int) := fun l => by
  unfold Sh67Neutral.ints
  rw [List.map_map]
  rfl
/-- one number a place -/
def mapTo (n : Nat) (g : Nat → Int) : List Int := (List.range n).map g
theorem mapTo_zero (g : Nat → Int) : mapTo 0 g = [] := rfl
theorem mapTo_succ (n : Nat) (g : Nat → Int) : mapTo (n + 1) g = mapTo n g ++ [g n] := by
  unfold mapTo
  rw [List.range_succ, List.map_append]
  rfl
theorem mapTo_len (n : Nat) (g : Nat → Int) : (mapTo n g).length = n := by
  unfold mapTo
  rw [List.length_map, List.length_range]
theorem own_good {r a b w h : Int} {f xy : List Int} (hr : 0 ≤ r) (ha : 0 ≤ a) (hb : 0 ≤ b) (hf : ∀ z ∈ f, 0 ≤ z) (hx : ∀ z ∈ xy, 0 ≤ z) (g : r ≤ 4096 ∧ a ≤ 4096 ∧ b ≤ 4096 ∧ FrameOk w h xy) :
    PySh67.ap_own r a b w h f xy = 0 :: mapTo (xy.length / 2) (ownAt w h f r a b xy) := by
  obtain ⟨h0, h1, h2, a1, a2, a3, a4, a5⟩ := g
  rw [own_eq, if_pos]
  · show (0 : Int) :: Sh67Neutral.ints ((Sh67.pairsOf (nats xy)).map fun p => Sh67.longOf (Sh67.own w.toNat h.toNat (nats f) p.1 p.2 (r.toNat : Nat) (a.toNat : Nat) (b.toNat : Nat))) = _
    have er : ((r.toNat : Nat) : Int) = r := by omega
    have ea : ((a.toNat : Nat) : Int) = a := by omega
    have eb : ((b.toNat : Nat) : Int) = b := by omega
    rw [er, ea, eb, ints_map, pairs_is xy hx, List.map_map]
    unfold mapTo
    refine congrArg _ (List.map_congr_left fun j _ => ?_)
    show ((Sh67.longOf (Sh67.own w.toNat h.toNat (nats f) (placeX xy j) (placeY xy j) r a b) : Nat) : Int) = ownAt w h f r a b xy j
    unfold Sh67.longOf Sh67.own ownAt
    dsimp only
    rw [ap1_is _ _ f _ _ _ hf, ap2_is, med_ring _ _ f _ _ _ _ hf, Int.mul_comm (apP _ _ _ _ _)]
    exact Int.toNat_of_nonneg (Int.emod_nonneg _ (by decide))
  · simp only [Bool.and_eq_true]
    rw [sized_iff, some_iff, decide_eq_true_eq, decide_eq_true_eq, decide_eq_true_eq, nats_len]
    omega
/-! ### sums over all places, told by the place's number -/
theorem map_flat {α β : Type} (g : α → β) (l : List α) : l.map g = l.flatMap fun a => [g a] := by
  induction l with
  | nil => rfl
  | cons a r ih => rw [List.map_cons, List.flatMap_cons, ih]; rfl
theorem sum_rows (w : Nat) (g : Nat → Int) (h : Nat) : ((List.range (w * h)).map g).sum = sumTo h fun q => sumTo w fun c => g (w * q + c) := by
  rw [map_flat, range_rows]
  unfold sumTo
  have e := flat_sum (fun q => (List.range w).flatMap fun c => [g (w * q + c)]) (fun z : Int => z) (List.range h)
  rw [List.map_id'] at e
  rw [e]
  refine congrArg _ (List.map_congr_left fun q _ => ?_)
  rw [List.map_id', ← map_flat]
/-! ### weights -/
def wgt (level : Int) (w : Nat) (f : List Int) (x y r : Int) (q c : Nat) : Int :=
  if mgap c x + mgap q y ≤ r * r then (if level < f.getD (q * w + c) 0 then f.getD (q * w + c) 0 - level else 0) else 0
theorem wgt_nonneg (level : Int) (w : Nat) (f : List Int) (x y r : Int) (q c : Nat) : 0 ≤ wgt level w f x y r q c := by
  unfold wgt
  split
  · split <;> omega
  · exact Int.le_refl _
theorem at_rows {w : Nat} (q : Nat) {c : Nat} (hc : c < w) : (w * q + c) % w = c ∧ (w * q + c) / w = q ∧ w * q + c = q * w + c :=
  ⟨by rw [Nat.mul_add_mod]; exact Nat.mod_eq_of_lt hc, by rw [Nat.mul_add_div (by omega), Nat.div_eq_of_lt hc]; rfl, by rw [Nat.mul_comm]⟩
theorem weight_is (level : Nat) (w : Nat) (f : List Int) (x y r : Int) (q c : Nat) (hc : c < w) (hf : ∀ z ∈ f, 0 ≤ z) : ((Sh67.weightA (nats f).toArray level w x y r (w * q + c) : Nat) : Int) = wgt level w f x y r q c := by
  obtain ⟨e1, e2, e3⟩ := at_rows q hc
  unfold Sh67.weightA wgt mgap
  dsimp only
  rw [e1, e2, sq, sq]
  have g := nats_getD f (w * q + c) hf
  rw [e3] at g ⊢
  have ex : ((64 * c + 32 : Nat) : Int) = 64 * (c : Int) + 32 := by omega
  have ey : ((64 * q + 32 : Nat) : Int) = 64 * (q : Int) + 32 := by omega
  rw [ex, ey]
  by_cases hh : (64 * (c : Int) + 32 - x) * (64 * (c : Int) + 32 - x) + (64 * (q : Int) + 32 - y) * (64 * (q : Int) + 32 - y) ≤ r * r
  · rw [if_pos hh, if_pos hh, ← g]
    split <;> omega
  · rw [if_neg hh, if_neg hh]
    rfl
def wS (level : Int) (w h : Nat) (f : List Int) (x y r : Int) : Int := sumTo h fun q => sumTo w fun c => wgt level w f x y r q c
def wX (level : Int) (w h : Nat) (f : List Int) (x y r : Int) : Int := sumTo h fun q => sumTo w fun c => wgt level w f x y r q c * (64 * (c : Int) + 32)
def wY (level : Int) (w h : Nat) (f : List Int) (x y r : Int) : Int := sumTo h fun q => sumTo w fun c => wgt level w f x y r q c * (64 * (q : Int) + 32)
/-- the middle by weights, told by sums -/
def once (level : Int) (w h : Nat) (f : List Int) (x y r : Int) : Option (Int × Int) :=
  if wS level w h f x y r = 0 then none else some (Sh67.near (wX level w h f x y r) (wS level w h f x y r), Sh67.near (wY level w h f x y r) (wS level w h f x y r))
theorem once_is (level : Nat) (w h : Nat) (f : List Int) (x y r : Int) (hf : ∀ z ∈ f, 0 ≤ z) : Sh67.middleOnce w h (nats f) level x y r = once level w h f x y r := by
  have es : (((((List.range (w * h)).map fun i => (Sh67.weightA (nats f).toArray level w x y r i, i)).map fun p => p.1).sum : Nat) : Int) = wS level w h f x y r := by
    rw [cast_sum, List.map_map, List.map_map, sum_rows]
    unfold wS
    exact sumTo_congr fun q _ => sumTo_congr fun c hc => weight_is level w f x y r q c hc hf
  have ex : (((((List.range (w * h)).map fun i => (Sh67.weightA (nats f).toArray level w x y r i, i)).map fun p => p.1 * (64 * (p.2 % w) + 32)).sum : Nat) : Int) = wX level w h f x y r := by
    rw [cast_sum, List.map_map, List.map_map, sum_rows]
    unfold wX
    refine sumTo_congr fun q _ => sumTo_congr fun c hc => ?_
    show ((Sh67.weightA (nats f).toArray level w x y r (w * q + c) * (64 * ((w * q + c) % w) + 32) : Nat) : Int) = _
    rw [Int.natCast_mul, weight_is level w f x y r q c hc hf, (at_rows q hc).1]
    rfl
  have ey : (((((List.range (w * h)).map fun i => (Sh67.weightA (nats f).toArray level w x y r i, i)).map fun p => p.1 * (64 * (p.2 / w) + 32)).sum : Nat) : Int) = wY level w h f x y r := by
    rw [cast_sum, List.map_map, List.map_map, sum_rows]
    unfold wY
    refine sumTo_congr fun q _ => sumTo_congr fun c hc => ?_
    show ((Sh67.weightA (nats f).toArray level w x y r (w * q + c) * (64 * ((w * q + c) / w) + 32) : Nat) : Int) = _
    rw [Int.natCast_mul, weight_is level w f x y r q c hc hf, (at_rows q hc).2.1]
    rfl
  unfold Sh67.middleOnce once
  dsimp only
  rw [ex, ey, es]
  by_cases h0 : wS level w h f x y r = 0
  · rw [if_pos h0, if_pos (by omega)]
  · rw [if_neg h0, if_neg (by omega)]
/-- again and again -/
def again (level : Int) (w h : Nat) (f : List Int) (r : Int) : Nat → Int → Int → Option (Int × Int)
  | 0, x, y => some (x, y)
  | n + 1, x, y => match once level w h f x y r with
    | none => none
    | some p => if p = (x, y) then some p else again level w h f r n p.1 p.2
theorem again_is (level : Nat) (w h : Nat) (f : List Int) (r : Int) (hf : ∀ z ∈ f, 0 ≤ z) : ∀ (n : Nat) (x y : Int), Sh67.middle w h (nats f) level r n x y = again level w h f r n x y
  | 0, _, _ => rfl
  | n + 1, x, y => by
    unfold Sh67.middle again
    rw [once_is level w h f x y r hf]
    cases once level w h f x y r with
    | none => rfl
    | some p =>
      dsimp only
      rw [again_is level w h f r hf n]
/-! ### ap_middle -/
theorem middle_asked {l r m w h : Int} {f xy : List Int} (q : PySh67.ap_middle_asked l r m w h f xy = true) (hl : 0 ≤ l) (hr : 0 ≤ r) (hm : 0 ≤ m) :
    xy.length = 2 * (xy.length / 2) ∧ (l ≤ 65535 → r ≤ 4096 → m ≤ 32 → FrameOk w h xy → f.length = w.toNat * h.toNat) := by
  have q := asked_of q
  unfold asked1 at q
  simp only [Bool.and_eq_true] at q
  have e := even_of q.2.2.2.2.2.2.2
  refine ⟨e.1, fun h1 h2 h3 h4 => e.2 ?_⟩
  obtain ⟨a1, a2, a3, a4, a5⟩ := h4
  rw [sized_iff, some_iff, decide_eq_true_eq, decide_eq_true_eq, decide_eq_true_eq, nats_len]
  omega
theorem middle_eq (l r m w h : Int) (f xy : List Int) : PySh67.ap_middle l r m w h f xy = told (Sh67.answer (if (Sh67.sized w.toNat h.toNat && Sh67.some_ ((nats xy).length / 2) && (decide (l.toNat ≤ 65535) && (decide (r.toNat ≤ 4096) && decide (m.toNat ≤ 32)))) = true then .middle l.toNat r.toNat m.toNat w.toNat h.toNat (nats f) (nats xy) else .bad)) := rfl
theorem middle_bad {l r m w h : Int} {f xy : List Int} (q : PySh67.ap_middle_asked l r m w h f xy = true) (hl : 0 ≤ l) (hr : 0 ≤ r) (hm : 0 ≤ m) (n : ¬ (l ≤ 65535 ∧ r ≤ 4096 ∧ m ≤ 32 ∧ FrameOk w h xy)) : PySh67.ap_middle l r m w h f xy = [-2] := by
  have e := (middle_asked q hl hr hm).1
  rw [middle_eq, if_neg]
  · rfl
  · simp only [Bool.and_eq_true]
    rw [sized_iff, some_iff, decide_eq_true_eq, decide_eq_true_eq, decide_eq_true_eq, nats_len]
    intro z
    exact n ⟨by omega, by omega, by omega, by omega, by omega, by omega, by omega, by omega⟩
/-- a pair of words, or none -/
def two : Option (Int × Int) → List Int
  | none => [4294967295, 4294967295]
  | some p => [p.1 % 4294967296, p.2 % 4294967296]
theorem two_is (o : Option (Int × Int)) : Sh67Neutral.ints (Sh67.pair o) = two o := by
  cases o with
  | none => rfl
  | some p =>
    show [(((p.1 % 4294967296).toNat : Nat) : Int), (((p.2 % 4294967296).toNat : Nat) : Int)] = [p.1 % 4294967296, p.2 % 4294967296]
    rw [Int.toNat_of_nonneg (Int.emod_nonneg _ (by decide)), Int.toNat_of_nonneg (Int.emod_nonneg _ (by decide))]
def midAt (l r m w h : Int) (f xy : List Int) (j : Nat) : List Int := two (again l w.toNat h.toNat f r m.toNat (placeX xy j) (placeY xy j))
theorem middle_good {l r m w h : Int} {f xy : List Int} (hl : 0 ≤ l) (hr : 0 ≤ r) (hm : 0 ≤ m) (hf : ∀ z ∈ f, 0 ≤ z) (hx : ∀ z ∈ xy, 0 ≤ z) (g : l ≤ 65535 ∧ r ≤ 4096 ∧ m ≤ 32 ∧ FrameOk w h xy) :
    PySh67.ap_middle l r m w h f xy = 0 :: flatTo (xy.length / 2) (midAt l r m w h f xy) := by
  obtain ⟨h0, h1, h2, a1, a2, a3, a4, a5⟩ := g
  rw [middle_eq, if_pos]
  · show (0 : Int) :: Sh67Neutral.ints ((Sh67.pairsOf (nats xy)).flatMap fun p => Sh67.pair (Sh67.middle w.toNat h.toNat (nats f) l.toNat (r.toNat : Nat) m.toNat p.1 p.2)) = _
    have er : ((r.toNat : Nat) : Int) = r := by omega
    have el : ((l.toNat : Nat) : Int) = l := by omega
    rw [er, ints_flat, pairs_is xy hx, flat_map]
    unfold flatTo
    refine congrArg _ (flat_congr fun j _ => ?_)
    rw [two_is, again_is _ _ _ _ _ hf, el]
    rfl
  · simp only [Bool.and_eq_true]
    rw [sized_iff, some_iff, decide_eq_true_eq, decide_eq_true_eq, decide_eq_true_eq, nats_len]
    omega
/-! ### ap_moments -/
def wXX (level : Int) (w h : Nat) (f : List Int) (x y r : Int) : Int := sumTo h fun q => sumTo w fun c => wgt level w f x y r q c * ((64 * (c : Int) + 32 - x) * (64 * (c : Int) + 32 - x))
def wYY (level : Int) (w h : Nat) (f : List Int) (x y r : Int) : Int := sumTo h fun q => sumTo w fun c => wgt level w f x y r q c * ((64 * (q : Int) + 32 - y) * (64 * (q : Int) + 32 - y))
def wXY (level : Int) (w h : Nat) (f : List Int) (x y r : Int) : Int := sumTo h fun q => sumTo w fun c => wgt level w f x y r q c * ((64 * (c : Int) + 32 - x) * (64 * (q : Int) + 32 - y))
def moms (level : Int) (w h : Nat) (f : List Int) (x y r : Int) : Option (Int × Int × Int) :=
  if wS level w h f x y r = 0 then none else some (Sh67.near (wXX level w h f x y r) (wS level w h f x y r), Sh67.near (wYY level w h f x y r) (wS level w h f x y r), Sh67.near (wXY level w h f x y r) (wS level w h f x y r))
theorem moms_is (level : Nat) (w h : Nat) (f : List Int) (x y r : Int) (hf : ∀ z ∈ f, 0 ≤ z) : Sh67.moments w h (nats f) level x y r = moms level w h f x y r := by
  have cx : ∀ c : Nat, ((64 * c + 32 : Nat) : Int) = 64 * (c : Int) + 32 := fun c => by omega
  unfold Sh67.moments moms
  dsimp only
  simp only [List.map_map, Function.comp_def]
  have es : (List.map (fun i => ((Sh67.weightA (nats f).toArray level w x y r i : Nat) : Int)) (List.range (w * h))).sum = wS level w h f x y r := by
    rw [sum_rows]
    unfold wS
    exact sumTo_congr fun q _ => sumTo_congr fun c hc => weight_is level w f x y r q c hc hf
  have e1 : (List.map (fun i => ((Sh67.weightA (nats f).toArray level w x y r i : Nat) : Int) * ((((64 * (i % w) + 32 : Nat) : Int) - x) * (((64 * (i % w) + 32 : Nat) : Int) - x))) (List.range (w * h))).sum = wXX level w h f x y r := by
    rw [sum_rows]
    unfold wXX
    refine sumTo_congr fun q _ => sumTo_congr fun c hc => ?_
    rw [weight_is level w f x y r q c hc hf, (at_rows q hc).1, cx]
  have e2 : (List.map (fun i => ((Sh67.weightA (nats f).toArray level w x y r i : Nat) : Int) * ((((64 * (i / w) + 32 : Nat) : Int) - y) * (((64 * (i / w) + 32 : Nat) : Int) - y))) (List.range (w * h))).sum = wYY level w h f x y r := by
    rw [sum_rows]
    unfold wYY
    refine sumTo_congr fun q _ => sumTo_congr fun c hc => ?_
    rw [weight_is level w f x y r q c hc hf, (at_rows q hc).2.1, cx]
  have e3 : (List.map (fun i => ((Sh67.weightA (nats f).toArray level w x y r i : Nat) : Int) * ((((64 * (i % w) + 32 : Nat) : Int) - x) * (((64 * (i / w) + 32 : Nat) : Int) - y))) (List.range (w * h))).sum = wXY level w h f x y r := by
    rw [sum_rows]
    unfold wXY
    refine sumTo_congr fun q _ => sumTo_congr fun c hc => ?_
    rw [weight_is level w f x y r q c hc hf, (at_rows q hc).1, (at_rows q hc).2.1, cx, cx]
  rw [es, e1, e2, e3]
theorem moments_asked {l r w h : Int} {f xy : List Int} (q : PySh67.ap_moments_asked l r w h f xy = true) (hl : 0 ≤ l) (hr : 0 ≤ r) :
    xy.length = 2 * (xy.length / 2) ∧ (l ≤ 65535 → r ≤ 4096 → FrameOk w h xy → f.length = w.toNat * h.toNat) := by
  have q := asked_of q
  unfold asked1 at q
  simp only [Bool.and_eq_true] at q
  have e := even_of q.2.2.2.2.2.2
  refine ⟨e.1, fun h1 h2 h4 => e.2 ?_⟩
  obtain ⟨a1, a2, a3, a4, a5⟩ := h4
  rw [sized_iff, some_iff, decide_eq_true_eq, decide_eq_true_eq, nats_len]
  omega
theorem moments_eq (l r w h : Int) (f xy : List Int) : PySh67.ap_moments l r w h f xy = told (Sh67.answer (if (Sh67.sized w.toNat h.toNat && Sh67.some_ ((nats xy).length / 2) && (decide (l.toNat ≤ 65535) && decide (r.toNat ≤ 4096))) = true then .moments l.toNat r.toNat w.toNat h.toNat (nats f) (nats xy) else .bad)) := rfl
theorem moments_bad {l r w h : Int} {f xy : List Int} (q : PySh67.ap_moments_asked l r w h f xy = true) (hl : 0 ≤ l) (hr : 0 ≤ r) (n : ¬ (l ≤ 65535 ∧ r ≤ 4096 ∧ FrameOk w h xy)) : PySh67.ap_moments l r w h f xy = [-2] := by
  have e := (moments_asked q hl hr).1
  rw [moments_eq, if_neg]
  · rfl
  · simp only [Bool.and_eq_true]
    rw [sized_iff, some_iff, decide_eq_true_eq, decide_eq_true_eq, nats_len]
    intro z
    exact n ⟨by omega, by omega, by omega, by omega, by omega, by omega, by omega⟩
def three : Option (Int × Int × Int) → List Int
  | none => [4294967295, 4294967295, 4294967295]
  | some p => [p.1 % 4294967296, p.2.1 % 4294967296, p.2.2 % 4294967296]
theorem three_is (o : Option (Int × Int × Int)) : Sh67Neutral.ints (Sh67.triple o) = three o := by
  cases o with
  | none => rfl
  | some p =>
    show [(((p.1 % 4294967296).toNat : Nat) : Int), (((p.2.1 % 4294967296).toNat : Nat) : Int), (((p.2.2 % 4294967296).toNat : Nat) : Int)] = [p.1 % 4294967296, p.2.1 % 4294967296, p.2.2 % 4294967296]
    rw [Int.toNat_of_nonneg (Int.emod_nonneg _ (by decide)), Int.toNat_of_nonneg (Int.emod_nonneg _ (by decide)), Int.toNat_of_nonneg (Int.emod_nonneg _ (by decide))]
def momAt (l r w h : Int) (f xy : List Int) (j : Nat) : List Int := three (moms l w.toNat h.toNat f (placeX xy j) (placeY xy j) r)
theorem moments_good {l r w h : Int} {f xy : List Int} (hl : 0 ≤ l) (hr : 0 ≤ r) (hf : ∀ z ∈ f, 0 ≤ z) (hx : ∀ z ∈ xy, 0 ≤ z) (g : l ≤ 65535 ∧ r ≤ 4096 ∧ FrameOk w h xy) :
    PySh67.ap_moments l r w h f xy = 0 :: flatTo (xy.length / 2) (momAt l r w h f xy) := by
  obtain ⟨h0, h1, a1, a2, a3, a4, a5⟩ := g
  rw [moments_eq, if_pos]
  · show (0 : Int) :: Sh67Neutral.ints ((Sh67.pairsOf (nats xy)).flatMap fun p => Sh67.triple (Sh67.moments w.toNat h.toNat (nats f) l.toNat p.1 p.2 (r.toNat : Nat))) = _
    have er : ((r.toNat : Nat) : Int) = r := by omega
    have el : ((l.toNat : Nat) : Int) = l := by omega
    rw [er, ints_flat, pairs_is xy hx, flat_map]
    unfold flatTo
    refine congrArg _ (flat_congr fun j _ => ?_)
    rw [three_is, moms_is _ _ _ _ _ _ _ hf, el]
    rfl
  · simp only [Bool.and_eq_true]
    rw [sized_iff, some_iff, decide_eq_true_eq, decide_eq_true_eq, nats_len]
    omega
end Ap
namespace Ap
open Sh67Neutral
/-! ### the whole root -/
theorem rootBy_is (n : Nat) : ∀ (k r : Nat), r * r ≤ n → n < (r + 2 ^ k) * (r + 2 ^ k) → Sh67.rootBy k n r * Sh67.rootBy k n r ≤ n ∧ n < (Sh67.rootBy k n r + 1) * (Sh67.rootBy k n r + 1)
  | 0, r, h1, h2 => ⟨h1, h2⟩
  | k + 1, r, h1, h2 => by
    unfold Sh67.rootBy
    by_cases h : (r + 2 ^ k) * (r + 2 ^ k) ≤ n
    · rw [if_pos h]
      refine rootBy_is n k (r + 2 ^ k) h ?_
      rw [Nat.pow_succ] at h2
      have e : r + 2 ^ k + 2 ^ k = r + 2 ^ k * 2 := by omega
      rw [e]
      exact h2
    · rw [if_neg h]
      exact rootBy_is n k r h1 (by omega)
theorem root_is {n : Nat} (h : n < 18446744073709551616) : Sh67.root n * Sh67.root n ≤ n ∧ n < (Sh67.root n + 1) * (Sh67.root n + 1) :=
  rootBy_is n 32 0 (Nat.zero_le _) (by rw [Nat.zero_add]; exact h)
theorem root_unique {n r : Nat} (h : n < 18446744073709551616) (h1 : r * r ≤ n) (h2 : n < (r + 1) * (r + 1)) : Sh67.root n = r := by
  obtain ⟨a1, a2⟩ := root_is h
  have lt_of : ∀ {x y : Nat}, x * x < y * y → x < y := fun {x y} e => by
    apply Decidable.byContradiction
    intro z
    have := Nat.mul_le_mul (show y ≤ x by omega) (show y ≤ x by omega)
    omega
  have e1 : Sh67.root n < r + 1 := lt_of (Nat.lt_of_le_of_lt a1 h2)
  have e2 : r < Sh67.root n + 1 := lt_of (Nat.lt_of_le_of_lt h1 a2)
  omega
/-- the whole root of a whole number -/
def rootZ (n : Int) : Int := (Sh67.root n.toNat : Nat)
theorem rootZ_unique {n r : Int} (hn : 0 ≤ n) (h : n < 18446744073709551616) (hr : 0 ≤ r) (h1 : r * r ≤ n) (h2 : n < (r + 1) * (r + 1)) : rootZ n = r := by
  unfold rootZ
  obtain ⟨m, rfl⟩ : ∃ m : Nat, n = (m : Int) := ⟨n.toNat, by omega⟩
  obtain ⟨s, rfl⟩ : ∃ s : Nat, r = (s : Int) := ⟨r.toNat, by omega⟩
  have e : Sh67.root m = s := root_unique (by omega) (by exact_mod_cast h1) (by exact_mod_cast h2)
  show ((Sh67.root m : Nat) : Int) = (s : Int)
  rw [e]
theorem rootZ_is {n : Int} (hn : 0 ≤ n) (h : n < 18446744073709551616) : 0 ≤ rootZ n ∧ rootZ n * rootZ n ≤ n ∧ n < (rootZ n + 1) * (rootZ n + 1) := by
  unfold rootZ
  obtain ⟨m, rfl⟩ : ∃ m : Nat, n = (m : Int) := ⟨n.toNat, by omega⟩
  obtain ⟨a1, a2⟩ := root_is (n := m) (by omega)
  refine ⟨by omega, ?_, ?_⟩
  · show ((Sh67.root m : Nat) : Int) * ((Sh67.root m : Nat) : Int) ≤ (m : Int)
    exact_mod_cast a1
  · show (m : Int) < (((Sh67.root m : Nat) : Int) + 1) * (((Sh67.root m : Nat) : Int) + 1)
    exact_mod_cast a2
/-! ### ap_root -/
theorem few_iff (n : Nat) : Sh67.few n = true ↔ n ≤ 1024 := by
  unfold Sh67.few
  simp
theorem root_eq (l : List Int) : PySh67.ap_root l = told (Sh67.answer (if Sh67.few (nats l).length = true then .root (nats l) else .bad)) := rfl
theorem root_bad {l : List Int} (n : ¬ l.length ≤ 1024) : PySh67.ap_root l = [-2] := by
  rw [root_eq, if_neg]
  · rfl
  · rw [few_iff, nats_len]
    exact n
theorem ints_mapz (k : Nat → Nat) (l : List Int) : Sh67Neutral.ints ((nats l).map k) = l.map fun z => ((k z.toNat : Nat) : Int) := by
  unfold Sh67Neutral.ints nats
  rw [List.map_map, List.map_map]
  rfl
theorem root_good {l : List Int} (n : l.length ≤ 1024) : PySh67.ap_root l = 0 :: l.map rootZ := by
  rw [root_eq, if_pos]
  · show (0 : Int) :: Sh67Neutral.ints ((nats l).map Sh67.root) = _
    rw [ints_mapz]
    rfl
  · rw [few_iff, nats_len]
    exact n
/-! ### ap_power -/
def powZ (n : Int) : Int := (Sh67.log2 n.toNat : Nat)
theorem power_eq (l : List Int) : PySh67.ap_power l = told (Sh67.answer (if Sh67.few (nats l).length = true then .power (nats l) else .bad)) := rfl
theorem power_bad {l : List Int} (n : ¬ l.length ≤ 1024) : PySh67.ap_power l = [-2] := by
  rw [power_eq, if_neg]
  · rfl
  · rw [few_iff, nats_len]
    exact n
theorem all_pos (l : List Int) (h : ∀ z ∈ l, 0 ≤ z) : (nats l).all (fun x => decide (0 < x)) = true ↔ ∀ z ∈ l, z ≠ 0 := by
  rw [List.all_eq_true]
  unfold nats
  constructor
  · intro a z hz e
    have := a z.toNat (List.mem_map_of_mem hz)
    rw [decide_eq_true_eq] at this
    omega
  · intro a x hx
    obtain ⟨z, hz, rfl⟩ := List.mem_map.mp hx
    have h1 := a z hz
    have h2 := h z hz
    rw [decide_eq_true_eq]
    omega
theorem power_none {l : List Int} (h : ∀ z ∈ l, 0 ≤ z) (n : l.length ≤ 1024) (e : ¬ ∀ z ∈ l, z ≠ 0) : PySh67.ap_power l = [-3] := by
  rw [power_eq, if_pos (by rw [few_iff, nats_len]; exact n)]
  show told (if (nats l).all (fun x => decide (0 < x)) = false then Sh67.fail (-3) else Sh67.done [(nats l).map Sh67.log2]) = _
  rw [if_pos]
  · rfl
  · cases q : (nats l).all (fun x => decide (0 < x)) with
    | false => rfl
    | true => exact absurd ((all_pos l h).mp q) e
theorem power_good {l : List Int} (h : ∀ z ∈ l, 0 ≤ z) (n : l.length ≤ 1024) (e : ∀ z ∈ l, z ≠ 0) : PySh67.ap_power l = 0 :: l.map powZ := by
  rw [power_eq, if_pos (by rw [few_iff, nats_len]; exact n)]
  show told (if (nats l).all (fun x => decide (0 < x)) = false then Sh67.fail (-3) else Sh67.done [(nats l).map Sh67.log2]) = _
  rw [if_neg (by rw [(all_pos l h).mpr e]; exact Bool.noConfusion)]
  show (0 : Int) :: Sh67Neutral.ints ((nats l).map Sh67.log2) = _
  rw [ints_mapz]
  rfl
/-- the twelve squarings, over whole numbers -/
def bitsZ : Nat → Int → Int → Int
  | 0, _, a => a
  | k + 1, m, a => if 2147483648 ≤ m * m / 1073741824 then bitsZ k (m * m / 1073741824 / 2) (2 * a + 1) else bitsZ k (m * m / 1073741824) (2 * a)
theorem bits_is : ∀ (k m a : Nat), ((Sh67.bitsBy k m a : Nat) : Int) = bitsZ k m a
  | 0, _, _ => rfl
  | k + 1, m, a => by
    unfold Sh67.bitsBy bitsZ
    dsimp only
    have e : ((m * m / 2 ^ 30 : Nat) : Int) = (m : Int) * m / 1073741824 := by
      rw [Int.natCast_ediv, Int.natCast_mul]
      rfl
    rw [← e]
    by_cases h : 2 ^ 31 ≤ m * m / 2 ^ 30
    · rw [if_pos h, if_pos (by omega), bits_is k]
      have e2 : ((m * m / 2 ^ 30 / 2 : Nat) : Int) = ((m * m / 2 ^ 30 : Nat) : Int) / 2 := by omega
      have e3 : ((2 * a + 1 : Nat) : Int) = 2 * (a : Int) + 1 := by omega
      rw [e2, e3]
    · rw [if_neg h, if_neg (by omega), bits_is k]
      have e3 : ((2 * a : Nat) : Int) = 2 * (a : Int) := by omega
      rw [e3]
/-- the first m of a number n whose greatest power of two is e -/
def startZ (n : Int) (e : Nat) : Int := if e ≤ 30 then n * 2 ^ (30 - e) else n / 2 ^ (e - 30)
theorem pow_cast (k : Nat) : ((2 ^ k : Nat) : Int) = (2 : Int) ^ k := Int.natCast_pow 2 k
theorem powZ_is {n : Int} {e : Nat} (h1 : 2 ^ e ≤ n.toNat) (h2 : n.toNat < 2 ^ (e + 1)) : powZ n = bitsZ 12 (startZ n e) e := by
  have hn : n.toNat ≠ 0 := fun z => by
    rw [z] at h1
    have := Nat.two_pow_pos e
    omega
  have el : n.toNat.log2 = e := by
    have a1 := (Nat.le_log2 hn).mpr h1
    have a2 := (Nat.log2_lt hn).mpr h2
    omega
  have en : ((n.toNat : Nat) : Int) = n := by omega
  unfold powZ Sh67.log2
  dsimp only
  rw [el, bits_is]
  unfold startZ
  by_cases he : e ≤ 30
  · rw [if_pos he, if_pos he, Int.natCast_mul, en, pow_cast]
  · rw [if_neg he, if_neg he, Int.natCast_ediv, en, pow_cast]
/-! ### ap_magnitude -/
def magZ (a b : Int) : Int := Sh67.near ((powZ b - powZ a) * 7526) 40960 % 4294967296
theorem mag_eq (a b : List Int) : PySh67.ap_magnitude a b = told (Sh67.answer (if Sh67.few (nats a).length = true then .magnitude (nats a) (nats b) else .bad)) := rfl
theorem mag_len {a b : List Int} (q : PySh67.ap_magnitude_asked a b = true) (n : a.length ≤ 1024) : b.length = a.length := by
  have q := asked_of q
  unfold asked1 at q
  simp only [Bool.and_eq_true] at q
  have e := q.2.2
  rw [if_pos (by rw [few_iff, nats_len]; exact n), Bool.and_eq_true, beq_iff_eq, beq_iff_eq, nats_len] at e
  exact e.2
theorem mag_bad {a b : List Int} (n : ¬ a.length ≤ 1024) : PySh67.ap_magnitude a b = [-2] := by
  rw [mag_eq, if_neg]
  · rfl
  · rw [few_iff, nats_len]
    exact n
theorem mag_none {a b : List Int} (ha : ∀ z ∈ a, 0 ≤ z) (hb : ∀ z ∈ b, 0 ≤ z) (n : a.length ≤ 1024) (e : ¬ ((∀ z ∈ a, z ≠ 0) ∧ (∀ z ∈ b, z ≠ 0))) : PySh67.ap_magnitude a b = [-3] := by
  rw [mag_eq, if_pos (by rw [few_iff, nats_len]; exact n)]
  show told (if (nats a).all (fun x => decide (0 < x)) = false ∨ (nats b).all (fun x => decide (0 < x)) = false then Sh67.fail (-3) else Sh67.done [((nats a).zip (nats b)).map fun p => Sh67.wordOf (Sh67.magnitude p.1 p.2)]) = _
  rw [if_pos]
  · rfl
  · cases q : (nats a).all (fun x => decide (0 < x)) with
    | false => exact .inl rfl
    | true =>
      cases q2 : (nats b).all (fun x => decide (0 < x)) with
      | false => exact .inr rfl
      | true => exact absurd ⟨(all_pos a ha).mp q, (all_pos b hb).mp q2⟩ e
theorem zip_nats : ∀ a b : List Int, (nats a).zip (nats b) = (a.zip b).map fun p => (p.1.toNat, p.2.toNat) := fun a b => by
  unfold nats
  rw [List.zip_map]
  rfl
theorem mag_good {a b : List Int} (ha : ∀ z ∈ a, 0 ≤ z) (hb : ∀ z ∈ b, 0 ≤ z) (n : a.length ≤ 1024) (e : (∀ z ∈ a, z ≠ 0) ∧ (∀ z ∈ b, z ≠ 0)) : PySh67.ap_magnitude a b = 0 :: (a.zip b).map fun p => magZ p.1 p.2 := by
  rw [mag_eq, if_pos (by rw [few_iff, nats_len]; exact n)]
  show told (if (nats a).all (fun x => decide (0 < x)) = false ∨ (nats b).all (fun x => decide (0 < x)) = false then Sh67.fail (-3) else Sh67.done [((nats a).zip (nats b)).map fun p => Sh67.wordOf (Sh67.magnitude p.1 p.2)]) = _
  rw [if_neg (by rw [(all_pos a ha).mpr e.1, (all_pos b hb).mpr e.2]; rintro (z | z) <;> cases z)]
  show (0 : Int) :: Sh67Neutral.ints (((nats a).zip (nats b)).map fun p => Sh67.wordOf (Sh67.magnitude p.1 p.2)) = _
  rw [zip_nats, ints_map, List.map_map]
  refine congrArg _ (List.map_congr_left fun p _ => ?_)
  show (((Sh67.near (((Sh67.log2 p.2.toNat : Nat) - (Sh67.log2 p.1.toNat : Nat) : Int) * 7526) 40960 % 4294967296).toNat : Nat) : Int) = _
  rw [Int.toNat_of_nonneg (Int.emod_nonneg _ (by decide))]
  rfl
/-! ### ap_shape -/
def s32 (z : Int) : Int := if z < 2147483648 then z else z - 4294967296
theorem int32_is {z : Int} (h : 0 ≤ z) : Sh67.int32 z.toNat = s32 z := by
  unfold Sh67.int32 s32
  by_cases e : z < 2147483648
  · rw [if_pos e, if_pos (by omega)]
    omega
  · rw [if_neg e, if_neg (by omega)]
    omega
def th (l : List Int) (j : Nat) : Int × Int × Int := (s32 (l.getD (3 * j) 0), s32 (l.getD (3 * j + 1) 0), s32 (l.getD (3 * j + 2) 0))
theorem threes_is : ∀ (n : Nat) (l : List Int), (∀ z ∈ l, 0 ≤ z) → l.length = 3 * n → Sh67.threes (nats l) = (List.range n).map (th l)
  | 0, l, _, e => by
    have e : l = [] := List.eq_nil_of_length_eq_zero (by omega)
    subst e
    rfl
  | n + 1, l, h, e => by
    match l, h, e with
    | [], _, e => simp at e; 
    | [_], _, e => simp at e; omega
    | [_, _], _, e => simp at e; omega
    | a :: b :: c :: l, h, e =>
      have ih := threes_is n l (fun z hz => h z (List.mem_cons_of_mem _ (List.mem_cons_of_mem _ (List.mem_cons_of_mem _ hz)))) (by simp at e; omega)
      show (Sh67.int32 a.toNat, Sh67.int32 b.toNat, Sh67.int32 c.toNat) :: Sh67.threes (nats l) = _
      rw [ih, int32_is (h a (by simp)), int32_is (h b (by simp)), int32_is (h c (by simp)), List.range_succ_eq_map, List.map_cons, List.map_map]
      refine congr (congrArg List.cons rfl) (List.map_congr_left fun j _ => ?_)
      show th l j = th (a :: b :: c :: l) (j + 1)
      unfold th
      rw [show 3 * (j + 1) = 3 * j + 3 by omega, show 3 * j + 3 + 1 = 3 * j + 1 + 3 by omega, show 3 * j + 3 + 2 = 3 * j + 2 + 3 by omega]
      rfl
/-- widths that there may be -/
def WideOk (p : Int × Int × Int) : Prop := (0 ≤ p.1 ∧ p.1 ≤ 33554432) ∧ (0 ≤ p.2.1 ∧ p.2.1 ≤ 33554432) ∧ (-33554432 ≤ p.2.2 ∧ p.2.2 ≤ 33554432)
theorem wide_iff (p : Int × Int × Int) : Sh67.wide p = true ↔ WideOk p := by
  unfold Sh67.wide WideOk
  simp only [Bool.and_eq_true, decide_eq_true_eq]
  omega
def wayZ (a b c : Int) : Int := if (2 * c).natAbs < (a - b).natAbs then (if b < a then 0 else 2) else (if 0 ≤ c then 1 else 3)
def shapeOf (p : Int × Int × Int) : List Int :=
  [(p.1 + p.2.1 + rootZ ((p.1 - p.2.1) * (p.1 - p.2.1) + 4 * p.2.2 * p.2.2)) % 4294967296, (p.1 + p.2.1 - rootZ ((p.1 - p.2.1) * (p.1 - p.2.1) + 4 * p.2.2 * p.2.2)) % 4294967296, wayZ p.1 p.2.1 p.2.2]
theorem shape_eq (l : List Int) : PySh67.ap_shape l = told (Sh67.answer (if Sh67.few ((nats l).length / 3) = true then .shape (nats l) else .bad)) := rfl
theorem shape_len {l : List Int} (q : PySh67.ap_shape_asked l = true) : l.length = 3 * (l.length / 3) := by
  have q := asked_of q
  unfold asked1 at q
  simp only [Bool.and_eq_true] at q
  have e := q.2
  rw [nats_len] at e
  by_cases h : Sh67.few (l.length / 3) = true
  · rw [if_pos h, beq_iff_eq] at e
    exact e
  · rw [if_neg h, Bool.or_eq_true, beq_iff_eq] at e
    rcases e with e | e
    · have := List.isEmpty_iff.mp e
      rw [this]
      rfl
    · exact e
theorem shape_bad {l : List Int} (n : ¬ l.length / 3 ≤ 1024) : PySh67.ap_shape l = [-2] := by
  rw [shape_eq, if_neg]
  · rfl
  · rw [few_iff, nats_len]
    exact n
theorem wide_all {l : List Int} (h : ∀ z ∈ l, 0 ≤ z) (hl : l.length = 3 * (l.length / 3)) : (Sh67.threes (nats l)).all Sh67.wide = true ↔ ∀ j, j < l.length / 3 → WideOk (th l j) := by
  rw [threes_is (l.length / 3) l h hl, List.all_eq_true]
  constructor
  · intro a j hj
    exact (wide_iff _).mp (a _ (List.mem_map_of_mem (List.mem_range.mpr hj)))
  · intro a x hx
    obtain ⟨j, hj, rfl⟩ := List.mem_map.mp hx
    exact (wide_iff _).mpr (a j (List.mem_range.mp hj))
theorem shape_none {l : List Int} (h : ∀ z ∈ l, 0 ≤ z) (hl : l.length = 3 * (l.length / 3)) (n : l.length / 3 ≤ 1024) (e : ¬ ∀ j, j < l.length / 3 → WideOk (th l j)) : PySh67.ap_shape l = [-3] := by
  rw [shape_eq, if_pos (by rw [few_iff, nats_len]; exact n)]
  show told (if (Sh67.threes (nats l)).all Sh67.wide = false then Sh67.fail (-3) else _) = _
  rw [if_pos]
  · rfl
  · cases q : (Sh67.threes (nats l)).all Sh67.wide with
    | false => rfl
    | true => exact absurd ((wide_all h hl).mp q) e
theorem shape_good {l : List Int} (h : ∀ z ∈ l, 0 ≤ z) (hl : l.length = 3 * (l.length / 3)) (n : l.length / 3 ≤ 1024) (e : ∀ j, j < l.length / 3 → WideOk (th l j)) : PySh67.ap_shape l = 0 :: flatTo (l.length / 3) fun j => shapeOf (th l j) := by
  rw [shape_eq, if_pos (by rw [few_iff, nats_len]; exact n)]
  show told (if (Sh67.threes (nats l)).all Sh67.wide = false then Sh67.fail (-3) else Sh67.done [(Sh67.threes (nats l)).flatMap fun p => [Sh67.wordOf (Sh67.axes p.1 p.2.1 p.2.2).1, Sh67.wordOf (Sh67.axes p.1 p.2.1 p.2.2).2, Sh67.way p.1 p.2.1 p.2.2]]) = _
  rw [if_neg (by rw [(wide_all h hl).mpr e]; exact Bool.noConfusion)]
  show (0 : Int) :: Sh67Neutral.ints ((Sh67.threes (nats l)).flatMap fun p => [Sh67.wordOf (Sh67.axes p.1 p.2.1 p.2.2).1, Sh67.wordOf (Sh67.axes p.1 p.2.1 p.2.2).2, Sh67.way p.1 p.2.1 p.2.2]) = _
  rw [threes_is (l.length / 3) l h hl, ints_flat, flat_map]
  unfold flatTo
  refine congrArg _ (flat_congr fun j _ => ?_)
  generalize th l j = p
  show [(((_ % 4294967296 : Int).toNat : Nat) : Int), (((_ % 4294967296 : Int).toNat : Nat) : Int), ((Sh67.way p.1 p.2.1 p.2.2 : Nat) : Int)] = shapeOf p
  rw [Int.toNat_of_nonneg (Int.emod_nonneg _ (by decide)), Int.toNat_of_nonneg (Int.emod_nonneg _ (by decide))]
  unfold shapeOf
  refine congr (congrArg List.cons rfl) (congr (congrArg List.cons rfl) (congrArg (fun z => [z]) ?_))
  unfold Sh67.way wayZ
  dsimp only
  split
  · split <;> rfl
  · split <;> rfl
end Ap
namespace Ap
open Sh67Neutral
/-! ### ap_radius: the least radius -/
def nsum : Nat → (Nat → Nat) → Nat
  | 0, _ => 0
  | n + 1, g => nsum n g + g n
/-- the light up to a radius -/
def pre (s : Array Nat) (n : Nat) : Nat := nsum n fun r => s.getD r 0
theorem nsum_congr {g g' : Nat → Nat} : ∀ {n : Nat}, (∀ i, i < n → g i = g' i) → nsum n g = nsum n g'
  | 0, _ => rfl
  | n + 1, h => by
    show nsum n g + g n = nsum n g' + g' n
    rw [nsum_congr fun i hi => h i (by omega), h n (by omega)]
theorem set_getD (s : Array Nat) {i : Nat} (hi : i < s.size) (v r : Nat) : (s.setIfInBounds i v).getD r 0 = if i = r then v else s.getD r 0 := by
  rw [Array.getD_eq_getD_getElem?, Array.getElem?_setIfInBounds, Array.getD_eq_getD_getElem?]
  by_cases h : i = r
  · rw [if_pos h, if_pos h, if_pos hi]
    rfl
  · rw [if_neg h, if_neg h]
theorem pre_set (s : Array Nat) {i : Nat} (hi : i < s.size) (v : Nat) : ∀ n, pre (s.setIfInBounds i (s.getD i 0 + v)) n = pre s n + if i < n then v else 0
  | 0 => by
    rw [if_neg (by omega)]
    rfl
  | n + 1 => by
    have ih := pre_set s hi v n
    unfold pre at ih ⊢
    show nsum n _ + (s.setIfInBounds i (s.getD i 0 + v)).getD n 0 = nsum n _ + s.getD n 0 + _
    rw [ih, set_getD s hi]
    by_cases h : i = n
    · subst h
      rw [if_pos rfl, if_neg (by omega), if_pos (by omega)]
      omega
    · rw [if_neg h]
      by_cases h2 : i < n
      · rw [if_pos h2, if_pos (by omega)]
        omega
      · rw [if_neg h2, if_neg (by omega)]
        omega
/-- the least whole number whose square isn't below -/
def ceilR (d : Nat) : Nat := if Sh67.root d * Sh67.root d = d then Sh67.root d else Sh67.root d + 1
theorem ceil_le {d R : Nat} (hd : d < 18446744073709551616) : ceilR d ≤ R ↔ d ≤ R * R := by
  obtain ⟨a1, a2⟩ := root_is hd
  have le_of : ∀ {x y : Nat}, x ≤ y → x * x ≤ y * y := fun e => Nat.mul_le_mul e e
  unfold ceilR
  constructor
  · intro h
    split at h
    · have := le_of h
      omega
    · have := le_of h
      omega
  · intro h
    split
    · apply Decidable.byContradiction
      intro z
      have := le_of (show R + 1 ≤ Sh67.root d by omega)
      rw [Nat.add_mul, Nat.mul_add] at this
      omega
    · apply Decidable.byContradiction
      intro z
      have := le_of (show R ≤ Sh67.root d by omega)
      omega
/-- one point's turn -/
def turn (x y : Int) (most w v i : Nat) (s : Array Nat) (p : Nat × Nat) : Array Nat :=
  if ((64 * (i % w) + p.1 : Nat) - x : Int) * ((64 * (i % w) + p.1 : Nat) - x) + ((64 * (i / w) + p.2 : Nat) - y : Int) * ((64 * (i / w) + p.2 : Nat) - y) ≤ (most * most : Nat) then
    s.setIfInBounds (ceilR (((64 * (i % w) + p.1 : Nat) - x : Int) * ((64 * (i % w) + p.1 : Nat) - x) + ((64 * (i / w) + p.2 : Nat) - y : Int) * ((64 * (i / w) + p.2 : Nat) - y)).toNat)
      (s.getD (ceilR (((64 * (i % w) + p.1 : Nat) - x : Int) * ((64 * (i % w) + p.1 : Nat) - x) + ((64 * (i / w) + p.2 : Nat) - y : Int) * ((64 * (i / w) + p.2 : Nat) - y)).toNat) 0 + v) else s
theorem turn_pre {x y : Int} {most w v i : Nat} {s : Array Nat} {p : Nat × Nat} {R : Nat} (hm : most ≤ 512) (hR : R ≤ most) (hs : s.size = most + 1) :
    (turn x y most w v i s p).size = most + 1 ∧ pre (turn x y most w v i s p) (R + 1) = pre s (R + 1) +
      if ((64 * (i % w) + p.1 : Nat) - x : Int) * ((64 * (i % w) + p.1 : Nat) - x) + ((64 * (i / w) + p.2 : Nat) - y : Int) * ((64 * (i / w) + p.2 : Nat) - y) ≤ (R : Int) * R then v else 0 := by
  unfold turn
  have sqn : ∀ z : Int, 0 ≤ z * z := fun z => by
    rcases Int.le_total 0 z with h | h
    · exact Int.mul_nonneg h h
    · have := Int.mul_nonneg (show 0 ≤ -z by omega) (show 0 ≤ -z by omega)
      rw [Int.neg_mul_neg] at this
      exact this
  have h0 := Int.add_nonneg (sqn (((64 * (i % w) + p.1 : Nat) : Int) - x)) (sqn (((64 * (i / w) + p.2 : Nat) : Int) - y))
  generalize (((64 * (i % w) + p.1 : Nat) : Int) - x) * (((64 * (i % w) + p.1 : Nat) : Int) - x) + (((64 * (i / w) + p.2 : Nat) : Int) - y) * (((64 * (i / w) + p.2 : Nat) : Int) - y) = d at h0 ⊢
  have m1 : most * most ≤ 512 * 512 := Nat.mul_le_mul hm hm
  have m2 : R * R ≤ most * most := Nat.mul_le_mul hR hR
  have eR : (R : Int) * R = ((R * R : Nat) : Int) := (Int.natCast_mul R R).symm
  rw [eR]
  by_cases hd : d ≤ ((most * most : Nat) : Int)
  · rw [if_pos hd]
    have hd2 : d.toNat < 18446744073709551616 := by omega
    have c1 : ceilR d.toNat ≤ most := (ceil_le hd2).mpr (by omega)
    refine ⟨by rw [Array.size_setIfInBounds]; exact hs, ?_⟩
    rw [pre_set s (by omega)]
    have c2 := ceil_le (R := R) hd2
    by_cases hq : ceilR d.toNat < R + 1
    · rw [if_pos hq, if_pos]
      have := c2.mp (by omega)
      omega
    · rw [if_neg hq, if_neg]
      intro z
      exact hq (by have := c2.mpr (by omega); omega)
  · rw [if_neg hd, if_neg (by omega)]
    exact ⟨hs, rfl⟩
/-- a fold whose turns each add their part -/
theorem fold_pre {α : Type} {most R : Nat} (st : Array Nat → α → Array Nat) (g : α → Nat) : ∀ (l : List α) (s : Array Nat), (∀ a ∈ l, ∀ s : Array Nat, s.size = most + 1 → (st s a).size = most + 1 ∧ pre (st s a) (R + 1) = pre s (R + 1) + g a) → s.size = most + 1 →
    (l.foldl st s).size = most + 1 ∧ pre (l.foldl st s) (R + 1) = pre s (R + 1) + (l.map g).sum
  | [], s, _, hs => ⟨hs, rfl⟩
  | a :: r, s, h, hs => by
    obtain ⟨h1, h2⟩ := h a (List.mem_cons_self ..) s hs
    obtain ⟨h3, h4⟩ := fold_pre st g r (st s a) (fun b hb => h b (List.mem_cons_of_mem _ hb)) h1
    refine ⟨h3, ?_⟩
    rw [List.foldl_cons, h4, h2, List.map_cons, List.sum_cons]
    omega
theorem filt_sum {α : Type} (p : α → Bool) (v : Nat) : ∀ l : List α, (l.map fun a => if p a = true then v else 0).sum = (l.filter p).length * v
  | [] => by simp
  | a :: r => by
    rw [List.map_cons, List.sum_cons, filt_sum p v r, List.filter_cons]
    by_cases h : p a = true
    · rw [if_pos h, if_pos h, List.length_cons, Nat.add_mul]
      omega
    · rw [if_neg h, if_neg h]
      omega
theorem pre_zero (n m : Nat) : pre (Array.replicate m 0) n = 0 := by
  unfold pre
  induction n with
  | zero => rfl
  | succ k ih =>
    show nsum k _ + (Array.replicate m 0).getD k 0 = 0
    rw [ih, Array.getD_eq_getD_getElem?, Array.getElem?_replicate]
    split <;> rfl
theorem lights_is (w h : Nat) (f : List Nat) (x y : Int) (most : Nat) : Sh67.lights w h f x y most = (List.range (w * h)).foldl (fun s i => Sh67.points.foldl (turn x y most w (f.toArray.getD i 0) i) s) (Array.replicate (most + 1) 0) := rfl
theorem lights_pre (w h : Nat) (f : List Nat) (x y : Int) {most R : Nat} (hm : most ≤ 512) (hR : R ≤ most) :
    (Sh67.lights w h f x y most).size = most + 1 ∧ pre (Sh67.lights w h f x y most) (R + 1) = ((List.range (w * h)).map fun i => Sh67.part x y R (i % w) (i / w) * f.toArray.getD i 0).sum := by
  rw [lights_is]
  have key := fold_pre (most := most) (R := R) (fun (s : Array Nat) (i : Nat) => Sh67.points.foldl (turn x y most w (f.toArray.getD i 0) i) s) (fun i => Sh67.part x y R (i % w) (i / w) * f.toArray.getD i 0) (List.range (w * h)) (Array.replicate (most + 1) 0) ?_ (by rw [Array.size_replicate])
  · rw [pre_zero, Nat.zero_add] at key
    exact key
  · intro i _ s hs
    have q := fold_pre (most := most) (R := R) (turn x y most w (f.toArray.getD i 0) i) (fun p => if ((64 * (i % w) + p.1 : Nat) - x : Int) * ((64 * (i % w) + p.1 : Nat) - x) + ((64 * (i / w) + p.2 : Nat) - y : Int) * ((64 * (i / w) + p.2 : Nat) - y) ≤ (R : Int) * R then f.toArray.getD i 0 else 0) Sh67.points s (fun p _ s hs => turn_pre hm hR hs) hs
    refine ⟨q.1, ?_⟩
    rw [q.2]
    unfold Sh67.part
    rw [← filt_sum]
    simp only [decide_eq_true_eq]
theorem list_foldl (l : List Nat) : ∀ b : Nat, l.foldl (fun s n => s + n) b = b + l.sum := by
  induction l with
  | nil => intro b; simp
  | cons a r ih =>
    intro b
    rw [List.foldl_cons, ih, List.sum_cons]
    omega
theorem sum_pre : ∀ (l : List Nat) , l.sum = nsum l.length fun r => l.getD r 0 := by
  intro l
  have : ∀ n, n ≤ l.length → (l.take n).sum = nsum n fun r => l.getD r 0 := by
    intro n
    induction n with
    | zero => intro _; rfl
    | succ k ih =>
      intro hk
      show _ = nsum k _ + l.getD k 0
      rw [← ih (by omega), List.take_add_one, List.sum_append, List.getD_eq_getElem?_getD]
      rw [List.getElem?_eq_getElem (by omega)]
      simp
  have e := this l.length (Nat.le_refl _)
  rw [List.take_length] at e
  exact e
theorem all_pre (s : Array Nat) : s.foldl (fun (s n : Nat) => s + n) 0 = pre s s.size := by
  rw [← Array.foldl_toList, list_foldl, Nat.zero_add, sum_pre, Array.length_toList]
  unfold pre
  refine nsum_congr fun i _ => ?_
  rw [List.getD_eq_getElem?_getD, Array.getD_eq_getD_getElem?, Array.getElem?_toList]
theorem first_is (k all : Nat) (a : Array Nat) : ∀ (n r b : Nat), b = pre a r → (r ≤ Sh67.firstWith k all a n r b ∧ Sh67.firstWith k all a n r b ≤ r + n) ∧
    (Sh67.firstWith k all a n r b = r + n ∨ k * all ≤ 256 * pre a (Sh67.firstWith k all a n r b + 1)) ∧ ∀ j, r ≤ j → j < Sh67.firstWith k all a n r b → ¬ k * all ≤ 256 * pre a (j + 1)
  | 0, r, b, _ => ⟨⟨Nat.le_refl _, Nat.le_refl _⟩, .inl rfl, fun j h1 h2 => absurd h2 (by show ¬ j < r; omega)⟩
  | n + 1, r, b, hb => by
    unfold Sh67.firstWith
    dsimp only
    have e : b + a.getD r 0 = pre a (r + 1) := by
      rw [hb]
      rfl
    rw [e]
    by_cases h : k * all ≤ 256 * pre a (r + 1)
    · rw [if_pos h]
      exact ⟨⟨Nat.le_refl _, by omega⟩, .inr h, fun j h1 h2 => by omega⟩
    · rw [if_neg h]
      obtain ⟨⟨a1, a2⟩, a3, a4⟩ := first_is k all a n (r + 1) (pre a (r + 1)) rfl
      refine ⟨⟨by omega, by omega⟩, ?_, fun j h1 h2 => ?_⟩
      · rcases a3 with e | e
        · exact .inl (by omega)
        · exact .inr e
      · by_cases hj : j = r
        · subst hj
          exact h
        · exact a4 j (by omega) h2
/-- the light within a radius, over whole numbers -/
theorem light_is (w h : Nat) (f : List Int) (x y : Int) {most R : Nat} (hm : most ≤ 512) (hR : R ≤ most) (hf : ∀ z ∈ f, 0 ≤ z) : ((pre (Sh67.lights w h (nats f) x y most) (R + 1) : Nat) : Int) = apN w h f x y R := by
  rw [(lights_pre w h (nats f) x y hm hR).2, cast_sum, List.map_map, sum_rows]
  unfold apN
  refine sumTo_congr fun q _ => sumTo_congr fun c hc => ?_
  obtain ⟨e1, e2, e3⟩ := at_rows q hc
  show ((Sh67.part x y R ((w * q + c) % w) ((w * q + c) / w) * (nats f).toArray.getD (w * q + c) 0 : Nat) : Int) = _
  rw [e1, e2, Int.natCast_mul, part_is, nats_getD f _ hf, e3, Int.mul_comm]
/-- the least radius: what it is, and that it is the only one -/
theorem radius_is (w h : Nat) (f : List Int) (x y : Int) {most k : Nat} (hm : most ≤ 512) (hk : k ≤ 256) (hf : ∀ z ∈ f, 0 ≤ z) :
    Sh67.radius w h (nats f) x y most k ≤ most ∧ (k : Int) * apN w h f x y most ≤ 256 * apN w h f x y (Sh67.radius w h (nats f) x y most k : Nat) ∧
      ∀ j : Nat, j < Sh67.radius w h (nats f) x y most k → ¬ (k : Int) * apN w h f x y most ≤ 256 * apN w h f x y j := by
  obtain ⟨⟨_, a1⟩, a2, a3⟩ := first_is k ((Sh67.lights w h (nats f) x y most).foldl (fun (s n : Nat) => s + n) 0) (Sh67.lights w h (nats f) x y most) most 0 0 rfl
  have er : Sh67.firstWith k ((Sh67.lights w h (nats f) x y most).foldl (fun (s n : Nat) => s + n) 0) (Sh67.lights w h (nats f) x y most) most 0 0 = Sh67.radius w h (nats f) x y most k := rfl
  rw [er] at a1 a2 a3
  have ea : (Sh67.lights w h (nats f) x y most).foldl (fun (s n : Nat) => s + n) 0 = pre (Sh67.lights w h (nats f) x y most) (most + 1) := by
    rw [all_pre, (lights_pre w h (nats f) x y hm (Nat.le_refl most)).1]
  rw [ea] at a2 a3
  have hM := light_is w h f x y hm (Nat.le_refl most) hf
  have hle : Sh67.radius w h (nats f) x y most k ≤ most := by omega
  refine ⟨hle, ?_, fun j hj => ?_⟩
  · rw [← hM, ← light_is w h f x y hm hle hf]
    rcases a2 with e | e
    · rw [Nat.zero_add] at e
      rw [e]
      have : k * pre (Sh67.lights w h (nats f) x y most) (most + 1) ≤ 256 * pre (Sh67.lights w h (nats f) x y most) (most + 1) := Nat.mul_le_mul_right _ hk
      rw [← Int.natCast_mul]
      omega
    · rw [← Int.natCast_mul]
      omega
  · have := a3 j (Nat.zero_le _) hj
    rw [← hM, ← light_is w h f x y hm (show j ≤ most by omega) hf]
    intro z
    rw [← Int.natCast_mul] at z
    exact this (by omega)
theorem radius_unique (w h : Nat) (f : List Int) (x y : Int) {most k R : Nat} (hm : most ≤ 512) (hk : k ≤ 256) (hf : ∀ z ∈ f, 0 ≤ z) (h1 : (k : Int) * apN w h f x y most ≤ 256 * apN w h f x y R)
    (h2 : ∀ j : Nat, j < R → ¬ (k : Int) * apN w h f x y most ≤ 256 * apN w h f x y j) : Sh67.radius w h (nats f) x y most k = R := by
  obtain ⟨a1, a2, a3⟩ := radius_is w h f x y hm hk hf
  apply Nat.le_antisymm
  · apply Decidable.byContradiction
    intro z
    exact a3 R (by omega) h1
  · apply Decidable.byContradiction
    intro z
    exact h2 _ (by omega) a2
theorem radius_asked {m k w h : Int} {f xy : List Int} (q : PySh67.ap_radius_asked m k w h f xy = true) (hm : 0 ≤ m) (hk : 0 ≤ k) :
    xy.length = 2 * (xy.length / 2) ∧ (m ≤ 512 → k ≤ 256 → FrameOk w h xy → f.length = w.toNat * h.toNat) := by
  have q := asked_of q
  unfold asked1 at q
  simp only [Bool.and_eq_true] at q
  have e := even_of q.2.2.2.2.2.2
  refine ⟨e.1, fun h1 h2 h4 => e.2 ?_⟩
  obtain ⟨a1, a2, a3, a4, a5⟩ := h4
  rw [sized_iff, some_iff, decide_eq_true_eq, decide_eq_true_eq, nats_len]
  omega
theorem radius_eq (m k w h : Int) (f xy : List Int) : PySh67.ap_radius m k w h f xy = told (Sh67.answer (if (Sh67.sized w.toNat h.toNat && Sh67.some_ ((nats xy).length / 2) && (decide (m.toNat ≤ 512) && decide (k.toNat ≤ 256))) = true then .radius m.toNat k.toNat w.toNat h.toNat (nats f) (nats xy) else .bad)) := rfl
theorem radius_bad {m k w h : Int} {f xy : List Int} (q : PySh67.ap_radius_asked m k w h f xy = true) (hm : 0 ≤ m) (hk : 0 ≤ k) (n : ¬ (m ≤ 512 ∧ k ≤ 256 ∧ FrameOk w h xy)) : PySh67.ap_radius m k w h f xy = [-2] := by
  have e := (radius_asked q hm hk).1
  rw [radius_eq, if_neg]
  · rfl
  · simp only [Bool.and_eq_true]
    rw [sized_iff, some_iff, decide_eq_true_eq, decide_eq_true_eq, nats_len]
    intro z
    exact n ⟨by omega, by omega, by omega, by omega, by omega, by omega, by omega⟩
def radAt (m k w h : Int) (f xy : List Int) (j : Nat) : Int := ((Sh67.radius w.toNat h.toNat (nats f) (placeX xy j) (placeY xy j) m.toNat k.toNat : Nat) : Int)
theorem radius_good {m k w h : Int} {f xy : List Int} (hx : ∀ z ∈ xy, 0 ≤ z) (g : m ≤ 512 ∧ k ≤ 256 ∧ FrameOk w h xy) :
    PySh67.ap_radius m k w h f xy = 0 :: mapTo (xy.length / 2) (radAt m k w h f xy) := by
  obtain ⟨h0, h1, a1, a2, a3, a4, a5⟩ := g
  rw [radius_eq, if_pos]
  · show (0 : Int) :: Sh67Neutral.ints ((Sh67.pairsOf (nats xy)).map fun p => Sh67.radius w.toNat h.toNat (nats f) p.1 p.2 m.toNat k.toNat) = _
    rw [ints_map, pairs_is xy hx, List.map_map]
    unfold mapTo
    exact congrArg _ (List.map_congr_left fun j _ => rfl)
  · simp only [Bool.and_eq_true]
    rw [sized_iff, some_iff, decide_eq_true_eq, decide_eq_true_eq, nats_len]
    omega
end Ap
namespace Ap
open Sh67Neutral
/-! ### bounds of sums -/
theorem sumTo_le {B : Int} {g : Nat → Int} : ∀ n : Nat, (∀ i, i < n → 0 ≤ g i ∧ g i ≤ B) → 0 ≤ sumTo n g ∧ sumTo n g ≤ n * B
  | 0, _ => ⟨Int.le_refl _, by rw [sumTo_zero]; simp⟩
  | n + 1, h => by
    have ih := sumTo_le n fun i hi => h i (by omega)
    have h1 := h n (by omega)
    rw [sumTo_succ, Int.natCast_succ, Int.add_mul, Int.one_mul]
    omega
theorem apP_le (w h : Nat) (x y r : Int) (hw : w ≤ 64) (hh : h ≤ 64) : 0 ≤ apP w h x y r ∧ apP w h x y r ≤ 65536 := by
  unfold apP
  have hc : ∀ q c : Nat, 0 ≤ cnt2 (gaps c x) (gaps q y) (r * r) ∧ cnt2 (gaps c x) (gaps q y) (r * r) ≤ 16 := fun q c => by
    have := cnt2_le (gaps c x) (r * r) (gaps_len _ _) (gaps q y)
    rw [gaps_len] at this
    omega
  have h1 : ∀ q : Nat, 0 ≤ sumTo w (fun c => cnt2 (gaps c x) (gaps q y) (r * r)) ∧ sumTo w (fun c => cnt2 (gaps c x) (gaps q y) (r * r)) ≤ 1024 := fun q => by
    have := sumTo_le (g := fun c => cnt2 (gaps c x) (gaps q y) (r * r)) w fun c _ => hc q c
    omega
  have h2 := sumTo_le (g := fun q => sumTo w (fun c => cnt2 (gaps c x) (gaps q y) (r * r))) h fun q _ => h1 q
  omega
end Ap
namespace Ap
open Sh67Neutral
theorem sq_le {z B : Int} (h : -B ≤ z ∧ z ≤ B) : 0 ≤ z * z ∧ z * z ≤ B * B := by
  have hB : 0 ≤ B := by omega
  by_cases hz : 0 ≤ z
  · exact ⟨Int.mul_nonneg hz hz, Int.mul_le_mul h.2 h.2 hz hB⟩
  · have e : z * z = (-z) * (-z) := by rw [Int.neg_mul_neg]
    rw [e]
    exact ⟨Int.mul_nonneg (by omega) (by omega), Int.mul_le_mul (by omega) (by omega) (by omega) hB⟩
/-- the number under the root -/
def under (a b c : Int) : Int := (a - b) * (a - b) + 4 * c * c
theorem shape_fits {a b c : Int} (h : WideOk (a, b, c)) : 0 ≤ under a b c ∧ under a b c < 18446744073709551616 ∧ 0 ≤ a + b + rootZ (under a b c) ∧ a + b + rootZ (under a b c) < 4294967296 := by
  unfold WideOk at h
  dsimp only at h
  obtain ⟨h1, h2, h3⟩ := h
  have q1 := sq_le (z := a - b) (B := 33554432) ⟨by omega, by omega⟩
  have q2 := sq_le (z := c) (B := 33554432) ⟨by omega, by omega⟩
  have eB : (33554432 : Int) * 33554432 = 1125899906842624 := by decide
  rw [eB] at q1 q2
  have e4 : 4 * c * c = 4 * (c * c) := Int.mul_assoc 4 c c
  have n0 : 0 ≤ under a b c := by
    unfold under
    omega
  have n1 : under a b c ≤ 5629499534213120 := by
    unfold under
    omega
  obtain ⟨r0, r1, r2⟩ := rootZ_is n0 (by omega)
  have r3 : rootZ (under a b c) < 268435456 := by
    apply Decidable.byContradiction
    intro z
    have z : 268435456 ≤ rootZ (under a b c) := by omega
    have := Int.mul_le_mul z z (by decide) r0
    have eC : (268435456 : Int) * 268435456 = 72057594037927936 := by decide
    omega
  exact ⟨n0, by omega, by omega, by omega⟩
theorem shape_is {a b c : Int} (h : WideOk (a, b, c)) : shapeOf (a, b, c) = [a + b + rootZ (under a b c), (a + b - rootZ (under a b c)) % 4294967296, wayZ a b c] := by
  obtain ⟨_, _, h3, h4⟩ := shape_fits h
  show [(a + b + rootZ (under a b c)) % 4294967296, (a + b - rootZ (under a b c)) % 4294967296, wayZ a b c] = _
  rw [Int.emod_eq_of_lt h3 h4]
theorem shape_len3 (p : Int × Int × Int) : (shapeOf p).length = 3 := rfl
end Ap
namespace Sl
open PySem PySem.Spec PyProof.Rows L2
open PySem.W (Codec)
/-! ### the text by places -/
def top (i : Nat) : Stmt := PySem.Challenge.pw_starlight_s06_ap_shape.main.body.getD i (.Pass ⟨0, 0, 0, 0⟩)
abbrev sSigned : Stmt := top 7
abbrev sThings : Stmt := top 8
abbrev sWbad : Stmt := top 9
/-! ### heaps -/
theorem same_new {H : Hp} {p : Addr} {o : HO} (h : H p = none) : Same H (upd H p o) := fun b x e => by
  rw [upd_ne (ne_of_none e h)]
  exact e
theorem get_map {α : Type} {m : α → V} {l : List α} {i : Nat} {z : α} (h : l[i]? = some z) : (l.map m)[i]? = some (m z) := by
  rw [List.getElem?_map, h]
  rfl
theorem get_D {l : List Int} {i : Nat} (h : i < l.length) : l[i]? = some (l.getD i 0) := by
  rw [List.getD_eq_getElem?_getD, List.getElem?_eq_getElem h]
  rfl
theorem at_D {l : List Int} {i : Nat} {z : Int} (e : z = (i : Int)) (h : i < l.length) : atI (l.map V.int) z = some (V.int (l.getD i 0)) := at_of e (get_map (get_D h))
theorem tyes {σ : L2.St} {H : Hp} {A B : Hp → Prop} (h : A H) : tYes σ H (fun b H3 => if b = true then A H3 else B H3) := h
theorem ref_at {l : List Addr} {i : Nat} {v : V} (h : (l.map V.ref)[i]? = some v) : ∃ z, l[i]? = some z ∧ v = V.ref z := by
  rw [List.getElem?_map] at h
  cases e : l[i]? with
  | none => rw [e] at h; cases h
  | some z => rw [e] at h; exact ⟨z, rfl, (Option.some.inj h).symm⟩
theorem getD_in {l : List Int} {lo hi : Int} (h : ∀ z ∈ l, lo ≤ z ∧ z ≤ hi) (h0 : lo ≤ 0 ∧ 0 ≤ hi) (i : Nat) : lo ≤ l.getD i 0 ∧ l.getD i 0 ≤ hi := by
  rw [List.getD_eq_getElem?_getD]
  cases e : l[i]? with
  | none => exact h0
  | some z => exact h z (List.mem_of_getElem? e)
section
variable {P : Program} {w : World} {K : PySem.W.Frag} {mg : Str → Option Value} {base : Heap}
/-! ### signed -/
theorem scSigned : FnScope ["word"] ["word"] (defScope sSigned) := ⟨rfl, rfl, rfl, by decide +kernel, rfl, by decide +kernel, by decide +kernel⟩
def spSigned : Sp := fun vs H Q _ => ∃ x : Int, vs = [.int x] ∧ Q (.int (Ap.s32 x)) H
theorem ok_signed {f : Addr} {fd : FuncData} {k : Nat} (F : Fun K "signed" "signed" sSigned f fd) : FnOk P w K mg base CX0 (k + 1) f fd ["word"] spSigned := by
  refine F.ok scSigned (fun vs H Q E h => ?_) (fun cdv A outer s H vs Q E hr h => ?_)
  · obtain ⟨x, rfl, _⟩ := h
    rfl
  · obtain ⟨x, rfl, q⟩ := h
    refine ⟨_, pss_one (ps_ret (pe_ifExp (pt_cmpR op_ge (pv 0) (pe_op op_pow pe_int pe_int) (nomark _)) (pe_op op_sub (pv 0) (pe_op op_pow pe_int pe_int)) (pv 0))), ?_⟩
    refine ⟨_, rfl, 2, 31, rfl, rfl, ⟨by decide, by decide, by decide⟩, x, _, rfl, rfl, _, rfl, ite2 (fun e => ?_) (fun e => ?_)⟩
    · have e : (2147483648 : Int) ≤ x := of_decide_eq_true e
      refine ⟨_, rfl, 2, 32, rfl, rfl, ⟨by decide, by decide, by decide⟩, x, _, rfl, rfl, ?_⟩
      unfold Ap.s32 at q
      rw [if_neg (by omega)] at q
      exact q
    · have e : ¬ (2147483648 : Int) ≤ x := fun z => e (decide_eq_true z)
      refine ⟨_, rfl, ?_⟩
      unfold Ap.s32 at q
      rw [if_pos (by omega)] at q
      exact q
/-! ### things_of -/
theorem scThings : FnScope ["l", "k"] ["l"] (defScope sThings) := ⟨rfl, rfl, rfl, by decide +kernel, rfl, by decide +kernel, by decide +kernel⟩
/-- at t the j-th thing stands -/
def ThingAt (H : Hp) (l : List Int) (j : Nat) (t : Addr) : Prop := H t = some (.tup [.int (Ap.th l j).1, .int (Ap.th l j).2.1, .int (Ap.th l j).2.2])
def spThings (K : PySem.W.Frag) : Sp := fun vs H Q _ => ∃ (a : Addr) (l : List Int), vs = [.ref a] ∧ SqL K H a (l.map V.int) ∧ l.length = 3 * (l.length / 3) ∧ l.length ≤ 3072 ∧
  ∀ (H' : Hp) (p : Addr) (ts : List Addr), Same H H' → H' p = some (.lst (ts.map V.ref)) → ts.length = l.length / 3 → (∀ j t, ts[j]? = some t → ThingAt H' l j t) → Q (.ref p) H'
theorem rg3_size {n : Int} (h0 : 0 ≤ n) (m : Nat) (hm : n = 3 * m) : Builtin.Range.rangeSize 0 n 3 = m := by
  unfold Builtin.Range.rangeSize
  rw [if_pos (by decide)]
  split <;> omega
theorem rg_three {n : Int} (h0 : 0 ≤ n) (h1 : n ≤ 10000) (m : Nat) (hm : n = 3 * m) : RgC 0 n 3 m := by
  refine ⟨by decide, by decide, ?_, ?_⟩
  · unfold Builtin.Range.small
    rw [rg3_size h0 m hm]
    simp only [Builtin.Range.rangeFitsLong, Bool.and_eq_true, Bool.or_eq_true, decide_eq_true_eq, beq_iff_eq, show ((3 : Int) > 0) by decide, if_true]
    omega
  · exact rg3_size h0 m hm
theorem ok_things {f fG : Addr} {fd fdG : FuncData} {k : Nat} (F : Fun K "things_of" "things_of" sThings f fd) (mL : mg "len" = none) (mR : mg "range" = none)
    (gG : mg "signed" = some (.ref fG)) (kG : PySem.W.keepIn K (.ref fG) = true) (bG : Binds K fdG ["word"] []) (GG : FnOk P w K mg base CX0 k fG fdG ["word"] spSigned) :
    FnOk P w K mg base CX0 (k + 1) f fd ["l"] (spThings K) := by
  refine F.ok scThings (fun vs H Q E h => ?_) (fun cdv A outer s H vs Q E hr h => ?_)
  · obtain ⟨a, l, rfl, _⟩ := h
    rfl
  · obtain ⟨a, l, rfl, hS, hev, hlen, q⟩ := h
    refine ⟨_, pss_one (ps_ret (pe_lc (own := [("k", 1)]) (g := gName 1) (tt := tYes) rfl scThings.nd
      (pi_range3 rfl mR (pa_cons pe_int (pa_cons (pe_callB call_len_seq (by rfl) mL PySem.boot_len (pa_cons (pv 0) pa_nil)) (pa_cons pe_int pa_nil))))
      (blkOk_by (own := [("k", 1)]) (N := ["l", "k"]) (sc := defScope sThings) (by decide +kernel)) (fun _ _ _ _ _ => pg_name (i := 1) scThings.nd rfl (Or.inl rfl)) (fun _ _ _ _ _ => pts_nil)
      (fun _ _ _ _ _ => pe_tup (pa_cons (pe_call GG hr (by rfl) gG kG bG .nil pass0 (pa_cons (pe_ix (r := rIxL K) ix_list (pv 0) (pv 1) (fun _ _ => rfl)) pa_nil))
        (pa_cons (pe_call GG hr (by rfl) gG kG bG .nil pass0 (pa_cons (pe_ix (r := rIxL K) ix_list (pv 0) (pe_op op_add (pv 1) pe_int) (fun _ _ => rfl)) pa_nil))
        (pa_cons (pe_call GG hr (by rfl) gG kG bG .nil pass0 (pa_cons (pe_ix (r := rIxL K) ix_list (pv 0) (pe_op op_add (pv 1) pe_int) (fun _ _ => rfl)) pa_nil)) pa_nil)))))), ?_⟩
    refine ⟨.ref a, rfl, a, _, rfl, .inl hS, 0, _, 3, l.length / 3, rfl, rg_three (by omega) (by rw [List.length_map]; omega) _ (by rw [List.length_map]; omega), fun D nD => ?_⟩
    refine lc_it walk_rangeC (fun i H' => ∃ ts : List Addr, ts.length = i ∧ H' D = some (.lst (ts.map V.ref)) ∧ Same H H' ∧ ∀ j t, ts[j]? = some t → ThingAt H' l j t)
      ⟨[], rfl, upd_same, same_new nD, fun j t h => by simp at h⟩ (fun _ _ _ _ => trivial) ?_ ?_
    · rintro i x H1 H2 hi ⟨ts, hl, hD, sm, hp⟩ ⟨rfl, rfl⟩
      refine ⟨rfl, tyes ?_⟩
      have hi2 : i < l.length / 3 := hi
      refine ⟨.ref a, rfl, _, rfl, a, _, _, _, rfl, rfl, sm.seq hS, at_D (i := 3 * i) (by omega) (by omega), _, rfl, ?_⟩
      refine ⟨.ref a, rfl, _, rfl, _, 1, rfl, rfl, a, _, _, _, rfl, rfl, sm.seq hS, at_D (i := 3 * i + 1) (by omega) (by omega), _, rfl, ?_⟩
      refine ⟨.ref a, rfl, _, rfl, _, 2, rfl, rfl, a, _, _, _, rfl, rfl, sm.seq hS, at_D (i := 3 * i + 2) (by omega) (by omega), _, rfl, ?_⟩
      refine ⟨(by show 3 ≤ sizeLine; decide), fun t nt => ?_⟩
      have nDt : D ≠ t := ne_of_none hD nt
      refine ⟨_, (by rw [upd_ne nDt]; exact hD), (by rw [List.length_map, hl]; exact Nat.lt_of_le_of_lt (show _ ≤ 10000 by omega) (by decide)), ts ++ [t], (by rw [List.length_append, hl]; rfl), (by rw [upd_same, List.map_append]; rfl), ?_, ?_⟩
      · intro b o e
        have nb : b ≠ D := ne_of_none e nD
        rw [upd_ne nb]
        exact same_new nt b o (sm b o e)
      · intro j u hj
        unfold ThingAt
        by_cases hjl : j < ts.length
        · rw [List.getElem?_append_left hjl] at hj
          have e1 := hp j u hj
          have n1 : u ≠ D := ne_of e1 hD (by intro z; cases z)
          rw [upd_ne n1]
          exact same_new nt _ _ e1
        · rw [List.getElem?_append_right (by omega)] at hj
          have ej : j - ts.length = 0 := by
            cases hz : j - ts.length with
            | zero => rfl
            | succ m => rw [hz] at hj; simp at hj
          rw [ej] at hj
          have eu : t = u := Option.some.inj hj
          have ei : j = i := by omega
          subst eu ei
          rw [upd_ne (fun z => nDt z.symm), upd_same]
          rfl
    · rintro H1 ⟨ts, hl, hD, sm, hp⟩
      exact q H1 D ts sm hD hl hp
/-! ### widths_are_bad -/
theorem scWbad : FnScope ["a", "b", "c"] ["a", "b", "c"] (defScope sWbad) := ⟨rfl, rfl, rfl, by decide +kernel, rfl, by decide +kernel, by decide +kernel⟩
def spWbad : Sp := fun vs H Q _ => ∃ x y z : Int, vs = [.int x, .int y, .int z] ∧ ∀ b : Bool, (b = true ↔ ¬ Ap.WideOk (x, y, z)) → Q (.bl b) H
theorem ok_wbad {f : Addr} {fd : FuncData} {k : Nat} {t : Nat} (F : Fun K "widths_are_bad" "widths_are_bad" sWbad f fd) (gM : mg "MOST_WIDTH" = some (.int 33554432 t)) (mA : mg "abs" = none) : FnOk P w K mg base CX0 (k + 1) f fd ["a", "b", "c"] spWbad := by
  refine F.ok scWbad (fun vs H Q E h => ?_) (fun cdv A outer s H vs Q E hr h => ?_)
  · obtain ⟨x, y, z, rfl, _⟩ := h
    rfl
  · obtain ⟨x, y, z, rfl, q⟩ := h
    refine ⟨_, pss_one (ps_ret (pe_or (pe_cmpR op_lt (pv 0) pe_int (nomark _)) (pe_or (pe_cmpR op_gt (pv 0) (pe_glob (v := .int 33554432) rfl gM ⟨_, rfl⟩) (nomark _))
      (pe_or (pe_cmpR op_lt (pv 1) pe_int (nomark _)) (pe_or (pe_cmpR op_gt (pv 1) (pe_glob (v := .int 33554432) rfl gM ⟨_, rfl⟩) (nomark _))
      (pe_one (pe_cmpR op_gt (pe_callB call_abs (by rfl) mA (by decide +kernel) (pa_cons (pv 2) pa_nil)) (pe_glob (v := .int 33554432) rfl gM ⟨_, rfl⟩) (nomark _)))))))), ?_⟩
    unfold Ap.WideOk at q
    dsimp only at q
    refine ⟨_, rfl, x, 0, rfl, rfl, _, rfl, ite2 (fun e => q _ ?_) (fun e => ?_)⟩
    · have := of_decide_eq_true e
      simp
      omega
    have e1 : ¬ x < 0 := fun z => e (decide_eq_true z)
    refine ⟨_, rfl, x, 33554432, rfl, rfl, _, rfl, ite2 (fun e => q _ ?_) (fun e => ?_)⟩
    · have := of_decide_eq_true e
      simp
      omega
    have e2 : ¬ 33554432 < x := fun z => e (decide_eq_true z)
    refine ⟨_, rfl, y, 0, rfl, rfl, _, rfl, ite2 (fun e => q _ ?_) (fun e => ?_)⟩
    · have := of_decide_eq_true e
      simp
      omega
    have e3 : ¬ y < 0 := fun z => e (decide_eq_true z)
    refine ⟨_, rfl, y, 33554432, rfl, rfl, _, rfl, ite2 (fun e => q _ ?_) (fun e => ?_)⟩
    · have := of_decide_eq_true e
      simp
      omega
    have e4 : ¬ 33554432 < y := fun z => e (decide_eq_true z)
    refine ⟨_, rfl, z, rfl, _, 33554432, rfl, rfl, q _ ?_⟩
    rw [decide_eq_true_eq]
    split <;> omega
end
end Sl
namespace Sl
open PySem PySem.Spec PyProof.Rows L2
open PySem.W (Codec)
abbrev sRoot : Stmt := top 10
theorem ip_fdiv {X : Cx} : PIp X .FloorDiv (rI CDiv fun i j => .int (i / j)) := iop_fdiv
section
variable {P : Program} {w : World} {K : PySem.W.Frag} {mg : Str → Option Value} {base : Heap}
/-! ### root -/
theorem scRoot : FnScope ["n", "found", "step"] ["n"] (defScope sRoot) := ⟨rfl, rfl, rfl, by decide +kernel, rfl, by decide +kernel, by decide +kernel⟩
def spRoot : Sp := fun vs H Q _ => ∃ n : Int, vs = [.int n] ∧ 0 ≤ n ∧ n < 18446744073709551616 ∧ Q (.int (Ap.rootZ n)) H
/-- the step with k bits to come -/
def stepOf (k : Nat) : Int := ((2 ^ k / 2 : Nat) : Int)
def slotAt (σ : L2.St) (i : Nat) : Int := match σ[i]? with
  | some (some (.int z)) => z
  | _ => 0
theorem ok_root {f : Addr} {fd : FuncData} {k : Nat} (F : Fun K "root" "root" sRoot f fd) : FnOk P w K mg base CX0 (k + 1) f fd ["n"] spRoot := by
  refine F.ok scRoot (fun vs H Q E h => ?_) (fun cdv A outer s H vs Q E hr h => ?_)
  · obtain ⟨n, rfl, _⟩ := h
    rfl
  · obtain ⟨n, rfl, n0, n1, q⟩ := h
    obtain ⟨N, rfl⟩ : ∃ N : Nat, n = (N : Int) := ⟨n.toNat, by omega⟩
    refine ⟨_, pss_cons (ps_set (i := 1) scRoot.nd rfl (.inl rfl) pe_int)
      (pss_cons (ps_set (i := 2) scRoot.nd rfl (.inl rfl) (pe_op op_pow pe_int pe_int))
      (pss_cons (ps_while PassesOwn.never (pt_cmpR op_gt (pv 2) pe_int (nomark _))
        (pss_cons (ps_if (pt_cmpR op_le (pe_op op_pow (pe_op op_add (pv 1) (pv 2)) pe_int) (pv 0) (nomark _)) (pss_one (ps_aug (i := 1) scRoot.nd rfl (.inl rfl) (pv 2) ip_add)) pss_nil)
        (pss_one (ps_aug (i := 2) scRoot.nd rfl (.inl rfl) pe_int ip_fdiv))))
      (pss_one (ps_ret (pv 1))))), ?_⟩
    refine ⟨2, 31, rfl, rfl, ⟨by decide, by decide, by decide⟩, ?_⟩
    refine while_by (fun σ H' => H' = H ∧ ∃ k r : Nat, σ = [some (.int (N : Int)), some (.int (r : Int)), some (.int (stepOf k))] ∧ r + 2 ^ k ≤ 4294967296 ∧ Sh67.rootBy k N r = Sh67.root N) (fun σ _ => (slotAt σ 2).toNat) ?_ ?_ ?_
    · exact ⟨rfl, 32, 0, rfl, by decide, rfl⟩
    · rintro σ H' ⟨rfl, k, r, rfl, hb, he⟩
      refine ⟨_, rfl, stepOf k, 0, rfl, rfl, _, rfl, ?_⟩
      cases k with
      | zero =>
        refine ite2 (fun e => ?_) (fun _ => ?_)
        · have e := of_decide_eq_true e
          exact absurd e (by decide)
        · have he : r = Sh67.root N := he
          refine ⟨_, rfl, ?_⟩
          rw [he]
          exact q
      | succ k =>
        have es : stepOf (k + 1) = ((2 ^ k : Nat) : Int) := by
          unfold stepOf
          rw [Nat.pow_succ, Nat.mul_div_cancel _ (by decide)]
        have hp : 0 < 2 ^ k := Nat.two_pow_pos k
        have e2 : 2 ^ (k + 1) = 2 ^ k + 2 ^ k := by rw [Nat.pow_succ]; omega
        rw [e2] at hb
        refine ite2 (fun _ => ?_) (fun e => ?_)
        · have eq : ((r : Int) + stepOf (k + 1)) ^ (2 : Int).toNat = (((r + 2 ^ k) * (r + 2 ^ k) : Nat) : Int) := by
            rw [es]
            show ((r : Int) + ((2 ^ k : Nat) : Int)) ^ 2 = _
            rw [Ap.sq, Int.natCast_mul, Int.natCast_add]
          have hd : stepOf (k + 1) / 2 = stepOf k := by
            rw [es]
            unfold stepOf
            omega
          have hm : (stepOf (k + 1) / 2).toNat < (stepOf (k + 1)).toNat := by
            rw [es]
            omega
          unfold Sh67.rootBy at he
          refine ⟨_, rfl, _, rfl, _, _, rfl, rfl, _, 2, rfl, rfl, ⟨by decide, by decide, ?_⟩, _, rfl, _, _, rfl, rfl, _, rfl, ?_⟩
          · rw [es]
            omega
          rw [eq]
          refine ite2 (fun e => ?_) (fun e => ?_)
          · have e : (((r + 2 ^ k) * (r + 2 ^ k) : Nat) : Int) ≤ (N : Int) := of_decide_eq_true e
            rw [if_pos (by omega)] at he
            refine ⟨_, rfl, _, rfl, _, _, rfl, rfl, _, rfl, _, 2, rfl, rfl, ⟨by decide, by decide⟩, ⟨rfl, k, r + 2 ^ k, ?_, by omega, he⟩, hm⟩
            rw [← hd]
            show [_, _, _] = _
            rw [Int.natCast_add, ← es]
          · have e : ¬ (((r + 2 ^ k) * (r + 2 ^ k) : Nat) : Int) ≤ (N : Int) := fun z => e (decide_eq_true z)
            rw [if_neg (by omega)] at he
            refine ⟨_, rfl, _, 2, rfl, rfl, ⟨by decide, by decide⟩, ⟨rfl, k, r, ?_, by omega, he⟩, hm⟩
            rw [← hd]
            rfl
        · exact absurd (by rw [es]; omega) (fun z => e (decide_eq_true z))
    · rintro σ H' Q1 Q2 hq ⟨v, e1, i, j, e2, e3, k, e4, h⟩
      exact ⟨v, e1, i, j, e2, e3, k, e4, hq _ _ h⟩
end
end Sl
namespace Sl
open PySem PySem.Spec PyProof.Rows L2
open PySem.W (Codec)
abbrev sWay : Stmt := top 11
abbrev sShape : Stmt := top 12
section
variable {P : Program} {w : World} {K : PySem.W.Frag} {mg : Str → Option Value} {base : Heap}
/-! ### way_of_long_axis -/
theorem scWay : FnScope ["a", "b", "c"] ["a", "b", "c"] (defScope sWay) := ⟨rfl, rfl, rfl, by decide +kernel, rfl, by decide +kernel, by decide +kernel⟩
def spWay : Sp := fun vs H Q _ => ∃ a b c : Int, vs = [.int a, .int b, .int c] ∧ Q (.int (Ap.wayZ a b c)) H
theorem abs_is (z : Int) : (if z < 0 then -z else z) = (z.natAbs : Int) := by
  split <;> omega
theorem ok_way {f : Addr} {fd : FuncData} {k t0 t1 t2 t3 : Nat} (F : Fun K "way_of_long_axis" "way_of_long_axis" sWay f fd) (mA : mg "abs" = none)
    (g0 : mg "ACROSS" = some (.int 0 t0)) (g1 : mg "RIGHT_BELOW" = some (.int 1 t1)) (g2 : mg "DOWN" = some (.int 2 t2)) (g3 : mg "LEFT_BELOW" = some (.int 3 t3)) : FnOk P w K mg base CX0 (k + 1) f fd ["a", "b", "c"] spWay := by
  refine F.ok scWay (fun vs H Q E h => ?_) (fun cdv A outer s H vs Q E hr h => ?_)
  · obtain ⟨a, b, c, rfl, _⟩ := h
    rfl
  · obtain ⟨a, b, c, rfl, q⟩ := h
    refine ⟨_, pss_cons (ps_if (pt_cmpR op_lt (pe_callB call_abs (by rfl) mA (by decide +kernel) (pa_cons (pe_op op_mul pe_int (pv 2)) pa_nil)) (pe_callB call_abs (by rfl) mA (by decide +kernel) (pa_cons (pe_op op_sub (pv 0) (pv 1)) pa_nil)) (nomark _))
        (pss_one (ps_ret (pe_ifExp (pt_cmpR op_lt (pv 1) (pv 0) (nomark _)) (pe_glob (v := .int 0) rfl g0 ⟨_, rfl⟩) (pe_glob (v := .int 2) rfl g2 ⟨_, rfl⟩)))) pss_nil)
      (pss_one (ps_ret (pe_ifExp (pt_cmpR op_ge (pv 2) pe_int (nomark _)) (pe_glob (v := .int 1) rfl g1 ⟨_, rfl⟩) (pe_glob (v := .int 3) rfl g3 ⟨_, rfl⟩)))), ?_⟩
    unfold Ap.wayZ at q
    refine ⟨_, rfl, 2, c, rfl, rfl, .inl ⟨by decide, by decide⟩, _, rfl, _, rfl, _, rfl, _, _, rfl, rfl, _, rfl, _, _, rfl, rfl, _, rfl, ite2 (fun e => ?_) (fun e => ?_)⟩
    · have e := of_decide_eq_true e
      rw [abs_is, abs_is] at e
      rw [if_pos (by omega)] at q
      refine ⟨_, rfl, _, rfl, _, _, rfl, rfl, _, rfl, ite2 (fun e => ?_) (fun e => ?_)⟩
      · rw [if_pos (of_decide_eq_true e)] at q
        exact q
      · rw [if_neg (fun z => e (decide_eq_true z))] at q
        exact q
    · have e : ¬ _ := fun z => e (decide_eq_true z)
      rw [abs_is, abs_is] at e
      rw [if_neg (by omega)] at q
      refine ⟨_, rfl, _, _, rfl, rfl, _, rfl, ite2 (fun e => ?_) (fun e => ?_)⟩
      · rw [if_pos (of_decide_eq_true e)] at q
        exact q
      · rw [if_neg (fun z => e (decide_eq_true z))] at q
        exact q
/-! ### shape -/
theorem scShape : FnScope ["a", "b", "c", "apart"] ["a", "b", "c"] (defScope sShape) := ⟨rfl, rfl, rfl, by decide +kernel, rfl, by decide +kernel, by decide +kernel⟩
def spShape : Sp := fun vs H Q _ => ∃ a b c : Int, vs = [.int a, .int b, .int c] ∧ Ap.WideOk (a, b, c) ∧ ∀ (H' : Hp) (p : Addr), Same H H' → H p = none → H' p = some (.lst ((Ap.shapeOf (a, b, c)).map V.int)) → Q (.ref p) H'
theorem ok_shape {f fR fW : Addr} {fd fdR fdW : FuncData} {k : Nat} (F : Fun K "shape" "shape" sShape f fd)
    (gR : mg "root" = some (.ref fR)) (kR : PySem.W.keepIn K (.ref fR) = true) (bR : Binds K fdR ["n"] []) (GR : FnOk P w K mg base CX0 k fR fdR ["n"] spRoot)
    (gW : mg "way_of_long_axis" = some (.ref fW)) (kW : PySem.W.keepIn K (.ref fW) = true) (bW : Binds K fdW ["a", "b", "c"] []) (GW : FnOk P w K mg base CX0 k fW fdW ["a", "b", "c"] spWay) :
    FnOk P w K mg base CX0 (k + 1) f fd ["a", "b", "c"] spShape := by
  refine F.ok scShape (fun vs H Q E h => ?_) (fun cdv A outer s H vs Q E hr h => ?_)
  · obtain ⟨a, b, c, rfl, _⟩ := h
    rfl
  · obtain ⟨a, b, c, rfl, hw, q⟩ := h
    refine ⟨_, pss_cons (ps_set (i := 3) scShape.nd rfl (.inl rfl) (pe_call GR hr (by rfl) gR kR bR .nil pass0 (pa_cons (pe_op op_add (pe_op op_pow (pe_op op_sub (pv 0) (pv 1)) pe_int) (pe_op op_mul (pe_op op_mul pe_int (pv 2)) (pv 2))) pa_nil)))
      (pss_one (ps_ret (pe_lst (pa_cons (pe_op op_add (pe_op op_add (pv 0) (pv 1)) (pv 3)) (pa_cons (pe_op op_mod (pe_op op_sub (pe_op op_add (pv 0) (pv 1)) (pv 3)) (pe_op op_pow pe_int pe_int))
        (pa_cons (pe_call GW hr (by rfl) gW kW bW .nil pass0 (pa_cons (pv 0) (pa_cons (pv 1) (pa_cons (pv 2) pa_nil)))) pa_nil)))))), ?_⟩
    obtain ⟨n0, n1, s0, s1⟩ := Ap.shape_fits hw
    have es := Ap.shape_is hw
    have hw' := hw
    unfold Ap.WideOk at hw'
    dsimp only at hw'
    have en : (a - b) ^ (2 : Int).toNat + 4 * c * c = Ap.under a b c := by
      show (a - b) ^ 2 + 4 * c * c = _
      rw [Ap.sq]
      rfl
    refine ⟨_, rfl, _, rfl, _, _, rfl, rfl, _, 2, rfl, rfl, ⟨by decide, by decide, ?_⟩, _, rfl, 4, c, rfl, rfl, .inl ⟨by decide, by decide⟩, _, rfl, _, _, rfl, rfl, .inr ⟨by omega, by omega⟩, _, _, rfl, rfl, ?_⟩
    · have e : (2 : Nat) ^ 64 = 18446744073709551616 := by decide
      rw [e]
      omega
    refine ⟨Ap.under a b c, congrArg (fun z => [V.int z]) en, n0, n1, ?_⟩
    refine ⟨_, rfl, _, rfl, _, _, rfl, rfl, _, rfl, _, _, rfl, rfl, _, rfl, _, rfl, _, _, rfl, rfl, _, rfl, _, _, rfl, rfl, 2, 32, rfl, rfl, ⟨by decide, by decide, by decide⟩, _, _, rfl, rfl, (by show (0 : Int) < 4294967296; decide), ?_⟩
    refine ⟨_, rfl, _, rfl, _, rfl, a, b, c, rfl, ?_⟩
    refine ⟨(by show 3 ≤ sizeLine; decide), fun p np => ?_⟩
    refine q _ p (same_new np) np ?_
    rw [upd_same, es]
    rfl
end
end Sl
namespace Sl
open PySem PySem.Spec PyProof.Rows L2
open PySem.W (Codec)
abbrev sMain : Stmt := top 13
section
variable {P : Program} {w : World} {K : PySem.W.Frag} {mg : Str → Option Value} {base : Heap}
/-! ### ap_shape -/
theorem scMain : FnScope ["l", "answer", "a", "b", "c"] ["l"] (defScope sMain) := ⟨rfl, rfl, rfl, by decide +kernel, rfl, by decide +kernel, by decide +kernel⟩
def spMain (K : PySem.W.Frag) : Sp := fun vs H Q _ => ∃ (d : Addr) (l : List Int), vs = [.ref d] ∧ SqL K H d (l.map V.int) ∧ (∀ z ∈ l, 0 ≤ z) ∧
  PySh67.ap_shape_asked l = true ∧ ∀ (H' : Hp) (p : Addr), H' p = some (.lst ((PySh67.ap_shape l).map V.int)) → Q (.ref p) H'
theorem ok_main {f fT fB fS : Addr} {fd fdT fdB fdS : FuncData} {k t : Nat} (F : Fun K "ap_shape" "ap_shape" sMain f fd) (gM : mg "MOST_THINGS" = some (.int 1024 t)) (mL : mg "len" = none)
    (gT : mg "things_of" = some (.ref fT)) (kT : PySem.W.keepIn K (.ref fT) = true) (bT : Binds K fdT ["l"] []) (GT : FnOk P w K mg base CX0 k fT fdT ["l"] (spThings K))
    (gB : mg "widths_are_bad" = some (.ref fB)) (kB : PySem.W.keepIn K (.ref fB) = true) (bB : Binds K fdB ["a", "b", "c"] []) (GB : FnOk P w K mg base CX0 k fB fdB ["a", "b", "c"] spWbad)
    (gS : mg "shape" = some (.ref fS)) (kS : PySem.W.keepIn K (.ref fS) = true) (bS : Binds K fdS ["a", "b", "c"] []) (GS : FnOk P w K mg base CX0 k fS fdS ["a", "b", "c"] spShape) :
    FnOk P w K mg base CX0 (k + 1) f fd ["l"] (spMain K) := by
  refine F.ok scMain (fun vs H Q E h => ?_) (fun cdv A outer s H vs Q E hr hh => ?_)
  · obtain ⟨d, l, rfl, _⟩ := h
    rfl
  · obtain ⟨d, l, rfl, hS, hl0, hask, q⟩ := hh
    refine ⟨_, pss_cons (ps_if (pt_cmpR op_gt (pe_callB call_len_seq (by rfl) mL PySem.boot_len (pa_cons (pv 0) pa_nil)) (pe_op op_mul pe_int (pe_glob (v := .int 1024) rfl gM ⟨_, rfl⟩)) (nomark _)) (pss_one (ps_ret (pe_lst (pa_cons (pe_un un_neg pe_int) pa_nil)))) pss_nil)
      (pss_cons (ps_set (i := 1) scMain.nd rfl (.inl rfl) (pe_lst (pa_cons pe_int pa_nil)))
      (pss_cons (ps_for PassesOwn.never rfl (pi_list (pe_call GT hr (by rfl) gT kT bT .nil pass0 (pa_cons (pv 0) pa_nil))) (pg_tup rfl (pgs_cons (pg_name (i := 2) scMain.nd rfl (.inl rfl)) (pgs_cons (pg_name (i := 3) scMain.nd rfl (.inl rfl)) (pgs_cons (pg_name (i := 4) scMain.nd rfl (.inl rfl)) pgs_nil))))
        (pss_cons (ps_if (pt_val (pe_call GB hr (by rfl) gB kB bB .nil pass0 (pa_cons (pv 2) (pa_cons (pv 3) (pa_cons (pv 4) pa_nil))))) (pss_one (ps_ret (pe_lst (pa_cons (pe_un un_neg pe_int) pa_nil)))) pss_nil)
        (pss_one (ps_expr (pe_bm PySem.F.plainAttrs_list PySem.F.slot_list_extend PySem.F.type_list_extend mt_extend (pv 1)
          (pa_cons (pe_call GS hr (by rfl) gS kS bS .nil pass0 (pa_cons (pv 2) (pa_cons (pv 3) (pa_cons (pv 4) pa_nil)))) pa_nil))))))
      (pss_one (ps_ret (pv 1))))), ?_⟩
    have hl3 := Ap.shape_len hask
    refine ⟨_, rfl, d, _, rfl, .inl hS, 3, 1024, rfl, rfl, .inl ⟨by decide, by decide⟩, _, _, rfl, rfl, _, rfl, ite2 (fun e => ?_) (fun e => ?_)⟩
    · have e := of_decide_eq_true e
      rw [List.length_map] at e
      refine ⟨2, rfl, (by show 1 ≤ sizeLine; decide), fun p _ => q _ p ?_⟩
      rw [upd_same, Ap.shape_bad (by omega)]
      rfl
    have e1 : l.length ≤ 3072 := by
      have : ¬ _ := fun z => e (decide_eq_true z)
      rw [List.length_map] at this
      omega
    -- answer = [0]
    refine ⟨(by show 1 ≤ sizeLine; decide), fun o no => ?_⟩
    have s1 : Same H (upd H o (.lst [.int 0])) := same_new no
    refine ⟨_, rfl, d, l, rfl, s1.seq hS, hl3, e1, fun H2 p ts sm hp hl hpl => ?_⟩
    have sm2 : Same H H2 := s1.trans sm
    have ho2 : H2 o = some (.lst [.int 0]) := sm _ _ upd_same
    refine ⟨p, rfl, ⟨_, SqL.of hp⟩, ?_⟩
    by_cases hpo : p = o
    · subst hpo
      have e := hp.symm.trans ho2
      have e := HO.lst.inj (Option.some.inj e)
      cases ts with
      | nil => cases e
      | cons t0 r0 => cases e
    refine for_list (K := K) (a := p) (xs := ts.map V.ref) (fun i σ H' => ∃ v2 v3 v4 : Option V, σ = [some (.ref d), some (.ref o), v2, v3, v4] ∧ (∀ e ob, e ≠ o → H2 e = some ob → H' e = some ob) ∧
      H' o = some (.lst ((0 :: Ap.flatTo i fun j => Ap.shapeOf (Ap.th l j)).map V.int)) ∧ ∀ j, j < i → Ap.WideOk (Ap.th l j)) ⟨none, none, none, rfl, fun _ _ _ e => e, ho2, fun j hj => absurd hj (by omega)⟩ (fun i σ H' _ ⟨_, _, _, _, kp, _⟩ => SqL.of (kp _ _ hpo hp)) ?_ ?_
    · rintro i v σ H' hi ⟨v2, v3, v4, rfl, kp, ho, hwd⟩
      obtain ⟨t, ht, rfl⟩ := ref_at hi
      have hil : i < l.length / 3 := by
        have := (List.getElem?_eq_some_iff.mp ht).1
        omega
      have hT := hpl i t ht
      have nt : t ≠ o := ne_of hT ho2 (by intro z; cases z)
      refine ⟨t, _, rfl, .inl (.inl (kp _ _ nt hT)), rfl, _, _, rfl, _, _, rfl, _, _, rfl, rfl, ?_⟩
      refine ⟨_, rfl, _, rfl, _, rfl, _, _, _, rfl, fun c hc => ⟨c, rfl, ?_⟩⟩
      cases c with
      | true =>
        refine ⟨3, rfl, (by show 1 ≤ sizeLine; decide), fun p3 _ => q _ p3 ?_⟩
        rw [upd_same, Ap.shape_none hl0 hl3 (by omega) (fun z => hc.mp rfl (z i hil))]
        rfl
      | false =>
        have hw : Ap.WideOk (Ap.th l i) := by
          apply Classical.byContradiction
          intro z
          exact Bool.noConfusion (hc.mpr z)
        refine ⟨.ref o, rfl, .inl ⟨rfl, _, SqL.of ho⟩, _, rfl, _, rfl, _, rfl, _, _, _, rfl, hw, fun H3 p3 sm3 np3 hp3 => ?_⟩
        refine ⟨o, p3, _, _, rfl, rfl, sm3 _ _ ho, hp3, ?_, ?_⟩
        · have := Ap.flatTo_len_le (g := fun j => Ap.shapeOf (Ap.th l j)) (k := 3) (fun _ => Nat.le_refl 3) i
          rw [List.length_map, List.length_cons, List.length_map, Ap.shape_len3]
          exact Nat.le_of_lt (Nat.lt_of_le_of_lt (show _ ≤ 10000 by omega) (by decide))
        · refine ⟨_, _, _, rfl, fun c ob nc e => ?_, ?_, ?_⟩
          · rw [upd_ne nc]
            exact sm3 _ _ (kp c ob nc e)
          · rw [upd_same, Ap.flatTo_succ, ← List.cons_append, List.map_append]
          · intro j hj
            by_cases hji : j = i
            · rw [hji]; exact hw
            · exact hwd j (by omega)
    · rintro σ H' ⟨v2, v3, v4, rfl, kp, ho, hwd⟩
      rw [List.length_map, hl] at ho hwd
      rw [Ap.shape_good hl0 hl3 (by omega) hwd] at q
      exact ⟨_, rfl, q H' o ho⟩
end
end Sl
namespace Sl
open PySem PySem.Spec PyProof.Rows L2
open PySem.W (Codec)
/-! ### what the top has written -/
theorem all_mk {P : Program} {w : World} {K : PySem.W.Frag} {h : Heap} {mg : Str → Option Value} {fa f1 f2 f3 f4 f5 f6 f7 : Addr} (X : K.In h) (G : h.Ns mainGlobals mg) (hfa : mg "ap_shape" = some (.ref fa))
    {od1 an1 od2 an2 od3 an3 od4 an4 od5 an5 od6 an6 od7 an7 : Option Addr} {sl1 sl2 sl3 sl4 sl5 sl6 sl7 : Array (Option Value)} {oc1 kV1 dc1 pm1 cd1 ct1 oc2 kV2 dc2 pm2 cd2 ct2 oc3 kV3 dc3 pm3 cd3 ct3 oc4 kV4 dc4 pm4 cd4 ct4 oc5 kV5 dc5 pm5 cd5 ct5 oc6 kV6 dc6 pm6 cd6 ct6 oc7 kV7 dc7 pm7 cd7 ct7 : Value} {t0 t1 t2 t3 t4 t5 : Nat}
    (a1 : PySem.W.nsIn K mainGlobals "signed" = some (some (.ref f1))) (l1 : K.lookup f1 = some ⟨oc1, od1, .func (PySem.W.fnOf "signed" "signed" (defArgs sSigned) (defBody sSigned) (defScope sSigned) .none kV1 dc1 pm1 an1 cd1 ct1), sl1⟩) (c1 : PySem.W.codeIn K cd1 "signed" = true) (k1 : PySem.W.keepIn K (.ref f1) = true)
    (a2 : PySem.W.nsIn K mainGlobals "things_of" = some (some (.ref f2))) (l2 : K.lookup f2 = some ⟨oc2, od2, .func (PySem.W.fnOf "things_of" "things_of" (defArgs sThings) (defBody sThings) (defScope sThings) .none kV2 dc2 pm2 an2 cd2 ct2), sl2⟩) (c2 : PySem.W.codeIn K cd2 "things_of" = true) (k2 : PySem.W.keepIn K (.ref f2) = true)
    (a3 : PySem.W.nsIn K mainGlobals "widths_are_bad" = some (some (.ref f3))) (l3 : K.lookup f3 = some ⟨oc3, od3, .func (PySem.W.fnOf "widths_are_bad" "widths_are_bad" (defArgs sWbad) (defBody sWbad) (defScope sWbad) .none kV3 dc3 pm3 an3 cd3 ct3), sl3⟩) (c3 : PySem.W.codeIn K cd3 "widths_are_bad" = true) (k3 : PySem.W.keepIn K (.ref f3) = true)
    (a4 : PySem.W.nsIn K mainGlobals "root" = some (some (.ref f4))) (l4 : K.lookup f4 = some ⟨oc4, od4, .func (PySem.W.fnOf "root" "root" (defArgs sRoot) (defBody sRoot) (defScope sRoot) .none kV4 dc4 pm4 an4 cd4 ct4), sl4⟩) (c4 : PySem.W.codeIn K cd4 "root" = true) (k4 : PySem.W.keepIn K (.ref f4) = true)
    (a5 : PySem.W.nsIn K mainGlobals "way_of_long_axis" = some (some (.ref f5))) (l5 : K.lookup f5 = some ⟨oc5, od5, .func (PySem.W.fnOf "way_of_long_axis" "way_of_long_axis" (defArgs sWay) (defBody sWay) (defScope sWay) .none kV5 dc5 pm5 an5 cd5 ct5), sl5⟩) (c5 : PySem.W.codeIn K cd5 "way_of_long_axis" = true) (k5 : PySem.W.keepIn K (.ref f5) = true)
    (a6 : PySem.W.nsIn K mainGlobals "shape" = some (some (.ref f6))) (l6 : K.lookup f6 = some ⟨oc6, od6, .func (PySem.W.fnOf "shape" "shape" (defArgs sShape) (defBody sShape) (defScope sShape) .none kV6 dc6 pm6 an6 cd6 ct6), sl6⟩) (c6 : PySem.W.codeIn K cd6 "shape" = true) (k6 : PySem.W.keepIn K (.ref f6) = true)
    (a7 : PySem.W.nsIn K mainGlobals "ap_shape" = some (some (.ref f7))) (l7 : K.lookup f7 = some ⟨oc7, od7, .func (PySem.W.fnOf "ap_shape" "ap_shape" (defArgs sMain) (defBody sMain) (defScope sMain) .none kV7 dc7 pm7 an7 cd7 ct7), sl7⟩) (c7 : PySem.W.codeIn K cd7 "ap_shape" = true) (k7 : PySem.W.keepIn K (.ref f7) = true)
    (v0 : PySem.W.nsIn K mainGlobals "MOST_THINGS" = some (some (.int 1024 t0)))
    (v1 : PySem.W.nsIn K mainGlobals "MOST_WIDTH" = some (some (.int 33554432 t1)))
    (v2 : PySem.W.nsIn K mainGlobals "ACROSS" = some (some (.int 0 t2)))
    (v3 : PySem.W.nsIn K mainGlobals "RIGHT_BELOW" = some (some (.int 1 t3)))
    (v4 : PySem.W.nsIn K mainGlobals "DOWN" = some (some (.int 2 t4)))
    (v5 : PySem.W.nsIn K mainGlobals "LEFT_BELOW" = some (some (.int 3 t5)))
    (z0 : PySem.W.nsIn K mainGlobals "len" = some none)
    (z1 : PySem.W.nsIn K mainGlobals "range" = some none)
    (z2 : PySem.W.nsIn K mainGlobals "abs" = some none) :
    ∃ fd : FuncData, (∀ (s : Shared) (us : List Value), us.length = (["l"] : List Str).length → BindsTo s fd ⟨us, []⟩ ((["l"] : List Str).zip us)) ∧ ∀ base : Heap, K.In base → base.Ns mainGlobals mg → FnOk P w K mg base CX0 3 fa fd ["l"] (spMain K) := by
  have e := hfa.symm.trans (PySem.W.mg_of X G a7)
  cases e
  have F1 := fun_mk (st := sSigned) l1 c1 k1
  have b1 := F1.binds (ps := ["word"]) fun _ _ _ _ _ _ us hl => match us, hl with | [_], _ => rfl
  have g1 := PySem.W.mg_of X G a1
  have F2 := fun_mk (st := sThings) l2 c2 k2
  have b2 := F2.binds (ps := ["l"]) fun _ _ _ _ _ _ us hl => match us, hl with | [_], _ => rfl
  have g2 := PySem.W.mg_of X G a2
  have F3 := fun_mk (st := sWbad) l3 c3 k3
  have b3 := F3.binds (ps := ["a", "b", "c"]) fun _ _ _ _ _ _ us hl => match us, hl with | [_, _, _], _ => rfl
  have g3 := PySem.W.mg_of X G a3
  have F4 := fun_mk (st := sRoot) l4 c4 k4
  have b4 := F4.binds (ps := ["n"]) fun _ _ _ _ _ _ us hl => match us, hl with | [_], _ => rfl
  have g4 := PySem.W.mg_of X G a4
  have F5 := fun_mk (st := sWay) l5 c5 k5
  have b5 := F5.binds (ps := ["a", "b", "c"]) fun _ _ _ _ _ _ us hl => match us, hl with | [_, _, _], _ => rfl
  have g5 := PySem.W.mg_of X G a5
  have F6 := fun_mk (st := sShape) l6 c6 k6
  have b6 := F6.binds (ps := ["a", "b", "c"]) fun _ _ _ _ _ _ us hl => match us, hl with | [_, _, _], _ => rfl
  have g6 := PySem.W.mg_of X G a6
  have F7 := fun_mk (st := sMain) l7 c7 k7
  have gv_MOST_THINGS := PySem.W.mg_of X G v0
  have gv_MOST_WIDTH := PySem.W.mg_of X G v1
  have gv_ACROSS := PySem.W.mg_of X G v2
  have gv_RIGHT_BELOW := PySem.W.mg_of X G v3
  have gv_DOWN := PySem.W.mg_of X G v4
  have gv_LEFT_BELOW := PySem.W.mg_of X G v5
  have m_len : mg "len" = none := PySem.W.mg_none_of X G z0
  have m_range : mg "range" = none := PySem.W.mg_none_of X G z1
  have m_abs : mg "abs" = none := PySem.W.mg_none_of X G z2
  refine ⟨PySem.W.fnOf "ap_shape" "ap_shape" (defArgs sMain) (defBody sMain) (defScope sMain) .none kV7 dc7 pm7 an7 cd7 ct7, fun s us hu => match us, hu with | [_], _ => .of_eq rfl, fun base _ _ => ?_⟩
  have GG : FnOk P w K mg base CX0 1 f1 _ ["word"] spSigned := ok_signed F1
  have GT : FnOk P w K mg base CX0 2 f2 _ ["l"] (spThings K) := ok_things F2 m_len m_range g1 k1 b1 GG
  have GB : FnOk P w K mg base CX0 2 f3 _ ["a", "b", "c"] spWbad := ok_wbad F3 gv_MOST_WIDTH m_abs
  have GR : FnOk P w K mg base CX0 1 f4 _ ["n"] spRoot := ok_root F4
  have GW : FnOk P w K mg base CX0 1 f5 _ ["a", "b", "c"] spWay := ok_way F5 m_abs gv_ACROSS gv_RIGHT_BELOW gv_DOWN gv_LEFT_BELOW
  have GS : FnOk P w K mg base CX0 2 f6 _ ["a", "b", "c"] spShape := ok_shape F6 g4 k4 b4 GR g5 k5 b5 GW
  exact ok_main F7 gv_MOST_THINGS m_len g2 k2 b2 GT g3 k3 b3 GB g6 k6 b6 GS
end Sl
open PySem PySem.W PyProof.Rows
set_option maxRecDepth 100000 in
set_option maxHeartbeats 0 in
theorem PySem.Challenge.cw_starlight_s06_ap_shape_holds : PySem.Challenge.rw_starlight_s06_ap_shape.Holds := by
  w_on; k_headS; (case hw => exact ⟨[.list []], by decide +kernel, by decide +kernel⟩)
  k_fillS
  refine L2.walk_specK (r := PySem.Challenge.rw_starlight_s06_ap_shape) (k := 3) (CX := L2.CX0) (ps := ["l"]) (sp := Sl.spMain) (by decide +kernel) rfl rfl ⟨rfl, by decide, by decide⟩ (fun w h Y => PySem.W.kIn_of Y) ?F ?S (fun _ _ _ _ z => z)
  case F =>
    intro w mg fa h Y KX G hmg
    refine' Sl.all_mk KX G hmg ?a1 ?l1 ?c1 ?k1 ?a2 ?l2 ?c2 ?k2 ?a3 ?l3 ?c3 ?k3 ?a4 ?l4 ?c4 ?k4 ?a5 ?l5 ?c5 ?k5 ?a6 ?l6 ?c6 ?k6 ?a7 ?l7 ?c7 ?k7 ?v0 ?v1 ?v2 ?v3 ?v4 ?v5 ?z0 ?z1 ?z2
    (case a1 => k_is)
    (case l1 => k_is)
    (case c1 => k_is)
    (case k1 => k_is)
    (case a2 => k_is)
    (case l2 => k_is)
    (case c2 => k_is)
    (case k2 => k_is)
    (case a3 => k_is)
    (case l3 => k_is)
    (case c3 => k_is)
    (case k3 => k_is)
    (case a4 => k_is)
    (case l4 => k_is)
    (case c4 => k_is)
    (case k4 => k_is)
    (case a5 => k_is)
    (case l5 => k_is)
    (case c5 => k_is)
    (case k5 => k_is)
    (case a6 => k_is)
    (case l6 => k_is)
    (case c6 => k_is)
    (case k6 => k_is)
    (case a7 => k_is)
    (case l7 => k_is)
    (case c7 => k_is)
    (case k7 => k_is)
    (case v0 => k_is)
    (case v1 => k_is)
    (case v2 => k_is)
    (case v3 => k_is)
    (case v4 => k_is)
    (case v5 => k_is)
    (case z0 => k_is)
    (case z1 => k_is)
    (case z2 => k_is)
  case S =>
    intro K H xs a hO hwi hask hx
    obtain ⟨l, u⟩ := a
    cases hx with
    | cons x1 hx =>
    cases hx
    cases x1 with
    | lst s4 y4 =>
    have e4 := L2.ints_dw l _ y4
    subst e4
    have q : ((Codec.inLen 0 3090 l && l.all (Codec.inInt 0 4294967295)) && true) = true := hwi
    simp only [Bool.and_eq_true, List.all_eq_true] at q
    exact ⟨_, l, rfl, s4, fun z hz => (Codec.inInt_iff.mp (q.1.2 z hz)).1, hask, fun H' p hp => .lst (L2.SqL.of hp) (L2.dw_ints _)⟩
#print axioms PySem.Challenge.cw_starlight_s06_ap_shape_holds
