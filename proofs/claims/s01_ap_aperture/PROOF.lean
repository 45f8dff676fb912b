import PyProof.Rows.All
import Wide.All
import OpenK.AllK
import Wide.FinOn
import Open.SpecLaws
import KE.OsHead
import KE.OsGo
import HandS.ForSpec
import HandS.Comp
import HandS.Iter
import HandS.Walk
import HandS.SortInts
import PySem.Challenge.RW_starlight_s01_ap_aperture
set_option Elab.async false
set_option linter.all false
set_option maxRecDepth 100000
set_option maxHeartbeats 4000000
namespace Ap
/-! ### sums over a list and over a range -/
theorem sum_snoc (l : List Int) (z : Int) : (l ++ [z]).sum = l.sum + z := by
  rw [List.sum_append]
  simp
theorem msum_take {α : Type} {g : α → Int} {l : List α} {i : Nat} {z : α} (h : l[i]? = some z) : ((l.take (i + 1)).map g).sum = ((l.take i).map g).sum + g z := by
  rw [List.take_add_one, h, List.map_append]
  exact sum_snoc _ _
def sumTo (n : Nat) (g : Nat → Int) : Int := ((List.range n).map g).sum
theorem sumTo_zero (g : Nat → Int) : sumTo 0 g = 0 := rfl
theorem sumTo_succ (n : Nat) (g : Nat → Int) : sumTo (n + 1) g = sumTo n g + g n := by
  unfold sumTo
  rw [List.range_succ, List.map_append]
  exact sum_snoc _ _
theorem sumTo_congr {n : Nat} {g g' : Nat → Int} (h : ∀ i, i < n → g i = g' i) : sumTo n g = sumTo n g' := by
  unfold sumTo
  congr 1
  exact List.map_congr_left fun i hi => h i (List.mem_range.mp hi)
theorem cast_sum : ∀ (l : List Nat), ((l.sum : Nat) : Int) = (l.map fun (n : Nat) => (n : Int)).sum
  | [] => rfl
  | a :: r => by
    rw [List.sum_cons, List.map_cons, List.sum_cons, ← cast_sum r]
    omega
theorem flat_sum {α β : Type} (k : α → List β) (g : β → Int) : ∀ l : List α, ((l.flatMap k).map g).sum = (l.map fun a => ((k a).map g).sum).sum
  | [] => rfl
  | a :: r => by
    rw [List.flatMap_cons, List.map_append, List.sum_append, List.map_cons, List.sum_cons, flat_sum k g r]
theorem sq (a : Int) : a ^ 2 = a * a := by
  rw [Int.pow_succ, Int.pow_succ, Int.pow_zero, Int.one_mul]
theorem filt_len {α : Type} (p : α → Bool) : ∀ l : List α, (((l.filter p).length : Nat) : Int) = (l.map fun a => if p a = true then (1 : Int) else 0).sum
  | [] => rfl
  | a :: r => by
    have ih := filt_len p r
    rw [List.filter_cons, List.map_cons, List.sum_cons, ← ih]
    by_cases h : p a = true
    · rw [if_pos h, if_pos h, List.length_cons]
      omega
    · rw [if_neg h, if_neg h]
      omega
/-! ### a place's points -/
def steps : List Int := [8, 24, 40, 56]
def gaps (k z : Int) : List Int := steps.map fun s => (64 * k + s - z) ^ 2
def cnt1 (across : List Int) (dy most : Int) : Int := (across.map fun dx => if dx + dy ≤ most then (1 : Int) else 0).sum
def cnt2 (across down : List Int) (most : Int) : Int := (down.map fun dy => cnt1 across dy most).sum
theorem part_is (x y r : Int) (c q : Nat) : ((Sh67.part x y r c q : Nat) : Int) = cnt2 (gaps c x) (gaps q y) (r * r) := by
  unfold Sh67.part Sh67.points
  rw [filt_len, flat_sum]
  have e : ∀ b a : Nat, (if decide ((((64 * c + a : Nat) : Int) - x) * (((64 * c + a : Nat) : Int) - x) + (((64 * q + b : Nat) : Int) - y) * (((64 * q + b : Nat) : Int) - y) ≤ r * r) = true then (1 : Int) else 0) =
      (if (64 * (c : Int) + (a : Int) - x) ^ 2 + (64 * (q : Int) + (b : Int) - y) ^ 2 ≤ r * r then (1 : Int) else 0) := fun b a => by
    rw [sq, sq, Int.natCast_add, Int.natCast_mul, Int.natCast_add, Int.natCast_mul]
    simp only [decide_eq_true_eq]
    rfl
  simp only [List.map_map]
  unfold cnt2 gaps steps
  simp only [List.map_cons, List.map_nil, List.map_map, cnt1, Function.comp_def, e]
  rfl
theorem cnt1_le (dy most : Int) : ∀ l : List Int, 0 ≤ cnt1 l dy most ∧ cnt1 l dy most ≤ l.length
  | [] => ⟨Int.le_refl _, Int.le_refl _⟩
  | a :: r => by
    have ih := cnt1_le dy most r
    unfold cnt1 at ih ⊢
    rw [List.map_cons, List.sum_cons, List.length_cons]
    split <;> omega
theorem cnt2_le (across : List Int) (most : Int) (ha : across.length = 4) : ∀ l : List Int, 0 ≤ cnt2 across l most ∧ cnt2 across l most ≤ 4 * l.length
  | [] => ⟨Int.le_refl _, Int.le_refl _⟩
  | a :: r => by
    have ih := cnt2_le across most ha r
    have h1 := cnt1_le a most across
    unfold cnt2 at ih ⊢
    rw [List.map_cons, List.sum_cons, List.length_cons]
    omega
theorem gaps_len (k z : Int) : (gaps k z).length = 4 := rfl
/-! ### an aperture -/
def apN (w h : Nat) (f : List Int) (x y r : Int) : Int := sumTo h fun q => sumTo w fun c => f.getD (q * w + c) 0 * cnt2 (gaps c x) (gaps q y) (r * r)
def apP (w h : Nat) (x y r : Int) : Int := sumTo h fun q => sumTo w fun c => cnt2 (gaps c x) (gaps q y) (r * r)
theorem each_sum {α : Type} (w h : Nat) (k : Nat → Nat → α) (g : α → Int) : ((Sh67.each w h k).map g).sum = sumTo h fun q => sumTo w fun c => g (k c q) := by
  unfold Sh67.each sumTo
  rw [flat_sum]
  simp only [List.map_map, Function.comp_def]
theorem nats_getD (f : List Int) (i : Nat) (hf : ∀ z ∈ f, 0 ≤ z) : (((Sh67Neutral.nats f).toArray.getD i 0 : Nat) : Int) = f.getD i 0 := by
  unfold Sh67Neutral.nats
  rw [Array.getD_eq_getD_getElem?, List.getElem?_toArray, List.getElem?_map, List.getD_eq_getElem?_getD]
  cases e : f[i]? with
  | none => rfl
  | some z =>
    have := hf z (List.mem_of_getElem? e)
    show ((z.toNat : Nat) : Int) = z
    omega
theorem ap1_is (w h : Nat) (f : List Int) (x y r : Int) (hf : ∀ z ∈ f, 0 ≤ z) : (((Sh67.aperture w h (Sh67Neutral.nats f) x y r).1 : Nat) : Int) = apN w h f x y r := by
  show (((List.map (fun (p : Nat × Nat) => p.1 * p.2) (Sh67.each w h fun c q => (Sh67.part x y r c q, (Sh67Neutral.nats f).toArray.getD (q * w + c) 0))).sum : Nat) : Int) = _
  rw [cast_sum, List.map_map, each_sum]
  unfold apN
  refine sumTo_congr fun q _ => sumTo_congr fun c _ => ?_
  show ((Sh67.part x y r c q * (Sh67Neutral.nats f).toArray.getD (q * w + c) 0 : Nat) : Int) = _
  rw [Int.natCast_mul, part_is, nats_getD f _ hf, Int.mul_comm]
theorem ap2_is (w h : Nat) (f : List Int) (x y r : Int) : (((Sh67.aperture w h (Sh67Neutral.nats f) x y r).2 : Nat) : Int) = apP w h x y r := by
  show (((List.map (fun (p : Nat × Nat) => p.1) (Sh67.each w h fun c q => (Sh67.part x y r c q, (Sh67Neutral.nats f).toArray.getD (q * w + c) 0))).sum : Nat) : Int) = _
  rw [cast_sum, List.map_map, each_sum]
  unfold apP
  refine sumTo_congr fun q _ => sumTo_congr fun c _ => ?_
  exact part_is x y r c q
/-! ### places -/
def placeX (xy : List Int) (j : Nat) : Int := xy.getD (2 * j) 0
def placeY (xy : List Int) (j : Nat) : Int := xy.getD (2 * j + 1) 0
theorem num_nats (xy : List Int) (i : Nat) (h : ∀ z ∈ xy, 0 ≤ z) : ((Sh67.num (Sh67Neutral.nats xy) i : Nat) : Int) = xy.getD i 0 := by
  unfold Sh67.num Sh67Neutral.nats
  rw [List.getD_eq_getElem?_getD, List.getElem?_map, List.getD_eq_getElem?_getD]
  cases e : xy[i]? with
  | none => rfl
  | some z =>
    have := h z (List.mem_of_getElem? e)
    show ((z.toNat : Nat) : Int) = z
    omega
theorem pairs_is (xy : List Int) (h : ∀ z ∈ xy, 0 ≤ z) : Sh67.pairsOf (Sh67Neutral.nats xy) = (List.range (xy.length / 2)).map fun j => (placeX xy j, placeY xy j) := by
  unfold Sh67.pairsOf
  have e : (Sh67Neutral.nats xy).length = xy.length := by
    unfold Sh67Neutral.nats
    rw [List.length_map]
  rw [e]
  refine List.map_congr_left fun j _ => ?_
  rw [num_nats xy _ h, num_nats xy _ h]
  rfl
/-- what is answered place by place, up to the n-th -/
def flatTo (n : Nat) (g : Nat → List Int) : List Int := (List.range n).flatMap g
theorem flatTo_zero (g : Nat → List Int) : flatTo 0 g = [] := rfl
theorem flatTo_succ (n : Nat) (g : Nat → List Int) : flatTo (n + 1) g = flatTo n g ++ g n := by
  unfold flatTo
  rw [List.range_succ, List.flatMap_append]
  simp
theorem ints_flat {α : Type} (k : α → List Nat) : ∀ l : List α, Sh67Neutral.ints (l.flatMap k) = l.flatMap fun a => Sh67Neutral.ints (k a)
  | [] => rfl
  | a :: r => by
    have ih := ints_flat k r
    unfold Sh67Neutral.ints at ih ⊢
    rw [List.flatMap_cons, List.map_append, ih, List.flatMap_cons]
theorem flat_map {α β γ : Type} (k : β → List γ) (m : α → β) : ∀ l : List α, (l.map m).flatMap k = l.flatMap fun a => k (m a)
  | [] => rfl
  | a :: r => by
    rw [List.map_cons, List.flatMap_cons, List.flatMap_cons, flat_map k m r]
end Ap
namespace Ap
/-! ### a ring -/
def mgap (k z : Int) : Int := (64 * k + 32 - z) ^ 2
/-- the number of the place in column c of row q, if it is in the ring -/
def cell (w : Nat) (f : List Int) (x y a b : Int) (q c : Nat) : List Int :=
  if a * a < mgap c x + mgap q y ∧ mgap c x + mgap q y ≤ b * b then [f.getD (q * w + c) 0] else []
def row (w : Nat) (f : List Int) (x y a b : Int) (q : Nat) (n : Nat) : List Int := flatTo n (cell w f x y a b q)
def ringL (w h : Nat) (f : List Int) (x y a b : Int) : List Int := flatTo h fun q => row w f x y a b q w
theorem fm_flat {α β : Type} (k : α → Option β) : ∀ l : List α, l.filterMap k = l.flatMap fun a => (k a).toList
  | [] => rfl
  | a :: r => by
    rw [List.flatMap_cons, ← fm_flat k r, List.filterMap_cons]
    cases k a <;> rfl
theorem range_rows (w : Nat) {β : Type} (k : Nat → List β) : ∀ h : Nat, (List.range (w * h)).flatMap k = (List.range h).flatMap fun q => (List.range w).flatMap fun c => k (w * q + c)
  | 0 => rfl
  | h + 1 => by
    rw [Nat.mul_succ, List.range_add, List.flatMap_append, range_rows w k h, List.range_succ, List.flatMap_append, flat_map]
    simp
theorem flat_congr {α β : Type} {k m : α → List β} {l : List α} (h : ∀ a ∈ l, k a = m a) : l.flatMap k = l.flatMap m := by
  rw [List.flatMap_def, List.flatMap_def, List.map_congr_left h]
theorem ring_is (w h : Nat) (f : List Int) (x y a b : Int) (hf : ∀ z ∈ f, 0 ≤ z) : Sh67Neutral.ints (Sh67.ring w h (Sh67Neutral.nats f) x y a b) = ringL w h f x y a b := by
  unfold Sh67.ring
  rw [fm_flat, ints_flat, range_rows]
  unfold ringL row flatTo
  refine flat_congr fun q _ => flat_congr fun c hc => ?_
  have hc : c < w := List.mem_range.mp hc
  have e1 : (w * q + c) % w = c := by rw [Nat.mul_add_mod]; exact Nat.mod_eq_of_lt hc
  have e2 : (w * q + c) / w = q := by rw [Nat.mul_add_div (by omega)]; rw [Nat.div_eq_of_lt hc]; rfl
  have e3 : w * q + c = q * w + c := by rw [Nat.mul_comm]
  simp only [e1, e2]
  unfold cell mgap
  rw [sq, sq]
  have g := nats_getD f (w * q + c) hf
  rw [e3] at g ⊢
  have ex : ((64 * c + 32 : Nat) : Int) = 64 * (c : Int) + 32 := by omega
  have ey : ((64 * q + 32 : Nat) : Int) = 64 * (q : Int) + 32 := by omega
  rw [ex, ey]
  by_cases hh : a * a < (64 * (c : Int) + 32 - x) * (64 * (c : Int) + 32 - x) + (64 * (q : Int) + 32 - y) * (64 * (q : Int) + 32 - y) ∧ (64 * (c : Int) + 32 - x) * (64 * (c : Int) + 32 - x) + (64 * (q : Int) + 32 - y) * (64 * (q : Int) + 32 - y) ≤ b * b
  · rw [if_pos hh, if_pos hh]
    show [(((Sh67Neutral.nats f).toArray.getD (q * w + c) 0 : Nat) : Int)] = _
    rw [g]
  · rw [if_neg hh, if_neg hh]
    rfl
theorem ring_len (w h : Nat) (f : List Int) (x y a b : Int) (hf : ∀ z ∈ f, 0 ≤ z) : (((Sh67.ring w h (Sh67Neutral.nats f) x y a b).length : Nat) : Int) = ((ringL w h f x y a b).length : Nat) := by
  rw [← ring_is w h f x y a b hf]
  unfold Sh67Neutral.ints
  rw [List.length_map]
/-! ### the middle one -/
def midOne (l s : List Int) : Int := if l = [] then 0 else s.getD ((l.length - 1) / 2) 0
theorem median_is (l : List Nat) (s : List Int) (hp : s.Perm (Sh67Neutral.ints l)) (hs : s.Pairwise (· ≤ ·)) : ((Sh67.median l : Nat) : Int) = s.getD (((Sh67Neutral.ints l).length - 1) / 2) 0 := by
  have h1 : (Sh67Neutral.ints (l.mergeSort fun a b => decide (a ≤ b))).Perm (Sh67Neutral.ints l) := by
    unfold Sh67Neutral.ints
    exact (List.mergeSort_perm l _).map _
  have h2 : (l.mergeSort fun a b => decide (a ≤ b)).Pairwise (fun a b => decide (a ≤ b) = true) :=
    List.pairwise_mergeSort (fun a b c x y => by simp at x y ⊢; omega) (fun a b => by simp; omega) l
  have h3 : (Sh67Neutral.ints (l.mergeSort fun a b => decide (a ≤ b))).Pairwise (· ≤ ·) := by
    unfold Sh67Neutral.ints
    rw [List.pairwise_map]
    refine h2.imp fun {a b} e => ?_
    have e := of_decide_eq_true e
    omega
  have e : s = Sh67Neutral.ints (l.mergeSort fun a b => decide (a ≤ b)) := List.Perm.eq_of_pairwise (fun a b _ _ x y => Int.le_antisymm x y) hs h3 (hp.trans h1.symm)
  rw [e]
  unfold Sh67.median Sh67.num Sh67Neutral.ints
  rw [List.length_map, List.getD_eq_getElem?_getD, List.getD_eq_getElem?_getD, List.getElem?_map]
  cases (l.mergeSort fun a b => decide (a ≤ b))[(l.length - 1) / 2]? <;> rfl
/-- the middle one of whole numbers, told by the specification's own -/
def med (l : List Int) : Int := ((Sh67.median (Sh67Neutral.nats l) : Nat) : Int)
theorem ints_nats (l : List Int) (h : ∀ z ∈ l, 0 ≤ z) : Sh67Neutral.ints (Sh67Neutral.nats l) = l := by
  unfold Sh67Neutral.ints Sh67Neutral.nats
  rw [List.map_map]
  refine (List.map_congr_left fun z hz => ?_).trans (List.map_id l)
  have := h z hz
  show ((z.toNat : Nat) : Int) = z
  omega
theorem nats_ints (l : List Nat) : Sh67Neutral.nats (Sh67Neutral.ints l) = l := by
  unfold Sh67Neutral.ints Sh67Neutral.nats
  rw [List.map_map]
  exact (List.map_congr_left fun z _ => rfl).trans (List.map_id l)
theorem med_sorted {l s : List Int} (h : ∀ z ∈ l, 0 ≤ z) (hp : s.Perm l) (hs : s.Pairwise (· ≤ ·)) : s.getD ((l.length - 1) / 2) 0 = med l := by
  unfold med
  have e := ints_nats l h
  rw [median_is (Sh67Neutral.nats l) s (by rw [e]; exact hp) hs, e]
theorem med_nil : med [] = 0 := by
  have e := med_sorted (l := []) (s := []) (fun z hz => by cases hz) (List.Perm.refl _) List.Pairwise.nil
  exact e.symm
theorem med_ring (w h : Nat) (f : List Int) (x y a b : Int) (hf : ∀ z ∈ f, 0 ≤ z) : ((Sh67.median (Sh67.ring w h (Sh67Neutral.nats f) x y a b) : Nat) : Int) = med (ringL w h f x y a b) := by
  unfold med
  rw [← ring_is w h f x y a b hf, nats_ints]
theorem getD_nonneg {f : List Int} (hf : ∀ z ∈ f, 0 ≤ z) (i : Nat) : 0 ≤ f.getD i 0 := by
  rw [List.getD_eq_getElem?_getD]
  cases e : f[i]? with
  | none => exact Int.le_refl _
  | some z => exact hf z (List.mem_of_getElem? e)
theorem ring_nonneg (w h : Nat) (f : List Int) (x y a b : Int) (hf : ∀ z ∈ f, 0 ≤ z) : ∀ z ∈ ringL w h f x y a b, 0 ≤ z := by
  intro z hz
  unfold ringL row flatTo at hz
  rw [List.mem_flatMap] at hz
  obtain ⟨q, _, hz⟩ := hz
  rw [List.mem_flatMap] at hz
  obtain ⟨c, _, hz⟩ := hz
  unfold cell at hz
  split at hz
  · rw [List.mem_singleton] at hz
    rw [hz]
    exact getD_nonneg hf _
  · cases hz
theorem flatTo_len_le {g : Nat → List Int} {k : Nat} (h : ∀ i, (g i).length ≤ k) : ∀ n, (flatTo n g).length ≤ n * k
  | 0 => by rw [flatTo_zero]; exact Nat.zero_le _
  | n + 1 => by
    have ih := flatTo_len_le h n
    have := h n
    rw [flatTo_succ, List.length_append, Nat.add_mul, Nat.one_mul]
    omega
theorem cell_len (w : Nat) (f : List Int) (x y a b : Int) (q c : Nat) : (cell w f x y a b q c).length ≤ 1 := by
  unfold cell
  split
  · exact Nat.le_refl _
  · exact Nat.zero_le _
theorem row_len (w : Nat) (f : List Int) (x y a b : Int) (q n : Nat) : (row w f x y a b q n).length ≤ n := by
  have := flatTo_len_le (cell_len w f x y a b q) n
  rw [Nat.mul_one] at this
  exact this
theorem rows_len (w : Nat) (f : List Int) (x y a b : Int) (n : Nat) : (flatTo n fun q => row w f x y a b q w).length ≤ n * w := flatTo_len_le (fun q => row_len w f x y a b q w) n
end Ap
namespace Ap
open Sh67Neutral
/-! ### what is asked, and what is due -/
theorem nats_len (l : List Int) : (nats l).length = l.length := by
  unfold nats
  rw [List.length_map]
theorem even_of {c : Prop} [Decidable c] {l0 l1 : List Int} {n : Nat} (h : (if c then l0.length == n && l1.length == (2 * ((nats l1).length / 2)) else (l0.isEmpty && l1.isEmpty) || (l0.length == n && l1.length == (2 * ((nats l1).length / 2)))) = true) :
    l1.length = 2 * (l1.length / 2) ∧ (c → l0.length = n) := by
  rw [nats_len] at h
  by_cases hc : c
  · rw [if_pos hc, Bool.and_eq_true, beq_iff_eq, beq_iff_eq] at h
    exact ⟨h.2, fun _ => h.1⟩
  · rw [if_neg hc, Bool.or_eq_true, Bool.and_eq_true, Bool.and_eq_true, beq_iff_eq, beq_iff_eq] at h
    refine ⟨?_, fun e => absurd e hc⟩
    rcases h with h | h
    · have := List.isEmpty_iff.mp h.2
      rw [this]
      rfl
    · exact h.2
theorem sized_iff (w h : Nat) : Sh67.sized w h = true ↔ (1 ≤ w ∧ w ≤ 64) ∧ (1 ≤ h ∧ h ≤ 64) := by
  unfold Sh67.sized Sh67.among
  simp
theorem some_iff (n : Nat) : Sh67.some_ n = true ↔ n ≤ 64 := by
  unfold Sh67.some_
  simp
theorem asked_of {c : Call} (h : asked c = true) : asked1 c = true := by
  unfold asked at h
  rw [Bool.and_eq_true] at h
  exact h.1
/-- the frame and the places are in their ranges -/
def FrameOk (w h : Int) (xy : List Int) : Prop := 1 ≤ w ∧ w ≤ 64 ∧ 1 ≤ h ∧ h ≤ 64 ∧ xy.length ≤ 128
/-! ### ap_aperture -/
theorem aperture_asked {r w h : Int} {f xy : List Int} (q : PySh67.ap_aperture_asked r w h f xy = true) (hr : 0 ≤ r) :
    xy.length = 2 * (xy.length / 2) ∧ (r ≤ 4096 → FrameOk w h xy → f.length = w.toNat * h.toNat) := by
  have q := asked_of q
  unfold asked1 at q
  simp only [Bool.and_eq_true] at q
  have e := even_of q.2.2.2.2.2
  refine ⟨e.1, fun h1 h2 => e.2 ?_⟩
  obtain ⟨a1, a2, a3, a4, a5⟩ := h2
  rw [sized_iff, some_iff, decide_eq_true_eq, nats_len]
  omega
theorem aperture_eq (r w h : Int) (f xy : List Int) : PySh67.ap_aperture r w h f xy = told (Sh67.answer (if (Sh67.sized w.toNat h.toNat && Sh67.some_ ((nats xy).length / 2) && decide (r.toNat ≤ 4096)) = true then .aperture r.toNat w.toNat h.toNat (nats f) (nats xy) else .bad)) := rfl
theorem aperture_bad {r w h : Int} {f xy : List Int} (q : PySh67.ap_aperture_asked r w h f xy = true) (hr : 0 ≤ r) (b : ¬ (r ≤ 4096 ∧ FrameOk w h xy)) : PySh67.ap_aperture r w h f xy = [-2] := by
  have e := (aperture_asked q hr).1
  rw [aperture_eq, if_neg]
  · rfl
  · rw [Bool.and_eq_true, Bool.and_eq_true, sized_iff, some_iff, decide_eq_true_eq, nats_len]
    intro z
    refine b ⟨by omega, by omega, by omega, by omega, by omega, by omega⟩
def apAt (w h : Int) (f : List Int) (r : Int) (xy : List Int) (j : Nat) : List Int := [apN w.toNat h.toNat f (placeX xy j) (placeY xy j) r, apP w.toNat h.toNat (placeX xy j) (placeY xy j) r]
theorem aperture_good {r w h : Int} {f xy : List Int} (hr : 0 ≤ r) (hf : ∀ z ∈ f, 0 ≤ z) (hx : ∀ z ∈ xy, 0 ≤ z) (g : r ≤ 4096 ∧ FrameOk w h xy) :
    PySh67.ap_aperture r w h f xy = 0 :: flatTo (xy.length / 2) (apAt w h f r xy) := by
  obtain ⟨h1, a1, a2, a3, a4, a5⟩ := g
  rw [aperture_eq, if_pos]
  · show (0 : Int) :: Sh67Neutral.ints ((Sh67.pairsOf (nats xy)).flatMap fun p => [(Sh67.aperture w.toNat h.toNat (nats f) p.1 p.2 (r.toNat : Nat)).1, (Sh67.aperture w.toNat h.toNat (nats f) p.1 p.2 (r.toNat : Nat)).2]) = _
    have er : ((r.toNat : Nat) : Int) = r := by omega
    rw [er, ints_flat, pairs_is xy hx, flat_map]
    unfold flatTo
    refine congrArg _ (flat_congr fun j _ => ?_)
    show [_, _] = apAt w h f r xy j
    unfold apAt
    dsimp only
    rw [ap1_is _ _ f _ _ _ hf, ap2_is]
  · rw [Bool.and_eq_true, Bool.and_eq_true, sized_iff, some_iff, decide_eq_true_eq, nats_len]
    omega
/-! ### ap_ring -/
theorem ring_asked {a b w h : Int} {f xy : List Int} (q : PySh67.ap_ring_asked a b w h f xy = true) (ha : 0 ≤ a) (hb : 0 ≤ b) :
    xy.length = 2 * (xy.length / 2) ∧ (a ≤ 4096 → b ≤ 4096 → FrameOk w h xy → f.length = w.toNat * h.toNat) := by
  have q := asked_of q
  unfold asked1 at q
  simp only [Bool.and_eq_true] at q
  have e := even_of q.2.2.2.2.2.2
  refine ⟨e.1, fun h1 h1' h2 => e.2 ?_⟩
  obtain ⟨a1, a2, a3, a4, a5⟩ := h2
  rw [sized_iff, some_iff, decide_eq_true_eq, decide_eq_true_eq, nats_len]
  omega
theorem ring_eq (a b w h : Int) (f xy : List Int) : PySh67.ap_ring a b w h f xy = told (Sh67.answer (if (Sh67.sized w.toNat h.toNat && Sh67.some_ ((nats xy).length / 2) && (decide (a.toNat ≤ 4096) && decide (b.toNat ≤ 4096))) = true then .ring a.toNat b.toNat w.toNat h.toNat (nats f) (nats xy) else .bad)) := rfl
theorem ring_bad {a b w h : Int} {f xy : List Int} (q : PySh67.ap_ring_asked a b w h f xy = true) (ha : 0 ≤ a) (hb : 0 ≤ b) (n : ¬ (a ≤ 4096 ∧ b ≤ 4096 ∧ FrameOk w h xy)) : PySh67.ap_ring a b w h f xy = [-2] := by
  have e := (ring_asked q ha hb).1
  rw [ring_eq, if_neg]
  · rfl
  · rw [Bool.and_eq_true, Bool.and_eq_true, Bool.and_eq_true, sized_iff, some_iff, decide_eq_true_eq, decide_eq_true_eq, nats_len]
    intro z
    refine n ⟨by omega, by omega, by omega, by omega, by omega, by omega, by omega⟩
def ringAt (w h : Int) (f : List Int) (a b : Int) (xy : List Int) (j : Nat) : List Int :=
  [((ringL w.toNat h.toNat f (placeX xy j) (placeY xy j) a b).length : Nat), med (ringL w.toNat h.toNat f (placeX xy j) (placeY xy j) a b)]
theorem ring_good {a b w h : Int} {f xy : List Int} (ha : 0 ≤ a) (hb : 0 ≤ b) (hf : ∀ z ∈ f, 0 ≤ z) (hx : ∀ z ∈ xy, 0 ≤ z) (g : a ≤ 4096 ∧ b ≤ 4096 ∧ FrameOk w h xy) :
    PySh67.ap_ring a b w h f xy = 0 :: flatTo (xy.length / 2) (ringAt w h f a b xy) := by
  obtain ⟨h1, h2, a1, a2, a3, a4, a5⟩ := g
  rw [ring_eq, if_pos]
  · show (0 : Int) :: Sh67Neutral.ints ((Sh67.pairsOf (nats xy)).flatMap fun p => [(Sh67.ring w.toNat h.toNat (nats f) p.1 p.2 (a.toNat : Nat) (b.toNat : Nat)).length, Sh67.median (Sh67.ring w.toNat h.toNat (nats f) p.1 p.2 (a.toNat : Nat) (b.toNat : Nat))]) = _
    have ea : ((a.toNat : Nat) : Int) = a := by omega
    have eb : ((b.toNat : Nat) : Int) = b := by omega
    rw [ea, eb, ints_flat, pairs_is xy hx, flat_map]
    unfold flatTo
    refine congrArg _ (flat_congr fun j _ => ?_)
    show [_, _] = ringAt w h f a b xy j
    unfold ringAt
    dsimp only
    rw [ring_len _ _ f _ _ _ _ hf, med_ring _ _ f _ _ _ _ hf]
  · rw [Bool.and_eq_true, Bool.and_eq_true, Bool.and_eq_true, sized_iff, some_iff, decide_eq_true_eq, decide_eq_true_eq, nats_len]
    omega
end Ap
namespace Sl
open PySem PySem.Spec PyProof.Rows L2
open PySem.W (Codec)
/-! ### the text by places -/
def top (i : Nat) : Stmt := PySem.Challenge.pw_starlight_s01_ap_aperture.main.body.getD i (.Pass ⟨0, 0, 0, 0⟩)
abbrev sFrame : Stmt := top 6
abbrev sMany : Stmt := top 7
abbrev sPlaces : Stmt := top 8
/-! ### heaps -/
theorem same_new {H : Hp} {p : Addr} {o : HO} (h : H p = none) : Same H (upd H p o) := fun b x e => by
  rw [upd_ne (ne_of_none e h)]
  exact e
theorem get_map {α : Type} {m : α → V} {l : List α} {i : Nat} {z : α} (h : l[i]? = some z) : (l.map m)[i]? = some (m z) := by
  rw [List.getElem?_map, h]
  rfl
theorem get_D {l : List Int} {i : Nat} (h : i < l.length) : l[i]? = some (l.getD i 0) := by
  rw [List.getD_eq_getElem?_getD, List.getElem?_eq_getElem h]
  rfl
theorem at_D {l : List Int} {i : Nat} {z : Int} (e : z = (i : Int)) (h : i < l.length) : atI (l.map V.int) z = some (V.int (l.getD i 0)) := at_of e (get_map (get_D h))
theorem tyes {σ : L2.St} {H : Hp} {A B : Hp → Prop} (h : A H) : tYes σ H (fun b H3 => if b = true then A H3 else B H3) := h
section
variable {P : Program} {w : World} {K : PySem.W.Frag} {mg : Str → Option Value} {base : Heap}
/-! ### frame_is_bad -/
theorem scFrame : FnScope ["w", "h"] ["w", "h"] (defScope sFrame) := ⟨rfl, rfl, rfl, by decide +kernel, rfl, by decide +kernel, by decide +kernel⟩
def spFrame : Sp := fun vs H Q _ => ∃ x y : Int, vs = [.int x, .int y] ∧ ∀ b : Bool, (b = true ↔ ¬ (1 ≤ x ∧ x ≤ 64 ∧ 1 ≤ y ∧ y ≤ 64)) → Q (.bl b) H
theorem ok_frame {f : Addr} {fd : FuncData} {k : Nat} {t : Nat} (F : Fun K "frame_is_bad" "frame_is_bad" sFrame f fd) (gM : mg "MOST_SIDE" = some (.int 64 t)) : FnOk P w K mg base CX0 (k + 1) f fd ["w", "h"] spFrame := by
  refine F.ok scFrame (fun vs H Q E h => ?_) (fun cdv A outer s H vs Q E hr h => ?_)
  · obtain ⟨x, y, rfl, _⟩ := h
    rfl
  · obtain ⟨x, y, rfl, q⟩ := h
    refine ⟨_, pss_one (ps_ret (pe_or (pe_cmpR op_lt (pv 0) pe_int (nomark _)) (pe_or (pe_cmpR op_gt (pv 0) (pe_glob (v := .int 64) rfl gM ⟨_, rfl⟩) (nomark _))
      (pe_or (pe_cmpR op_lt (pv 1) pe_int (nomark _)) (pe_one (pe_cmpR op_gt (pv 1) (pe_glob (v := .int 64) rfl gM ⟨_, rfl⟩) (nomark _))))))), ?_⟩
    refine ⟨_, rfl, x, 1, rfl, rfl, _, rfl, ite2 (fun e => q _ ?_) (fun e => ?_)⟩
    · have := of_decide_eq_true e
      simp
      omega
    have e1 : ¬ x < 1 := fun z => e (decide_eq_true z)
    refine ⟨_, rfl, x, 64, rfl, rfl, _, rfl, ite2 (fun e => q _ ?_) (fun e => ?_)⟩
    · have := of_decide_eq_true e
      simp
      omega
    have e2 : ¬ 64 < x := fun z => e (decide_eq_true z)
    refine ⟨_, rfl, y, 1, rfl, rfl, _, rfl, ite2 (fun e => q _ ?_) (fun e => ?_)⟩
    · have := of_decide_eq_true e
      simp
      omega
    have e3 : ¬ y < 1 := fun z => e (decide_eq_true z)
    refine ⟨_, rfl, y, 64, rfl, rfl, q _ ?_⟩
    rw [decide_eq_true_eq]
    omega
/-! ### places_are_bad -/
theorem scMany : FnScope ["xy"] ["xy"] (defScope sMany) := ⟨rfl, rfl, rfl, by decide +kernel, rfl, by decide +kernel, by decide +kernel⟩
def spMany (K : PySem.W.Frag) : Sp := fun vs H Q _ => ∃ (a : Addr) (xy : List Int), vs = [.ref a] ∧ SqL K H a (xy.map V.int) ∧ ∀ b : Bool, (b = true ↔ ¬ xy.length ≤ 128) → Q (.bl b) H
theorem ok_many {f : Addr} {fd : FuncData} {k : Nat} {t : Nat} (F : Fun K "places_are_bad" "places_are_bad" sMany f fd) (gM : mg "MOST_PLACES" = some (.int 64 t)) (mL : mg "len" = none) : FnOk P w K mg base CX0 (k + 1) f fd ["xy"] (spMany K) := by
  refine F.ok scMany (fun vs H Q E h => ?_) (fun cdv A outer s H vs Q E hr h => ?_)
  · obtain ⟨a, xy, rfl, _⟩ := h
    rfl
  · obtain ⟨a, xy, rfl, hS, q⟩ := h
    refine ⟨_, pss_one (ps_ret (pe_cmpR op_gt (pe_callB call_len_seq (by rfl) mL PySem.boot_len (pa_cons (pv 0) pa_nil)) (pe_op op_mul pe_int (pe_glob (v := .int 64) rfl gM ⟨_, rfl⟩)) (nomark _))), ?_⟩
    refine ⟨_, rfl, a, _, rfl, .inl hS, 2, 64, rfl, rfl, .inl ⟨by decide, by decide⟩, _, _, rfl, rfl, q _ ?_⟩
    rw [decide_eq_true_eq, List.length_map]
    omega
/-! ### places_of -/
theorem scPlaces : FnScope ["xy", "k"] ["xy"] (defScope sPlaces) := ⟨rfl, rfl, rfl, by decide +kernel, rfl, by decide +kernel, by decide +kernel⟩
/-- at t the j-th place stands -/
def PlaceAt (H : Hp) (xy : List Int) (j : Nat) (t : Addr) : Prop := H t = some (.tup [.int (Ap.placeX xy j), .int (Ap.placeY xy j)])
def spPlaces (K : PySem.W.Frag) : Sp := fun vs H Q _ => ∃ (a : Addr) (xy : List Int), vs = [.ref a] ∧ SqL K H a (xy.map V.int) ∧ xy.length = 2 * (xy.length / 2) ∧ xy.length ≤ 128 ∧
  ∀ (H' : Hp) (p : Addr) (ts : List Addr), Same H H' → H' p = some (.lst (ts.map V.ref)) → ts.length = xy.length / 2 → (∀ j t, ts[j]? = some t → PlaceAt H' xy j t) → Q (.ref p) H'
theorem rg_size {n : Int} (h0 : 0 ≤ n) (m : Nat) (hm : n = 2 * m) : Builtin.Range.rangeSize 0 n 2 = m := by
  unfold Builtin.Range.rangeSize
  rw [if_pos (by decide)]
  split <;> omega
theorem rg_two {n : Int} (h0 : 0 ≤ n) (h1 : n ≤ 1000) (m : Nat) (hm : n = 2 * m) : RgC 0 n 2 m := by
  refine ⟨by decide, by decide, ?_, ?_⟩
  · unfold Builtin.Range.small
    rw [rg_size h0 m hm]
    simp only [Builtin.Range.rangeFitsLong, Bool.and_eq_true, Bool.or_eq_true, decide_eq_true_eq, beq_iff_eq, show ((2 : Int) > 0) by decide, if_true]
    omega
  · exact rg_size h0 m hm
theorem ok_places {f : Addr} {fd : FuncData} {k : Nat} (F : Fun K "places_of" "places_of" sPlaces f fd) (mL : mg "len" = none) (mR : mg "range" = none) : FnOk P w K mg base CX0 (k + 1) f fd ["xy"] (spPlaces K) := by
  refine F.ok scPlaces (fun vs H Q E h => ?_) (fun cdv A outer s H vs Q E hr h => ?_)
  · obtain ⟨a, xy, rfl, _⟩ := h
    rfl
  · obtain ⟨a, xy, rfl, hS, hev, hlen, q⟩ := h
    refine ⟨_, pss_one (ps_ret (pe_lc (own := [("k", 1)]) (g := gName 1) (tt := tYes) rfl scPlaces.nd
      (pi_range3 rfl mR (pa_cons pe_int (pa_cons (pe_callB call_len_seq (by rfl) mL PySem.boot_len (pa_cons (pv 0) pa_nil)) (pa_cons pe_int pa_nil))))
      (blkOk_by (own := [("k", 1)]) (N := ["xy", "k"]) (sc := defScope sPlaces) (by decide +kernel)) (fun _ _ _ _ _ => pg_name (i := 1) scPlaces.nd rfl (Or.inl rfl)) (fun _ _ _ _ _ => pts_nil)
      (fun _ _ _ _ _ => pe_tup (pa_cons (pe_ix (r := rIxL K) ix_list (pv 0) (pv 1) (fun _ _ => rfl)) (pa_cons (pe_ix (r := rIxL K) ix_list (pv 0) (pe_op op_add (pv 1) pe_int) (fun _ _ => rfl)) pa_nil))))), ?_⟩
    refine ⟨.ref a, rfl, a, _, rfl, .inl hS, 0, _, 2, xy.length / 2, rfl, rg_two (by omega) (by rw [List.length_map]; omega) _ (by rw [List.length_map]; omega), fun D nD => ?_⟩
    refine lc_it walk_rangeC (fun i H' => ∃ ts : List Addr, ts.length = i ∧ H' D = some (.lst (ts.map V.ref)) ∧ Same H H' ∧ ∀ j t, ts[j]? = some t → PlaceAt H' xy j t)
      ⟨[], rfl, upd_same, same_new nD, fun j t h => by simp at h⟩ (fun _ _ _ _ => trivial) ?_ ?_
    · rintro i x H1 H2 hi ⟨ts, hl, hD, sm, hp⟩ ⟨rfl, rfl⟩
      refine ⟨rfl, tyes ?_⟩
      have hi2 : i < xy.length / 2 := hi
      refine ⟨.ref a, rfl, _, rfl, a, _, _, _, rfl, rfl, sm.seq hS, at_D (i := 2 * i) (by omega) (by omega), .ref a, rfl, _, rfl, _, 1, rfl, rfl, a, _, _, _, rfl, rfl, sm.seq hS, at_D (i := 2 * i + 1) (by omega) (by omega), (by show 2 ≤ sizeLine; decide), fun t nt => ?_⟩
      have nDt : D ≠ t := ne_of_none hD nt
      refine ⟨_, (by rw [upd_ne nDt]; exact hD), (by rw [List.length_map, hl]; exact small1000 (by omega)), ts ++ [t], (by rw [List.length_append, hl]; rfl), (by rw [upd_same, List.map_append]; rfl), ?_, ?_⟩
      · intro b o e
        have nb : b ≠ D := ne_of_none e nD
        rw [upd_ne nb]
        exact same_new nt b o (sm b o e)
      · intro j u hj
        unfold PlaceAt
        by_cases hjl : j < ts.length
        · rw [List.getElem?_append_left hjl] at hj
          have e1 := hp j u hj
          have n1 : u ≠ D := ne_of e1 hD (by intro z; cases z)
          rw [upd_ne n1]
          exact same_new nt _ _ e1
        · rw [List.getElem?_append_right (by omega)] at hj
          have ej : j - ts.length = 0 := by
            cases hz : j - ts.length with
            | zero => rfl
            | succ m => rw [hz] at hj; simp at hj
          rw [ej] at hj
          have eu : t = u := Option.some.inj hj
          have ei : j = i := by omega
          subst eu ei
          rw [upd_ne (fun z => nDt z.symm), upd_same]
          rfl
    · rintro H1 ⟨ts, hl, hD, sm, hp⟩
      exact q H1 D ts sm hD hl hp
end
end Sl
namespace Sl
open PySem PySem.Spec PyProof.Rows L2
theorem cell_lt {W M q c : Nat} (hq : q < M) (hc : c < W) : q * W + c < W * M := by
  have h1 : (q + 1) * W ≤ M * W := Nat.mul_le_mul_right W hq
  rw [Nat.add_mul, Nat.one_mul, Nat.mul_comm M W] at h1
  omega
theorem cell_at (W q c : Nat) : ((0 : Int) + (q : Int)) * (W : Int) + ((0 : Int) + (c : Int)) = ((q * W + c : Nat) : Int) := by
  rw [Int.zero_add, Int.zero_add, Int.natCast_add, Int.natCast_mul]
theorem ref_at {l : List Addr} {i : Nat} {v : V} (h : (l.map V.ref)[i]? = some v) : ∃ z, l[i]? = some z ∧ v = V.ref z := by
  rw [List.getElem?_map] at h
  cases e : l[i]? with
  | none => rw [e] at h; cases h
  | some z => rw [e] at h; exact ⟨z, rfl, (Option.some.inj h).symm⟩
theorem getD_in {l : List Int} {lo hi : Int} (h : ∀ z ∈ l, lo ≤ z ∧ z ≤ hi) (h0 : lo ≤ 0 ∧ 0 ≤ hi) (i : Nat) : lo ≤ l.getD i 0 ∧ l.getD i 0 ≤ hi := by
  rw [List.getD_eq_getElem?_getD]
  cases e : l[i]? with
  | none => exact h0
  | some z => exact h z (List.mem_of_getElem? e)
end Sl
namespace Sl
open PySem PySem.Spec PyProof.Rows L2
open PySem.W (Codec)
abbrev sGaps : Stmt := top 9
abbrev sWithin : Stmt := top 10
abbrev sAperture : Stmt := top 11
section
variable {P : Program} {w : World} {K : PySem.W.Frag} {mg : Str → Option Value} {base : Heap}
/-! ### point_gaps -/
theorem scGaps : FnScope ["k", "at", "step"] ["k", "at"] (defScope sGaps) := ⟨rfl, rfl, rfl, by decide +kernel, rfl, by decide +kernel, by decide +kernel⟩
def spGaps : Sp := fun vs H Q _ => ∃ x z : Int, vs = [.int x, .int z] ∧ (0 ≤ x ∧ x ≤ 64) ∧ (0 ≤ z ∧ z ≤ 65535) ∧ ∀ (H' : Hp) (p : Addr), Same H H' → H p = none → H' p = some (.lst ((Ap.gaps x z).map V.int)) → Q (.ref p) H'
theorem ok_gaps {f aP : Addr} {fd : FuncData} {k : Nat} {t : Nat} (F : Fun K "point_gaps" "point_gaps" sGaps f fd) (gS : mg "SIDE" = some (.int 64 t)) (gP : mg "POINT_STEPS" = some (.ref aP)) (hP : ∀ H : Hp, SqT K H aP (Ap.steps.map V.int)) :
    FnOk P w K mg base CX0 (k + 1) f fd ["k", "at"] spGaps := by
  refine F.ok scGaps (fun vs H Q E h => ?_) (fun cdv A outer s H vs Q E hr h => ?_)
  · obtain ⟨x, z, rfl, _⟩ := h
    rfl
  · obtain ⟨x, z, rfl, hx, hz, q⟩ := h
    refine ⟨_, pss_one (ps_ret (pe_lc (own := [("step", 2)]) (g := gName 2) (tt := tYes) rfl scGaps.nd (pi_tup (pe_glob (v := .ref aP) rfl gP rfl))
      (blkOk_by (own := [("step", 2)]) (N := ["k", "at", "step"]) (sc := defScope sGaps) (by decide +kernel)) (fun _ _ _ _ _ => pg_name (i := 2) scGaps.nd rfl (Or.inl rfl)) (fun _ _ _ _ _ => pts_nil)
      (fun _ _ _ _ _ => pe_op op_pow (pe_op op_sub (pe_op op_add (pe_op op_mul (pe_glob (v := .int 64) rfl gS ⟨_, rfl⟩) (pv 0)) (pv 2)) (pv 1)) pe_int))), ?_⟩
    refine ⟨aP, rfl, ⟨_, hP H⟩, fun D nD => ?_⟩
    refine lc_tup (K := K) (a := aP) (xs := Ap.steps.map V.int) (fun i H' => H' D = some (.lst (((Ap.gaps x z).take i).map V.int)) ∧ Same H H') ⟨upd_same, same_new nD⟩ (fun _ H' _ _ => hP H') ?_ ?_
    · rintro i v H1 hi ⟨hD, sm⟩
      obtain ⟨s0, hs0, rfl⟩ : ∃ s0, Ap.steps[i]? = some s0 ∧ v = V.int s0 := by
        rw [List.getElem?_map] at hi
        cases e : Ap.steps[i]? with
        | none => rw [e] at hi; cases hi
        | some s0 => rw [e] at hi; exact ⟨s0, rfl, (Option.some.inj hi).symm⟩
      have hs : 0 ≤ s0 ∧ s0 ≤ 56 := by
        have hm := List.mem_of_getElem? hs0
        simp [Ap.steps] at hm
        omega
      refine ⟨rfl, tyes ?_⟩
      refine ⟨.int x, rfl, 64, x, rfl, rfl, .inl ⟨by decide, by decide⟩, .int s0, rfl, _, _, rfl, rfl, .int z, rfl, _, _, rfl, rfl, _, 2, rfl, rfl, ⟨by decide, by decide, ?_⟩, ?_⟩
      · have e : (2 : Nat) ^ 64 = 18446744073709551616 := by decide
        rw [e]
        omega
      · have hl : (((Ap.gaps x z).take i).map V.int).length < sizeLine := by
          rw [List.length_map, List.length_take, Ap.gaps_len]
          exact small1000 (by omega)
        refine ⟨_, hD, hl, ?_, fun b o e => by rw [upd_ne (ne_of_none e nD)]; exact sm b o e⟩
        have hg : (Ap.gaps x z)[i]? = some ((64 * x + s0 - z) ^ 2) := by
          unfold Ap.gaps
          rw [List.getElem?_map, hs0]
          rfl
        rw [upd_same, List.take_add_one, hg, List.map_append]
        rfl
    · rintro H1 ⟨hD, sm⟩
      refine q H1 D sm nD ?_
      rw [hD]
      rfl
/-! ### points_within -/
theorem scWithin : FnScope ["across", "down", "most", "points", "dy", "dx"] ["across", "down", "most"] (defScope sWithin) := ⟨rfl, rfl, rfl, by decide +kernel, rfl, by decide +kernel, by decide +kernel⟩
def spWithin (K : PySem.W.Frag) : Sp := fun vs H Q _ => ∃ (a d : Addr) (xs ys : List Int) (m : Int), vs = [.ref a, .ref d, .int m] ∧ SqL K H a (xs.map V.int) ∧ SqL K H d (ys.map V.int) ∧ Q (.int (Ap.cnt2 xs ys m)) H
theorem int_at {l : List Int} {i : Nat} {v : V} (h : (l.map V.int)[i]? = some v) : ∃ z, l[i]? = some z ∧ v = V.int z := by
  rw [List.getElem?_map] at h
  cases e : l[i]? with
  | none => rw [e] at h; cases h
  | some z => rw [e] at h; exact ⟨z, rfl, (Option.some.inj h).symm⟩
theorem ok_within {f : Addr} {fd : FuncData} {k : Nat} (F : Fun K "points_within" "points_within" sWithin f fd) : FnOk P w K mg base CX0 (k + 1) f fd ["across", "down", "most"] (spWithin K) := by
  refine F.ok scWithin (fun vs H Q E h => ?_) (fun cdv A outer s H vs Q E hr h => ?_)
  · obtain ⟨a, d, xs, ys, m, rfl, _⟩ := h
    rfl
  · obtain ⟨a, d, xs, ys, m, rfl, hA, hB, q⟩ := h
    refine ⟨_, pss_cons (ps_set (i := 3) scWithin.nd rfl (.inl rfl) pe_int)
      (pss_cons (ps_for PassesOwn.never rfl (pi_list (pv 1)) (pg_name (i := 4) scWithin.nd rfl (.inl rfl))
        (pss_one (ps_for PassesOwn.never rfl (pi_list (pv 0)) (pg_name (i := 5) scWithin.nd rfl (.inl rfl))
          (pss_one (ps_if (pt_cmpR op_le (pe_op op_add (pv 5) (pv 4)) (pv 2) (nomark _)) (pss_one (ps_aug (i := 3) scWithin.nd rfl (.inl rfl) pe_int ip_add)) pss_nil)))))
      (pss_one (ps_ret (pv 3)))), ?_⟩
    refine ⟨_, rfl, d, rfl, ⟨_, hB⟩, for_list (K := K) (a := d) (xs := ys.map V.int) (fun i σ H' => H' = H ∧ ∃ v4 v5 : Option V, σ = [some (.ref a), some (.ref d), some (.int m), some (.int (Ap.cnt2 xs (ys.take i) m)), v4, v5])
      ⟨rfl, none, none, rfl⟩ (fun i σ H' _ h => by rw [h.1]; exact hB) ?_ ?_⟩
    · rintro i v σ H' hi ⟨rfl, v4, v5, rfl⟩
      obtain ⟨dy, hdy, rfl⟩ := int_at hi
      refine ⟨_, rfl, a, rfl, ⟨_, hA⟩, for_list (K := K) (a := a) (xs := xs.map V.int) (fun j σ H2 => H2 = H' ∧ ∃ v5 : Option V, σ = [some (.ref a), some (.ref d), some (.int m), some (.int (Ap.cnt2 xs (ys.take i) m + Ap.cnt1 (xs.take j) dy m)), some (.int dy), v5])
        ⟨rfl, v5, ?_⟩ (fun i σ H2 _ h => by rw [h.1]; exact hA) ?_ ?_⟩
      · show [_, _, _, _, _, _] = _
        rw [show Ap.cnt1 (xs.take 0) dy m = 0 from rfl, Int.add_zero]
      · rintro j v σ H2 hj ⟨rfl, v5', rfl⟩
        obtain ⟨dx, hdx, rfl⟩ := int_at hj
        have es : Ap.cnt1 (xs.take (j + 1)) dy m = Ap.cnt1 (xs.take j) dy m + (if dx + dy ≤ m then 1 else 0) := Ap.msum_take hdx
        refine ⟨_, rfl, _, rfl, _, _, rfl, rfl, _, rfl, _, _, rfl, rfl, _, rfl, ite2 (fun e => ?_) (fun e => ?_)⟩
        · have e := of_decide_eq_true e
          refine ⟨_, rfl, _, _, rfl, rfl, rfl, some (.int dx), ?_⟩
          rw [es, if_pos e, ← Int.add_assoc]
          rfl
        · have e : ¬ dx + dy ≤ m := fun z => e (decide_eq_true z)
          refine ⟨rfl, some (.int dx), ?_⟩
          rw [es, if_neg e, Int.add_zero]
          rfl
      · rintro σ H2 ⟨rfl, v5', rfl⟩
        refine ⟨rfl, some (.int dy), v5', ?_⟩
        have es : Ap.cnt2 xs (ys.take (i + 1)) m = Ap.cnt2 xs (ys.take i) m + Ap.cnt1 xs dy m := Ap.msum_take hdy
        rw [es, List.length_map, List.take_length]
    · rintro σ H' ⟨rfl, v4, v5, rfl⟩
      rw [List.length_map, List.take_length]
      exact ⟨_, rfl, q⟩
end
end Sl
namespace Sl
open PySem PySem.Spec PyProof.Rows L2
open PySem.W (Codec)
section
variable {P : Program} {w : World} {K : PySem.W.Frag} {mg : Str → Option Value} {base : Heap}
/-! ### aperture -/
theorem scAperture : FnScope ["r", "w", "h", "f", "x", "y", "c", "across", "numbers", "points", "q", "down", "within"] ["r", "w", "h", "f", "x", "y"] (defScope sAperture) := ⟨rfl, rfl, rfl, by decide +kernel, rfl, by decide +kernel, by decide +kernel⟩
def spAperture (K : PySem.W.Frag) : Sp := fun vs H Q _ => ∃ (a : Addr) (r x y : Int) (W M : Nat) (f : List Int), vs = [.int r, .int W, .int M, .ref a, .int x, .int y] ∧ SqL K H a (f.map V.int) ∧ (0 ≤ r ∧ r ≤ 4096) ∧ W ≤ 64 ∧ M ≤ 64 ∧ f.length = W * M ∧
  (0 ≤ x ∧ x ≤ 65535) ∧ (0 ≤ y ∧ y ≤ 65535) ∧ ∀ (H' : Hp) (p : Addr), Same H H' → H p = none → H' p = some (.lst ([Ap.apN W M f x y r, Ap.apP W M x y r].map V.int)) → Q (.ref p) H'
theorem ok_aperture {f fG fW : Addr} {fd fdG fdW : FuncData} {k : Nat} (F : Fun K "aperture" "aperture" sAperture f fd) (mR : mg "range" = none)
    (gG : mg "point_gaps" = some (.ref fG)) (kG : PySem.W.keepIn K (.ref fG) = true) (bG : Binds K fdG ["k", "at"] []) (GG : FnOk P w K mg base CX0 k fG fdG ["k", "at"] spGaps)
    (gW : mg "points_within" = some (.ref fW)) (kW : PySem.W.keepIn K (.ref fW) = true) (bW : Binds K fdW ["across", "down", "most"] []) (GW : FnOk P w K mg base CX0 k fW fdW ["across", "down", "most"] (spWithin K)) :
    FnOk P w K mg base CX0 (k + 1) f fd ["r", "w", "h", "f", "x", "y"] (spAperture K) := by
  refine F.ok scAperture (fun vs H Q E h => ?_) (fun cdv A outer s H vs Q E hr h => ?_)
  · obtain ⟨a, r, x, y, W, M, f, rfl, _⟩ := h
    rfl
  · obtain ⟨a, r, x, y, W, M, f, rfl, hS, hr', hW, hM, hlen, hx, hy, q⟩ := h
    refine ⟨_, pss_cons (ps_setLc (i := 7) (own := [("c", 6)]) (g := gName 6) (tt := tYes) rfl scAperture.nd rfl rfl (sw_true rfl rfl rfl (by decide +kernel)) (pi_range1 rfl mR (pa_cons (pv 1) pa_nil))
        (blkOk_by (own := [("c", 6)]) (N := ["r", "w", "h", "f", "x", "y", "c", "across", "numbers", "points", "q", "down", "within"]) (sc := defScope sAperture) (by decide +kernel)) (fun _ _ _ _ _ => pg_name (i := 6) scAperture.nd rfl (Or.inl rfl)) (fun _ _ _ _ _ => pts_nil)
        (fun _ _ _ _ _ => pe_call GG hr (by rfl) gG kG bG .nil pass0 (pa_cons (pv 6) (pa_cons (pv 4) pa_nil))))
      (pss_cons (ps_set (i := 8) scAperture.nd rfl (.inl rfl) pe_int)
      (pss_cons (ps_set (i := 9) scAperture.nd rfl (.inl rfl) pe_int)
      (pss_cons (ps_for PassesOwn.never rfl (pi_range1 rfl mR (pa_cons (pv 2) pa_nil)) (pg_name (i := 10) scAperture.nd rfl (.inl rfl))
        (pss_cons (ps_set (i := 11) scAperture.nd rfl (.inl rfl) (pe_call GG hr (by rfl) gG kG bG .nil pass0 (pa_cons (pv 10) (pa_cons (pv 5) pa_nil))))
        (pss_one (ps_for PassesOwn.never rfl (pi_range1 rfl mR (pa_cons (pv 1) pa_nil)) (pg_name (i := 6) scAperture.nd rfl (.inl rfl))
          (pss_cons (ps_set (i := 12) scAperture.nd rfl (.inl rfl) (pe_call GW hr (by rfl) gW kW bW .nil pass0 (pa_cons (pe_ix ix_list (pv 7) (pv 6) (fun _ _ => rfl)) (pa_cons (pv 11) (pa_cons (pe_op op_mul (pv 0) (pv 0)) pa_nil)))))
          (pss_cons (ps_aug (i := 8) scAperture.nd rfl (.inl rfl) (pe_op op_mul (pe_ix ix_list (pv 3) (pe_op op_add (pe_op op_mul (pv 10) (pv 1)) (pv 6)) (fun _ _ => rfl)) (pv 12)) ip_add)
          (pss_one (ps_aug (i := 9) scAperture.nd rfl (.inl rfl) (pv 12) ip_add))))))))
      (pss_one (ps_ret (pe_lst (pa_cons (pv 8) (pa_cons (pv 9) pa_nil)))))))), ?_⟩
    have b62 : ∀ {n : Nat}, n ≤ 64 → -(2 ^ 62) ≤ (n : Int) ∧ (n : Int) < 2 ^ 62 := fun {n} h => by omega
    -- across = [point_gaps(c, x) for c in range(w)]
    refine ⟨_, rfl, (W : Int), rfl, (b62 hW).1, (b62 hW).2, fun D nD => ?_⟩
    refine lc_range (lo := 0) (n := W) (fun i H' => ∃ ts : List Addr, ts.length = i ∧ H' D = some (.lst (ts.map V.ref)) ∧ Same H H' ∧ ∀ (j : Nat) (t : Addr), ts[j]? = some t → H' t = some (.lst ((Ap.gaps (j : Int) x).map V.int)))
      ⟨[], rfl, upd_same, same_new nD, fun j t h => by simp at h⟩ ?_ ?_
    · rintro i H1 hi ⟨ts, hl, hD, sm, hp⟩
      refine ⟨rfl, tyes ?_⟩
      refine ⟨_, rfl, .int x, rfl, 0 + (i : Int), x, rfl, ⟨by omega, by omega⟩, hx, fun H2 t sm2 nt ht => ?_⟩
      rw [Int.zero_add] at ht
      have nDt : D ≠ t := ne_of_none hD nt
      refine ⟨_, sm2 _ _ hD, (by rw [List.length_map, hl]; exact small1000 (by omega)), ts ++ [t], (by rw [List.length_append, hl]; rfl), (by rw [upd_same, List.map_append]; rfl), ?_, ?_⟩
      · intro b o e
        have nb : b ≠ D := ne_of_none e nD
        rw [upd_ne nb]
        exact sm2 b o (sm b o e)
      · intro j u hj
        by_cases hjl : j < ts.length
        · rw [List.getElem?_append_left hjl] at hj
          have e1 := hp j u hj
          have n1 : u ≠ D := fun z => by
            rw [z, hD] at e1
            cases ts with
            | nil => simp at hjl
            | cons t0 r0 =>
              have e2 := HO.lst.inj (Option.some.inj e1)
              unfold Ap.gaps Ap.steps at e2
              cases e2
          rw [upd_ne n1]
          exact sm2 _ _ e1
        · rw [List.getElem?_append_right (by omega)] at hj
          have ej : j - ts.length = 0 := by
            cases hz : j - ts.length with
            | zero => rfl
            | succ m => rw [hz] at hj; simp at hj
          rw [ej] at hj
          have eu : t = u := Option.some.inj hj
          have ei : j = i := by omega
          subst eu ei
          rw [upd_ne (fun z => nDt z.symm)]
          exact ht
    · rintro H1 ⟨ts, hl, hD, sm, hp⟩
      -- the rows
      refine ⟨_, rfl, (M : Int), rfl, (b62 hM).1, (b62 hM).2, for_range (lo := 0) (n := M) (fun i σ H' => Same H1 H' ∧ ∃ v6 v10 v11 v12 : Option V, σ = [some (.int r), some (.int W), some (.int M), some (.ref a), some (.int x), some (.int y), v6, some (.ref D),
        some (.int (Ap.sumTo i fun q => Ap.sumTo W fun c => f.getD (q * W + c) 0 * Ap.cnt2 (Ap.gaps c x) (Ap.gaps q y) (r * r))), some (.int (Ap.sumTo i fun q => Ap.sumTo W fun c => Ap.cnt2 (Ap.gaps c x) (Ap.gaps q y) (r * r))), v10, v11, v12])
        ⟨Same.refl _, none, none, none, none, rfl⟩ ?_ ?_⟩
      · rintro i σ H' hi ⟨sm1, v6, v10, v11, v12, rfl⟩
        refine ⟨_, rfl, .int y, rfl, 0 + (i : Int), y, rfl, ⟨by omega, by omega⟩, hy, fun H2 d sm2 nd hd => ?_⟩
        rw [Int.zero_add] at hd
        have sm12 : Same H1 H2 := sm1.trans sm2
        refine ⟨_, rfl, (W : Int), rfl, (b62 hW).1, (b62 hW).2, for_range (lo := 0) (n := W) (fun j σ H' => H' = H2 ∧ ∃ v6 v12 : Option V, σ = [some (.int r), some (.int W), some (.int M), some (.ref a), some (.int x), some (.int y), v6, some (.ref D),
          some (.int (Ap.sumTo i (fun q => Ap.sumTo W fun c => f.getD (q * W + c) 0 * Ap.cnt2 (Ap.gaps c x) (Ap.gaps q y) (r * r)) + Ap.sumTo j fun c => f.getD (i * W + c) 0 * Ap.cnt2 (Ap.gaps c x) (Ap.gaps i y) (r * r))),
          some (.int (Ap.sumTo i (fun q => Ap.sumTo W fun c => Ap.cnt2 (Ap.gaps c x) (Ap.gaps q y) (r * r)) + Ap.sumTo j fun c => Ap.cnt2 (Ap.gaps c x) (Ap.gaps i y) (r * r))), some (.int (0 + (i : Int))), some (.ref d), v12])
          ⟨rfl, v6, v12, ?_⟩ ?_ ?_⟩
        · rw [Ap.sumTo_zero, Ap.sumTo_zero, Int.add_zero, Int.add_zero]
          rfl
        · rintro j σ H3 hj ⟨rfl, v6', v12', rfl⟩
          obtain ⟨t, ht⟩ : ∃ t, ts[j]? = some t := ⟨_, List.getElem?_eq_getElem (by omega)⟩
          have hcell := cell_lt hi hj
          have hc := Ap.cnt2_le (Ap.gaps j x) (r * r) (Ap.gaps_len _ _) (Ap.gaps i y)
          rw [Ap.gaps_len] at hc
          refine ⟨_, rfl, _, rfl, D, _, _, _, rfl, rfl, SqL.of (sm12 _ _ hD), at_of (j := j) (v := V.ref t) (Int.zero_add _) (get_map ht), .ref d, rfl, .int r, rfl, .int r, rfl, r, r, rfl, rfl, .inl ⟨by omega, by omega⟩,
            t, d, Ap.gaps j x, Ap.gaps i y, r * r, rfl, SqL.of (sm12 _ _ (hp j t ht)), SqL.of hd, ?_⟩
          refine ⟨_, rfl, .ref a, rfl, _, rfl, .int W, rfl, _, _, rfl, rfl, .inl ⟨by omega, by omega⟩, _, rfl, _, _, rfl, rfl, a, _, _, _, rfl, rfl, sm12.seq (sm.seq hS), at_D (i := i * W + j) (cell_at W i j) (by rw [hlen]; exact hcell),
            _, rfl, _, _, rfl, rfl, .inr ⟨by omega, by omega⟩, _, _, rfl, rfl, ?_⟩
          refine ⟨_, rfl, _, rfl, _, _, rfl, rfl, rfl, some (.int (0 + (j : Int))), some (.int (Ap.cnt2 (Ap.gaps j x) (Ap.gaps i y) (r * r))), ?_⟩
          rw [Ap.sumTo_succ, Ap.sumTo_succ, ← Int.add_assoc, ← Int.add_assoc]
          rfl
        · rintro σ H3 ⟨rfl, v6', v12', rfl⟩
          refine ⟨sm12, v6', some (.int (0 + (i : Int))), some (.ref d), v12', ?_⟩
          rw [Ap.sumTo_succ, Ap.sumTo_succ]
      · rintro σ H' ⟨sm1, v6, v10, v11, v12, rfl⟩
        refine ⟨_, rfl, _, rfl, (by show 2 ≤ sizeLine; decide), fun p np => ?_⟩
        exact q _ p ((sm.trans sm1).trans (same_new np)) ((sm.trans sm1).free np) upd_same
end
end Sl
namespace Sl
open PySem PySem.Spec PyProof.Rows L2
open PySem.W (Codec)
abbrev sMain : Stmt := top 12
section
variable {P : Program} {w : World} {K : PySem.W.Frag} {mg : Str → Option Value} {base : Heap}
/-! ### ap_aperture -/
theorem scMain : FnScope ["r", "w", "h", "f", "xy", "answer", "x", "y"] ["r", "w", "h", "f", "xy"] (defScope sMain) := ⟨rfl, rfl, rfl, by decide +kernel, rfl, by decide +kernel, by decide +kernel⟩
def spMain (K : PySem.W.Frag) : Sp := fun vs H Q _ => ∃ (a b : Addr) (r w h : Int) (f xy : List Int), vs = [.int r, .int w, .int h, .ref a, .ref b] ∧ SqL K H a (f.map V.int) ∧ SqL K H b (xy.map V.int) ∧ 0 ≤ r ∧ 0 ≤ w ∧ 0 ≤ h ∧ (∀ z ∈ f, 0 ≤ z) ∧ (∀ z ∈ xy, 0 ≤ z ∧ z ≤ 65535) ∧
  PySh67.ap_aperture_asked r w h f xy = true ∧ ∀ (H' : Hp) (p : Addr), H' p = some (.lst ((PySh67.ap_aperture r w h f xy).map V.int)) → Q (.ref p) H'
theorem ok_main {f fF fM fP fA : Addr} {fd fdF fdM fdP fdA : FuncData} {k t : Nat} (F : Fun K "ap_aperture" "ap_aperture" sMain f fd) (gR : mg "MOST_RADIUS" = some (.int 4096 t))
    (gF : mg "frame_is_bad" = some (.ref fF)) (kF : PySem.W.keepIn K (.ref fF) = true) (bF : Binds K fdF ["w", "h"] []) (GF : FnOk P w K mg base CX0 k fF fdF ["w", "h"] spFrame)
    (gM : mg "places_are_bad" = some (.ref fM)) (kM : PySem.W.keepIn K (.ref fM) = true) (bM : Binds K fdM ["xy"] []) (GM : FnOk P w K mg base CX0 k fM fdM ["xy"] (spMany K))
    (gP : mg "places_of" = some (.ref fP)) (kP : PySem.W.keepIn K (.ref fP) = true) (bP : Binds K fdP ["xy"] []) (GP : FnOk P w K mg base CX0 k fP fdP ["xy"] (spPlaces K))
    (gA : mg "aperture" = some (.ref fA)) (kA : PySem.W.keepIn K (.ref fA) = true) (bA : Binds K fdA ["r", "w", "h", "f", "x", "y"] []) (GA : FnOk P w K mg base CX0 k fA fdA ["r", "w", "h", "f", "x", "y"] (spAperture K)) :
    FnOk P w K mg base CX0 (k + 1) f fd ["r", "w", "h", "f", "xy"] (spMain K) := by
  refine F.ok scMain (fun vs H Q E h => ?_) (fun cdv A outer s H vs Q E hr hh => ?_)
  · obtain ⟨a, b, r, w, h, f, xy, rfl, _⟩ := h
    rfl
  · obtain ⟨a, b, r, w, h, f, xy, rfl, hA, hB, r0, w0, h0, hf, hxy, hask, q⟩ := hh
    refine ⟨_, pss_cons (ps_if (PW.pt (pw_or (pt_cmpR op_gt (pv 0) (pe_glob (v := .int 4096) rfl gR ⟨_, rfl⟩) (nomark _)) (pw_or (pt_val (pe_call GF hr (by rfl) gF kF bF .nil pass0 (pa_cons (pv 1) (pa_cons (pv 2) pa_nil))))
        (pw_or1 (pt_val (pe_call GM hr (by rfl) gM kM bM .nil pass0 (pa_cons (pv 4) pa_nil))))))) (pss_one (ps_ret (pe_lst (pa_cons (pe_un un_neg pe_int) pa_nil)))) pss_nil)
      (pss_cons (ps_set (i := 5) scMain.nd rfl (.inl rfl) (pe_lst (pa_cons pe_int pa_nil)))
      (pss_cons (ps_for PassesOwn.never rfl (pi_list (pe_call GP hr (by rfl) gP kP bP .nil pass0 (pa_cons (pv 4) pa_nil))) (pg_tup rfl (pgs_cons (pg_name (i := 6) scMain.nd rfl (.inl rfl)) (pgs_cons (pg_name (i := 7) scMain.nd rfl (.inl rfl)) pgs_nil)))
        (pss_one (ps_expr (pe_bm PySem.F.plainAttrs_list PySem.F.slot_list_extend PySem.F.type_list_extend mt_extend (pv 5)
          (pa_cons (pe_call GA hr (by rfl) gA kA bA .nil pass0 (pa_cons (pv 0) (pa_cons (pv 1) (pa_cons (pv 2) (pa_cons (pv 3) (pa_cons (pv 6) (pa_cons (pv 7) pa_nil))))))) pa_nil)))))
      (pss_one (ps_ret (pv 5))))), ?_⟩
    have hbad : ¬ (r ≤ 4096 ∧ Ap.FrameOk w h xy) → ∀ p, Q (.ref p) (upd H p (.lst [.int (-2)])) := fun n p => q _ p (by
      rw [upd_same, Ap.aperture_bad hask r0 n]
      rfl)
    refine ⟨_, rfl, r, 4096, rfl, rfl, _, rfl, ite2 (fun e => ?_) (fun e => ?_)⟩
    · have e := of_decide_eq_true e
      exact ⟨2, rfl, (by show 1 ≤ sizeLine; decide), fun p _ => hbad (fun z => by omega) p⟩
    have e1 : r ≤ 4096 := by
      have : ¬ 4096 < r := fun z => e (decide_eq_true z)
      omega
    refine ⟨_, rfl, _, rfl, w, h, rfl, fun c hc => ⟨c, rfl, ?_⟩⟩
    cases c with
    | true => exact ⟨2, rfl, (by show 1 ≤ sizeLine; decide), fun p _ => hbad (fun z => by have := hc.mp rfl; unfold Ap.FrameOk at z; omega) p⟩
    | false =>
      have e2 : 1 ≤ w ∧ w ≤ 64 ∧ 1 ≤ h ∧ h ≤ 64 := by
        apply Decidable.byContradiction
        intro z
        exact Bool.noConfusion (hc.mpr z)
      refine ⟨_, rfl, b, xy, rfl, hB, fun c hc => ⟨c, rfl, ?_⟩⟩
      cases c with
      | true => exact ⟨2, rfl, (by show 1 ≤ sizeLine; decide), fun p _ => hbad (fun z => by have := hc.mp rfl; unfold Ap.FrameOk at z; omega) p⟩
      | false =>
        have e3 : xy.length ≤ 128 := by
          apply Decidable.byContradiction
          intro z
          exact Bool.noConfusion (hc.mpr z)
        have hok : r ≤ 4096 ∧ Ap.FrameOk w h xy := ⟨e1, e2.1, e2.2.1, e2.2.2.1, e2.2.2.2, e3⟩
        obtain ⟨hev, hfl⟩ := Ap.aperture_asked hask r0
        have hfl := hfl e1 hok.2
        rw [Ap.aperture_good r0 hf (fun z hz => (hxy z hz).1) hok] at q
        obtain ⟨W, rfl⟩ : ∃ W : Nat, w = (W : Int) := ⟨w.toNat, by omega⟩
        obtain ⟨M, rfl⟩ : ∃ M : Nat, h = (M : Int) := ⟨h.toNat, by omega⟩
        have hfl : f.length = W * M := hfl
        -- answer = [0]
        refine ⟨(by show 1 ≤ sizeLine; decide), fun o no => ?_⟩
        have s1 : Same H (upd H o (.lst [.int 0])) := same_new no
        refine ⟨_, rfl, b, xy, rfl, s1.seq hB, hev, e3, fun H2 p ts sm hp hl hpl => ?_⟩
        have sm2 : Same H H2 := s1.trans sm
        have ho2 : H2 o = some (.lst [.int 0]) := sm _ _ upd_same
        have nop : p ≠ o ∨ True := .inr trivial
        refine ⟨p, rfl, ⟨_, SqL.of hp⟩, ?_⟩
        by_cases hpo : p = o
        · subst hpo
          have e := hp.symm.trans ho2
          have e := HO.lst.inj (Option.some.inj e)
          cases ts with
          | nil => cases e
          | cons t0 r0 => cases e
        refine for_list (K := K) (a := p) (xs := ts.map V.ref) (fun i σ H' => ∃ v6 v7 : Option V, σ = [some (.int r), some (.int W), some (.int M), some (.ref a), some (.ref b), some (.ref o), v6, v7] ∧ (∀ c ob, c ≠ o → H2 c = some ob → H' c = some ob) ∧
          H' o = some (.lst ((0 :: Ap.flatTo i (Ap.apAt W M f r xy)).map V.int))) ⟨none, none, rfl, fun _ _ _ e => e, ho2⟩ (fun i σ H' _ ⟨_, _, _, kp, _⟩ => SqL.of (kp _ _ hpo hp)) ?_ ?_
        · rintro i v σ H' hi ⟨v6, v7, rfl, kp, ho⟩
          obtain ⟨t, ht, rfl⟩ := ref_at hi
          have hil : i < xy.length / 2 := by
            have := (List.getElem?_eq_some_iff.mp ht).1
            omega
          have hT := hpl i t ht
          have nt : t ≠ o := ne_of hT ho2 (by intro z; cases z)
          have hx := getD_in hxy ⟨by decide, by decide⟩ (2 * i)
          have hy := getD_in hxy ⟨by decide, by decide⟩ (2 * i + 1)
          refine ⟨t, _, rfl, .inl (.inl (kp _ _ nt hT)), rfl, _, _, rfl, _, _, rfl, rfl, ?_⟩
          have hA' : SqL K H' a (f.map V.int) := by
            rcases hA with (h | ⟨ob, h⟩) | h
            · exact .inl (.inl (kp _ _ (ne_of_none h no) (sm2 _ _ h)))
            · exact .inl (.inr ⟨ob, kp _ _ (ne_of_none h no) (sm2 _ _ h)⟩)
            · exact .inr h
          refine ⟨.ref o, rfl, .inl ⟨rfl, _, SqL.of ho⟩, _, rfl, _, rfl, _, rfl, _, rfl, _, rfl, _, rfl, a, r, Ap.placeX xy i, Ap.placeY xy i, W, M, f, rfl, hA', ⟨r0, e1⟩, by omega, by omega, hfl, hx, hy, fun H3 p3 sm3 np3 hp3 => ?_⟩
          have n3 : o ≠ p3 := ne_of_none ho np3
          refine ⟨o, p3, _, _, rfl, rfl, sm3 _ _ ho, hp3, ?_, ?_⟩
          · have := Ap.flatTo_len_le (g := Ap.apAt W M f r xy) (k := 2) (fun _ => Nat.le_refl 2) i
            rw [List.length_map, List.length_cons, List.length_map]
            exact Nat.le_of_lt (small1000 (by show _ + 1 + 2 ≤ 1000; omega))
          · refine ⟨_, _, rfl, fun c ob nc e => ?_, ?_⟩
            · rw [upd_ne nc]
              exact sm3 _ _ (kp c ob nc e)
            · rw [upd_same, Ap.flatTo_succ, ← List.cons_append, List.map_append]
              rfl
        · rintro σ H' ⟨v6, v7, rfl, kp, ho⟩
          rw [List.length_map, hl] at ho
          exact ⟨_, rfl, q H' o ho⟩
end
end Sl
namespace Sl
open PySem PySem.Spec PyProof.Rows L2
open PySem.W (Codec)
/-! ### what the top has written -/
theorem all_mk {P : Program} {w : World} {K : PySem.W.Frag} {h : Heap} {mg : Str → Option Value} {fa f1 f2 f3 f4 f5 f6 f7 p0 : Addr} (X : K.In h) (G : h.Ns mainGlobals mg) (hfa : mg "ap_aperture" = some (.ref fa))
    {od1 an1 od2 an2 od3 an3 od4 an4 od5 an5 od6 an6 od7 an7 odp0 : Option Addr} {sl1 sl2 sl3 sl4 sl5 sl6 sl7 slp0 : Array (Option Value)} {oc1 kV1 dc1 pm1 cd1 ct1 oc2 kV2 dc2 pm2 cd2 ct2 oc3 kV3 dc3 pm3 cd3 ct3 oc4 kV4 dc4 pm4 cd4 ct4 oc5 kV5 dc5 pm5 cd5 ct5 oc6 kV6 dc6 pm6 cd6 ct6 oc7 kV7 dc7 pm7 cd7 ct7 : Value} {t0 t1 t2 t3 np0 tp0_0 tp0_1 tp0_2 tp0_3 : Nat}
    (a1 : PySem.W.nsIn K mainGlobals "frame_is_bad" = some (some (.ref f1))) (l1 : K.lookup f1 = some ⟨oc1, od1, .func (PySem.W.fnOf "frame_is_bad" "frame_is_bad" (defArgs sFrame) (defBody sFrame) (defScope sFrame) .none kV1 dc1 pm1 an1 cd1 ct1), sl1⟩) (c1 : PySem.W.codeIn K cd1 "frame_is_bad" = true) (k1 : PySem.W.keepIn K (.ref f1) = true)
    (a2 : PySem.W.nsIn K mainGlobals "places_are_bad" = some (some (.ref f2))) (l2 : K.lookup f2 = some ⟨oc2, od2, .func (PySem.W.fnOf "places_are_bad" "places_are_bad" (defArgs sMany) (defBody sMany) (defScope sMany) .none kV2 dc2 pm2 an2 cd2 ct2), sl2⟩) (c2 : PySem.W.codeIn K cd2 "places_are_bad" = true) (k2 : PySem.W.keepIn K (.ref f2) = true)
    (a3 : PySem.W.nsIn K mainGlobals "places_of" = some (some (.ref f3))) (l3 : K.lookup f3 = some ⟨oc3, od3, .func (PySem.W.fnOf "places_of" "places_of" (defArgs sPlaces) (defBody sPlaces) (defScope sPlaces) .none kV3 dc3 pm3 an3 cd3 ct3), sl3⟩) (c3 : PySem.W.codeIn K cd3 "places_of" = true) (k3 : PySem.W.keepIn K (.ref f3) = true)
    (a4 : PySem.W.nsIn K mainGlobals "point_gaps" = some (some (.ref f4))) (l4 : K.lookup f4 = some ⟨oc4, od4, .func (PySem.W.fnOf "point_gaps" "point_gaps" (defArgs sGaps) (defBody sGaps) (defScope sGaps) .none kV4 dc4 pm4 an4 cd4 ct4), sl4⟩) (c4 : PySem.W.codeIn K cd4 "point_gaps" = true) (k4 : PySem.W.keepIn K (.ref f4) = true)
    (a5 : PySem.W.nsIn K mainGlobals "points_within" = some (some (.ref f5))) (l5 : K.lookup f5 = some ⟨oc5, od5, .func (PySem.W.fnOf "points_within" "points_within" (defArgs sWithin) (defBody sWithin) (defScope sWithin) .none kV5 dc5 pm5 an5 cd5 ct5), sl5⟩) (c5 : PySem.W.codeIn K cd5 "points_within" = true) (k5 : PySem.W.keepIn K (.ref f5) = true)
    (a6 : PySem.W.nsIn K mainGlobals "aperture" = some (some (.ref f6))) (l6 : K.lookup f6 = some ⟨oc6, od6, .func (PySem.W.fnOf "aperture" "aperture" (defArgs sAperture) (defBody sAperture) (defScope sAperture) .none kV6 dc6 pm6 an6 cd6 ct6), sl6⟩) (c6 : PySem.W.codeIn K cd6 "aperture" = true) (k6 : PySem.W.keepIn K (.ref f6) = true)
    (a7 : PySem.W.nsIn K mainGlobals "ap_aperture" = some (some (.ref f7))) (l7 : K.lookup f7 = some ⟨oc7, od7, .func (PySem.W.fnOf "ap_aperture" "ap_aperture" (defArgs sMain) (defBody sMain) (defScope sMain) .none kV7 dc7 pm7 an7 cd7 ct7), sl7⟩) (c7 : PySem.W.codeIn K cd7 "ap_aperture" = true) (k7 : PySem.W.keepIn K (.ref f7) = true)
    (v0 : PySem.W.nsIn K mainGlobals "SIDE" = some (some (.int 64 t0)))
    (v1 : PySem.W.nsIn K mainGlobals "MOST_SIDE" = some (some (.int 64 t1)))
    (v2 : PySem.W.nsIn K mainGlobals "MOST_PLACES" = some (some (.int 64 t2)))
    (v3 : PySem.W.nsIn K mainGlobals "MOST_RADIUS" = some (some (.int 4096 t3)))
    (u0 : PySem.W.nsIn K mainGlobals "POINT_STEPS" = some (some (.ref p0))) (y0 : K.lookup p0 = some ⟨.type "tuple", odp0, .seq #[.int 8 tp0_0, .int 24 tp0_1, .int 40 tp0_2, .int 56 tp0_3] np0, slp0⟩)
    (z0 : PySem.W.nsIn K mainGlobals "len" = some none)
    (z1 : PySem.W.nsIn K mainGlobals "range" = some none) :
    ∃ fd : FuncData, (∀ (s : Shared) (us : List Value), us.length = (["r", "w", "h", "f", "xy"] : List Str).length → BindsTo s fd ⟨us, []⟩ ((["r", "w", "h", "f", "xy"] : List Str).zip us)) ∧ ∀ base : Heap, K.In base → base.Ns mainGlobals mg → FnOk P w K mg base CX0 3 fa fd ["r", "w", "h", "f", "xy"] (spMain K) := by
  have e := hfa.symm.trans (PySem.W.mg_of X G a7)
  cases e
  have F1 := fun_mk (st := sFrame) l1 c1 k1
  have b1 := F1.binds (ps := ["w", "h"]) fun _ _ _ _ _ _ us hl => match us, hl with | [_, _], _ => rfl
  have g1 := PySem.W.mg_of X G a1
  have F2 := fun_mk (st := sMany) l2 c2 k2
  have b2 := F2.binds (ps := ["xy"]) fun _ _ _ _ _ _ us hl => match us, hl with | [_], _ => rfl
  have g2 := PySem.W.mg_of X G a2
  have F3 := fun_mk (st := sPlaces) l3 c3 k3
  have b3 := F3.binds (ps := ["xy"]) fun _ _ _ _ _ _ us hl => match us, hl with | [_], _ => rfl
  have g3 := PySem.W.mg_of X G a3
  have F4 := fun_mk (st := sGaps) l4 c4 k4
  have b4 := F4.binds (ps := ["k", "at"]) fun _ _ _ _ _ _ us hl => match us, hl with | [_, _], _ => rfl
  have g4 := PySem.W.mg_of X G a4
  have F5 := fun_mk (st := sWithin) l5 c5 k5
  have b5 := F5.binds (ps := ["across", "down", "most"]) fun _ _ _ _ _ _ us hl => match us, hl with | [_, _, _], _ => rfl
  have g5 := PySem.W.mg_of X G a5
  have F6 := fun_mk (st := sAperture) l6 c6 k6
  have b6 := F6.binds (ps := ["r", "w", "h", "f", "x", "y"]) fun _ _ _ _ _ _ us hl => match us, hl with | [_, _, _, _, _, _], _ => rfl
  have g6 := PySem.W.mg_of X G a6
  have F7 := fun_mk (st := sMain) l7 c7 k7
  have gv_SIDE := PySem.W.mg_of X G v0
  have gv_MOST_SIDE := PySem.W.mg_of X G v1
  have gv_MOST_PLACES := PySem.W.mg_of X G v2
  have gv_MOST_RADIUS := PySem.W.mg_of X G v3
  have gu_POINT_STEPS := PySem.W.mg_of X G u0
  have hu_POINT_STEPS : ∀ H : Hp, SqT K H p0 (Ap.steps.map V.int) := fun H => .inr ⟨_, _, _, y0, rfl, rfl, (by show 4 ≤ sizeLine; decide), .cons ⟨_, rfl⟩ (.cons ⟨_, rfl⟩ (.cons ⟨_, rfl⟩ (.cons ⟨_, rfl⟩ (.nil))))⟩
  have m_len : mg "len" = none := PySem.W.mg_none_of X G z0
  have m_range : mg "range" = none := PySem.W.mg_none_of X G z1
  refine ⟨PySem.W.fnOf "ap_aperture" "ap_aperture" (defArgs sMain) (defBody sMain) (defScope sMain) .none kV7 dc7 pm7 an7 cd7 ct7, fun s us hu => match us, hu with | [_, _, _, _, _], _ => .of_eq rfl, fun base _ _ => ?_⟩
  have GG : FnOk P w K mg base CX0 1 f4 _ ["k", "at"] spGaps := ok_gaps F4 gv_SIDE gu_POINT_STEPS hu_POINT_STEPS
  have GW : FnOk P w K mg base CX0 1 f5 _ ["across", "down", "most"] (spWithin K) := ok_within F5
  have GA : FnOk P w K mg base CX0 2 f6 _ ["r", "w", "h", "f", "x", "y"] (spAperture K) := ok_aperture F6 m_range g4 k4 b4 GG g5 k5 b5 GW
  have GF : FnOk P w K mg base CX0 2 f1 _ ["w", "h"] spFrame := ok_frame F1 gv_MOST_SIDE
  have GM : FnOk P w K mg base CX0 2 f2 _ ["xy"] (spMany K) := ok_many F2 gv_MOST_PLACES m_len
  have GP : FnOk P w K mg base CX0 2 f3 _ ["xy"] (spPlaces K) := ok_places F3 m_len m_range
  exact ok_main F7 gv_MOST_RADIUS g1 k1 b1 GF g2 k2 b2 GM g3 k3 b3 GP g6 k6 b6 GA
end Sl
open PySem PySem.W PyProof.Rows
set_option maxRecDepth 100000 in
set_option maxHeartbeats 0 in
theorem PySem.Challenge.cw_starlight_s01_ap_aperture_holds : PySem.Challenge.rw_starlight_s01_ap_aperture.Holds := by
  w_on; k_headS; (case hw => exact ⟨[.int 0, .int 1, .int 1, .list [.int 0], .list []], by decide +kernel, by decide +kernel⟩)
  k_fillS
  refine L2.walk_specK (r := PySem.Challenge.rw_starlight_s01_ap_aperture) (k := 3) (CX := L2.CX0) (ps := ["r", "w", "h", "f", "xy"]) (sp := Sl.spMain) (by decide +kernel) rfl rfl ⟨rfl, by decide, by decide⟩ (fun w h Y => PySem.W.kIn_of Y) ?F ?S (fun _ _ _ _ z => z)
  case F =>
    intro w mg fa h Y KX G hmg
    refine' Sl.all_mk KX G hmg ?a1 ?l1 ?c1 ?k1 ?a2 ?l2 ?c2 ?k2 ?a3 ?l3 ?c3 ?k3 ?a4 ?l4 ?c4 ?k4 ?a5 ?l5 ?c5 ?k5 ?a6 ?l6 ?c6 ?k6 ?a7 ?l7 ?c7 ?k7 ?v0 ?v1 ?v2 ?v3 ?u0 ?y0 ?z0 ?z1
    (case a1 => k_is)
    (case l1 => k_is)
    (case c1 => k_is)
    (case k1 => k_is)
    (case a2 => k_is)
    (case l2 => k_is)
    (case c2 => k_is)
    (case k2 => k_is)
    (case a3 => k_is)
    (case l3 => k_is)
    (case c3 => k_is)
    (case k3 => k_is)
    (case a4 => k_is)
    (case l4 => k_is)
    (case c4 => k_is)
    (case k4 => k_is)
    (case a5 => k_is)
    (case l5 => k_is)
    (case c5 => k_is)
    (case k5 => k_is)
    (case a6 => k_is)
    (case l6 => k_is)
    (case c6 => k_is)
    (case k6 => k_is)
    (case a7 => k_is)
    (case l7 => k_is)
    (case c7 => k_is)
    (case k7 => k_is)
    (case v0 => k_is)
    (case v1 => k_is)
    (case v2 => k_is)
    (case v3 => k_is)
    (case u0 => k_is)
    (case y0 => k_is)
    (case z0 => k_is)
    (case z1 => k_is)
  case S =>
    intro K H xs a hO hwi hask hx
    obtain ⟨r, w, h, f, xy, u⟩ := a
    cases hx with
    | cons x1 hx =>
    cases hx with
    | cons x2 hx =>
    cases hx with
    | cons x3 hx =>
    cases hx with
    | cons x4 hx =>
    cases hx with
    | cons x5 hx =>
    cases hx
    cases x1
    cases x2
    cases x3
    cases x4 with
    | lst s4 y4 =>
    cases x5 with
    | lst s5 y5 =>
    have e4 := L2.ints_dw f _ y4
    have e5 := L2.ints_dw xy _ y5
    subst e4 e5
    have q : (Codec.inInt 0 4294967295 r && (Codec.inInt 0 4294967295 w && (Codec.inInt 0 4294967295 h && ((Codec.inLen 0 4200 f && f.all (Codec.inInt 0 65535)) && ((Codec.inLen 0 140 xy && xy.all (Codec.inInt 0 65535)) && true))))) = true := hwi
    simp only [Bool.and_eq_true, List.all_eq_true] at q
    have i1 := Codec.inInt_iff.mp q.1
    have i2 := Codec.inInt_iff.mp q.2.1
    have i3 := Codec.inInt_iff.mp q.2.2.1
    exact ⟨_, _, r, w, h, f, xy, rfl, s4, s5, i1.1, i2.1, i3.1, fun z hz => (Codec.inInt_iff.mp (q.2.2.2.1.2 z hz)).1, fun z hz => Codec.inInt_iff.mp (q.2.2.2.2.1.2 z hz), hask, fun H' p hp => .lst (L2.SqL.of hp) (L2.dw_ints _)⟩
#print axioms PySem.Challenge.cw_starlight_s01_ap_aperture_holds
