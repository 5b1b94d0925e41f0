import PyProof.Rows.All
import Wide.All
import OpenK.AllK
import Wide.FinOn
import Open.SpecLaws
import KE.OsGo
import HandS.ForSpec
import HandS.Comp
import HandS.Wide
import PySem.Challenge.RW_steadyweight_s01_answers
set_option Elab.async false
namespace Sw
/-! ### the mathematics of the smooth ones -/
/-- a linear form's value: the coefficients from place j on -/
def lin : List Int → (Nat → Int) → Nat → Int
  | [], _, _ => 0
  | a :: c, x, j => a * x j + lin c x (j + 1)
def addc : List Int → List Int → List Int
  | [], d => d
  | c, [] => c
  | a :: c, b :: d => (a + b) :: addc c d
def conv : Nat → List Int → List Int
  | 0, _ => []
  | n + 1, c => addc c (0 :: conv n c)
def ones (n : Nat) : List Int := List.replicate n 1
theorem lin_add : ∀ (c d : List Int) (x : Nat → Int) (j : Nat), lin (addc c d) x j = lin c x j + lin d x j
  | [], d, x, j => by simp [addc, lin]
  | a :: c, [], x, j => by simp [addc, lin]
  | a :: c, b :: d, x, j => by
    simp only [addc, lin, lin_add c d]
    rw [Int.add_mul]
    omega
theorem lin_conv (c : List Int) (x : Nat → Int) : ∀ (n j : Nat), ((List.range n).map fun t => lin c x (j + t)).sum = lin (conv n c) x j
  | 0, j => by simp [conv, lin]
  | n + 1, j => by
    rw [List.range_succ_eq_map, List.map_cons, List.sum_cons, List.map_map]
    have e : ((fun t => lin c x (j + t)) ∘ Nat.succ) = fun t => lin c x (j + 1 + t) := by
      funext t
      show lin c x (j + (t + 1)) = lin c x (j + 1 + t)
      rw [show j + (t + 1) = j + 1 + t by omega]
    rw [e, lin_conv c x n (j + 1)]
    show lin c x (j + 0) + lin (conv n c) x (j + 1) = lin (addc c (0 :: conv n c)) x j
    rw [lin_add, lin]
    simp
theorem lin_ones (x : Nat → Int) : ∀ (n j : Nat), ((List.range n).map fun t => x (j + t)).sum = lin (ones n) x j
  | 0, j => by simp [ones, lin]
  | n + 1, j => by
    rw [List.range_succ_eq_map, List.map_cons, List.sum_cons, List.map_map]
    have e : ((fun t => x (j + t)) ∘ Nat.succ) = fun t => x (j + 1 + t) := by
      funext t
      show x (j + (t + 1)) = x (j + 1 + t)
      rw [show j + (t + 1) = j + 1 + t by omega]
    rw [e, lin_ones x n (j + 1)]
    show x (j + 0) + lin (ones n) x (j + 1) = 1 * x j + lin (ones n) x (j + 1)
    simp
theorem lin_at (x : Nat → Int) : ∀ (c : List Int) (j : Nat), ((List.range c.length).map fun k => c.getD k 0 * x (j + k)).sum = lin c x j
  | [], j => by simp [lin]
  | a :: c, j => by
    rw [List.length_cons, List.range_succ_eq_map, List.map_cons, List.sum_cons, List.map_map]
    have e : ((fun k => (a :: c).getD k 0 * x (j + k)) ∘ Nat.succ) = fun k => c.getD k 0 * x (j + 1 + k) := by
      funext t
      show (a :: c).getD (t + 1) 0 * x (j + (t + 1)) = c.getD t 0 * x (j + 1 + t)
      rw [show j + (t + 1) = j + 1 + t by omega, List.getD_cons_succ]
    rw [e, lin_at x c (j + 1)]
    simp [lin]
theorem conv_is : conv 32 (ones 32) = (List.range 63).map Kv190.tap := by decide +kernel
theorem lin_taps (x : Nat → Int) (j : Nat) : ((List.range 63).map fun k => Kv190.tap k * x (j + k)).sum = lin (conv 32 (ones 32)) x j := by
  rw [conv_is, ← lin_at]
  congr 1
/-- sums over a round of 32 -/
def box (l : List Int) : List Int := (List.range (l.length - 31)).map fun i => ((l.drop i).take 32).sum
theorem sum_cut (l : List Int) : ∀ (n i : Nat), i + n ≤ l.length → ((l.drop i).take n).sum = lin (ones n) (fun k => l.getD k 0) i
  | 0, i, _ => by simp [ones, lin]
  | n + 1, i, h => by
    have hi : i < l.length := by omega
    rw [List.drop_eq_getElem_cons hi, List.take_succ_cons, List.sum_cons, sum_cut l n (i + 1) (by omega)]
    show l[i] + lin (ones n) (fun k => l.getD k 0) (i + 1) = 1 * l.getD i 0 + lin (ones n) (fun k => l.getD k 0) (i + 1)
    rw [List.getD_eq_getElem?_getD, List.getElem?_eq_getElem hi]
    simp
theorem box_length (l : List Int) : (box l).length = l.length - 31 := by simp [box]
theorem box_at {l : List Int} {i : Nat} (h : i < l.length - 31) : (box l).getD i 0 = lin (ones 32) (fun k => l.getD k 0) i := by
  rw [← sum_cut l 32 i (by omega)]
  simp [box, List.getD_eq_getElem?_getD, h]
theorem box2_at {l : List Int} {j : Nat} (h : j < l.length - 31 - 31) : (box (box l)).getD j 0 = lin (conv 32 (ones 32)) (fun k => l.getD k 0) j := by
  rw [box_at (by rw [box_length]; exact h), ← lin_ones, ← lin_conv]
  congr 1
  refine List.map_congr_left fun t ht => ?_
  rw [List.mem_range] at ht
  exact box_at (by omega)
theorem smooth_is (l : List Int) (b : Nat) : Kv190.smooth l b = lin (conv 32 (ones 32)) (fun k => l.getD k 0) (l.length - 63 - b) :=
  lin_taps (fun k => l.getD k 0) (l.length - 63 - b)
theorem lin_shift (l : List Int) (d : Nat) : ∀ (c : List Int) (j : Nat), lin c (fun k => (l.drop d).getD k 0) j = lin c (fun k => l.getD k 0) (d + j)
  | [], _ => rfl
  | a :: c, j => by
    simp only [lin]
    rw [lin_shift l d c (j + 1), show d + (j + 1) = d + j + 1 by omega]
    congr 2
    simp [List.getD_eq_getElem?_getD]
/-- the last 94 -/
def last94 (l : List Int) : List Int := l.drop (l.length - 94)
theorem last94_length (l : List Int) : (last94 l).length = min l.length 94 := by
  unfold last94
  rw [List.length_drop]
  omega
theorem smooths_is {l : List Int} (h : 94 ≤ l.length) : box (box (last94 l)) = (List.range 32).map fun j => Kv190.smooth l (31 - j) := by
  have hl : (last94 l).length = 94 := by
    rw [last94_length]
    omega
  have e1 : (box (box (last94 l))).length = 32 := by rw [box_length, box_length, hl]
  refine List.ext_getElem? fun j => ?_
  by_cases hj : j < 32
  · have p : (box (box (last94 l))).getD j 0 = Kv190.smooth l (31 - j) := by
      rw [box2_at (by rw [hl]; omega), smooth_is l (31 - j)]
      unfold last94
      rw [lin_shift, show l.length - 94 + j = l.length - 63 - (31 - j) by omega]
    rw [List.getD_eq_getElem?_getD, List.getElem?_eq_getElem (by omega)] at p
    rw [List.getElem?_eq_getElem (by omega)]
    simp only [Option.getD_some] at p
    rw [p]
    simp [hj]
  · rw [List.getElem?_eq_none (by omega), List.getElem?_eq_none (by simp; omega)]
/-! the greatest and the least -/
theorem foldl_max (l : List Int) : ∀ a : Int, (l.foldl max a = a ∨ l.foldl max a ∈ l) ∧ a ≤ l.foldl max a ∧ ∀ y ∈ l, y ≤ l.foldl max a := by
  induction l with
  | nil => intro a; simp
  | cons b r ih =>
    intro a
    obtain ⟨h1, h2, h3⟩ := ih (max a b)
    rw [List.foldl_cons]
    refine ⟨?_, by omega, fun y hy => ?_⟩
    · rcases h1 with h1 | h1
      · rw [h1]
        rcases Int.le_total a b with c | c
        · exact .inr (by rw [Int.max_eq_right c]; exact List.mem_cons_self)
        · exact .inl (Int.max_eq_left c)
      · exact .inr (List.mem_cons_of_mem _ h1)
    · rcases List.mem_cons.mp hy with rfl | hy
      · omega
      · exact h3 y hy
theorem foldl_min (l : List Int) : ∀ a : Int, (l.foldl min a = a ∨ l.foldl min a ∈ l) ∧ l.foldl min a ≤ a ∧ ∀ y ∈ l, l.foldl min a ≤ y := by
  induction l with
  | nil => intro a; simp
  | cons b r ih =>
    intro a
    obtain ⟨h1, h2, h3⟩ := ih (min a b)
    rw [List.foldl_cons]
    refine ⟨?_, by omega, fun y hy => ?_⟩
    · rcases h1 with h1 | h1
      · rw [h1]
        rcases Int.le_total a b with c | c
        · exact .inl (Int.min_eq_left c)
        · exact .inr (by rw [Int.min_eq_right c]; exact List.mem_cons_self)
      · exact .inr (List.mem_cons_of_mem _ h1)
    · rcases List.mem_cons.mp hy with rfl | hy
      · omega
      · exact h3 y hy
theorem greatest_mem {l : List Int} (h : 0 < l.length) : Kv190.greatest l ∈ l ∧ ∀ y ∈ l, y ≤ Kv190.greatest l := by
  obtain ⟨h1, h2, h3⟩ := foldl_max l (l.headD 0)
  refine ⟨?_, h3⟩
  rcases h1 with h1 | h1
  · unfold Kv190.greatest
    rw [h1]
    cases l with
    | nil => simp at h
    | cons a r => exact List.mem_cons_self
  · exact h1
theorem least_mem {l : List Int} (h : 0 < l.length) : Kv190.least l ∈ l ∧ ∀ y ∈ l, Kv190.least l ≤ y := by
  obtain ⟨h1, h2, h3⟩ := foldl_min l (l.headD 0)
  refine ⟨?_, h3⟩
  rcases h1 with h1 | h1
  · unfold Kv190.least
    rw [h1]
    cases l with
    | nil => simp at h
    | cons a r => exact List.mem_cons_self
  · exact h1
theorem greatest_eq {l : List Int} {m : Int} (h : m ∈ l) (h2 : ∀ y ∈ l, y ≤ m) : m = Kv190.greatest l := by
  obtain ⟨g1, g2⟩ := greatest_mem (List.length_pos_of_mem h)
  exact Int.le_antisymm (g2 m h) (h2 _ g1)
theorem least_eq {l : List Int} {m : Int} (h : m ∈ l) (h2 : ∀ y ∈ l, m ≤ y) : m = Kv190.least l := by
  obtain ⟨g1, g2⟩ := least_mem (List.length_pos_of_mem h)
  exact Int.le_antisymm (h2 _ g1) (g2 m h)
theorem greatest_same {l k : List Int} (h : 0 < l.length) (e : ∀ y, y ∈ l ↔ y ∈ k) : Kv190.greatest l = Kv190.greatest k := by
  obtain ⟨g1, g2⟩ := greatest_mem h
  exact greatest_eq ((e _).mp g1) fun y hy => g2 y ((e y).mpr hy)
theorem least_same {l k : List Int} (h : 0 < l.length) (e : ∀ y, y ∈ l ↔ y ∈ k) : Kv190.least l = Kv190.least k := by
  obtain ⟨g1, g2⟩ := least_mem h
  exact least_eq ((e _).mp g1) fun y hy => g2 y ((e y).mpr hy)
theorem mem_smooths (a : Kv190.Abs) (y : Int) : y ∈ ((List.range 32).map fun j => Kv190.smooth a.l (31 - j)) ↔ y ∈ a.smooths := by
  unfold Kv190.Abs.smooths
  show _ ↔ y ∈ (List.range 32).map _
  rw [List.mem_map, List.mem_map]
  constructor
  · rintro ⟨j, hj, rfl⟩
    rw [List.mem_range] at hj
    exact ⟨31 - j, by rw [List.mem_range]; omega, rfl⟩
  · rintro ⟨j, hj, rfl⟩
    rw [List.mem_range] at hj
    exact ⟨31 - j, by rw [List.mem_range]; omega, by rw [show 31 - (31 - j) = j by omega]⟩
/-! ### the mirror of the program -/
structure M where
  begun : Bool
  zero : Int
  span : Int
  most : Int
  window : Int
  latest : List Int
def M.fresh : M := ⟨false, 0, 0, 0, 0, []⟩
def fit (zero span most window : Int) : Bool :=
  if decide (-4194304 ≤ zero ∧ zero ≤ 4194304) = true then if decide (1000 ≤ span ∧ span ≤ 8388608) = true then if decide (100 ≤ most ∧ most ≤ 100000) = true then decide (1 ≤ window ∧ window ≤ 1048576) else false else false else false
def are (l : List Int) : Bool := l.all Kv190.isReading
def weight (smooth zero span most : Int) : Int := ((smooth - 1024 * zero) * most + 512 * span) / (1024 * span)
def bit (b : Bool) : Int := if b then 1 else 0
def M.smooths (m : M) : List Int := box (box m.latest)
def M.w (m : M) : Int := weight (m.smooths.getD (m.smooths.length - 1) 0) m.zero m.span m.most
def M.told (m : M) : List Int :=
  if m.latest.length < 94 then [0, 0, 0, 0, 0] else
    [m.w, 1, bit (decide (Kv190.greatest m.smooths - Kv190.least m.smooths ≤ 1024 * m.window)), bit (decide (m.w < -20)), bit (decide (m.most + 9 < m.w))]
def M.put (m : M) (r : List Int) : M := { m with latest := last94 (m.latest ++ r) }
def M.start (m : M) (zero span most window : Int) : M × List Int := if fit zero span most window = true then (⟨true, zero, span, most, window, []⟩, [0]) else (m, [-22])
def M.feed (m : M) (r : List Int) : M × List Int := if m.begun = false then (m, [-11]) else if 1024 < r.length ∨ are r = false then (m, [-22]) else (m.put r, 0 :: (m.put r).told)
/-! ### the mirror against the specification -/
def RelS : Kv190.State → M → Prop
  | none, m => m.begun = false ∧ m.latest = []
  | some a, m => m.begun = true ∧ m.zero = a.set.zero ∧ m.span = (a.set.span : Int) ∧ m.most = (a.set.most : Int) ∧ m.window = (a.set.window : Int) ∧ a.set.right = true ∧ m.latest = last94 a.l ∧ ∀ x ∈ a.l, Kv190.isReading x = true
theorem bit_is (b : Bool) : Kv190Script.flag b = bit b := rfl
theorem weight_is (s : Kv190.Set_) (y : Int) : Kv190.weightOf s y = weight y s.zero s.span s.most := by
  unfold Kv190.weightOf weight
  show (2 * ((y - 1024 * s.zero) * s.most) + 1024 * s.span) / (2 * (1024 * s.span)) = _
  rw [show 2 * ((y - 1024 * s.zero) * (s.most : Int)) + 1024 * (s.span : Int) = 2 * ((y - 1024 * s.zero) * (s.most : Int) + 512 * (s.span : Int)) by omega]
  exact Int.mul_ediv_mul_of_pos _ _ (by decide)
theorem told_is {a : Kv190.Abs} {m : M} (h : RelS (some a) m) : m.told = [a.told.weight, Kv190Script.flag a.told.ready, Kv190Script.flag a.told.still, Kv190Script.flag a.told.under, Kv190Script.flag a.told.over] := by
  obtain ⟨_, hz, hs, hm, hw, _, hl, _⟩ := h
  by_cases c : a.l.length < 94
  · have c' : m.latest.length < 94 := by
      rw [hl, last94_length]
      omega
    unfold M.told Kv190.Abs.told
    rw [if_pos c', if_pos (show a.l.length < Kv190.TAPS + Kv190.STILL - 1 from c)]
    rfl
  · have c' : ¬ m.latest.length < 94 := by
      rw [hl, last94_length]
      omega
    have es : m.smooths = (List.range 32).map fun j => Kv190.smooth a.l (31 - j) := by
      unfold M.smooths
      rw [hl, smooths_is (by omega)]
    have ew : m.w = Kv190.weightOf a.set (Kv190.smooth a.l 0) := by
      unfold M.w
      rw [weight_is, es, hz, hs, hm]
      congr 1
    have eg : Kv190.greatest m.smooths = Kv190.greatest a.smooths := by
      rw [es]
      exact greatest_same (by simp) (mem_smooths a)
    have el : Kv190.least m.smooths = Kv190.least a.smooths := by
      rw [es]
      exact least_same (by simp) (mem_smooths a)
    unfold M.told Kv190.Abs.told
    rw [if_neg c', if_neg (show ¬ a.l.length < Kv190.TAPS + Kv190.STILL - 1 from c), ew, eg, el, hw, hm]
    rfl
theorem fit_is (zero : Int) {span most window : Int} (h1 : 0 ≤ span) (h2 : 0 ≤ most) (h3 : 0 ≤ window) : (Kv190.Set_.mk zero span.toNat most.toNat window.toNat).right = fit zero span most window := by
  unfold Kv190.Set_.right fit
  simp only
  by_cases c1 : -4194304 ≤ zero ∧ zero ≤ 4194304
  · by_cases c2 : 1000 ≤ span ∧ span ≤ 8388608
    · by_cases c3 : 100 ≤ most ∧ most ≤ 100000
      · by_cases c4 : 1 ≤ window ∧ window ≤ 1048576
        · simp [c1, c2, c3, c4]
          omega
        · simp [c1, c2, c3, c4]
          omega
      · simp [c1, c2, c3]
        omega
    · simp [c1, c2]
      omega
  · simp [c1]
theorem step_start {s : Kv190.State} {m : M} (h : RelS s m) (z : Int) {sp mo w : Int} (h1 : 0 ≤ sp) (h2 : 0 ≤ mo) (h3 : 0 ≤ w) :
    RelS (Kv190Neutral.step s [[0, z, sp, mo, w]]).1 (m.start z sp mo w).1 ∧ (Kv190Neutral.step s [[0, z, sp, mo, w]]).2 = (m.start z sp mo w).2 := by
  have e : Kv190Neutral.step s [[0, z, sp, mo, w]] = ((Kv190.act s (.start ⟨z, sp.toNat, mo.toNat, w.toNat⟩)).1, Kv190Neutral.row (Kv190Script.say (Kv190.act s (.start ⟨z, sp.toNat, mo.toNat, w.toNat⟩)).2)) := by
    cases s <;> rfl
  rw [e]
  unfold M.start
  have ea : Kv190.act s (.start ⟨z, sp.toNat, mo.toNat, w.toNat⟩) = if (Kv190.Set_.mk z sp.toNat mo.toNat w.toNat).right = true then (some ⟨⟨z, sp.toNat, mo.toNat, w.toNat⟩, []⟩, ⟨0, none⟩) else (s, ⟨-22, none⟩) := rfl
  rw [ea]
  have f := fit_is z h1 h2 h3
  by_cases c : fit z sp mo w = true
  · rw [if_pos c, if_pos (f.trans c)]
    refine ⟨⟨rfl, rfl, ?_, ?_, ?_, f.trans c, rfl, fun x hx => by simp at hx⟩, rfl⟩
    · show sp = (sp.toNat : Int)
      omega
    · show mo = (mo.toNat : Int)
      omega
    · show w = (w.toNat : Int)
      omega
  · rw [if_neg c, if_neg (by rw [f]; exact c)]
    exact ⟨h, rfl⟩
theorem last94_put (a r : List Int) : last94 (last94 a ++ r) = last94 (a ++ r) := by
  unfold last94
  have e : a.drop (a.length - 94) ++ r = (a ++ r).drop (a.length - 94) := by
    rw [List.drop_append_of_le_length (by omega)]
  have n : a.length - 94 + ((a ++ r).drop (a.length - 94)).length - 94 = (a ++ r).length - 94 := by
    rw [List.length_drop, List.length_append]
    omega
  rw [e, List.drop_drop, show a.length - 94 + (((a ++ r).drop (a.length - 94)).length - 94) = (a ++ r).length - 94 by rw [List.length_drop, List.length_append]; omega]
theorem put_rel {a : Kv190.Abs} {m : M} (h : RelS (some a) m) {r : List Int} (hr : are r = true) : RelS (some { a with l := a.l ++ r }) (m.put r) := by
  obtain ⟨h1, h2, h3, h4, h5, h6, h7, h8⟩ := h
  refine ⟨h1, h2, h3, h4, h5, h6, ?_, fun x hx => ?_⟩
  · show last94 (m.latest ++ r) = last94 (a.l ++ r)
    rw [h7, last94_put]
  · rcases List.mem_append.mp hx with q | q
    · exact h8 x q
    · exact List.all_eq_true.mp hr x q
theorem step_feed {s : Kv190.State} {m : M} (h : RelS s m) (r : List Int) :
    RelS (Kv190Neutral.step s [[1], r]).1 (m.feed r).1 ∧ (Kv190Neutral.step s [[1], r]).2 = (m.feed r).2 := by
  unfold M.feed
  cases s with
  | none =>
    rw [if_pos h.1]
    exact ⟨h, rfl⟩
  | some a =>
    rw [if_neg (by rw [h.1]; decide)]
    have e : Kv190Neutral.step (some a) [[1], r] = ((Kv190.act (some a) (.feed (if r.length ≤ Kv190.MANY then some r else none))).1, Kv190Neutral.row (Kv190Script.say (Kv190.act (some a) (.feed (if r.length ≤ Kv190.MANY then some r else none))).2)) := rfl
    rw [e]
    by_cases c : r.length ≤ Kv190.MANY
    · rw [if_pos c]
      have c' : r.length ≤ 1024 := c
      by_cases d : are r = true
      · have d' : r.all Kv190.isReading = true := d
        rw [if_neg (by rintro (q | q); · omega
                       · rw [d] at q; cases q)]
        have ea : Kv190.act (some a) (.feed (some r)) = (some { a with l := a.l ++ r }, ⟨0, some (Kv190.Abs.told { a with l := a.l ++ r })⟩) := if_pos d'
        rw [ea]
        have q := put_rel h d
        refine ⟨q, ?_⟩
        rw [told_is q]
        rfl
      · have d' : ¬ r.all Kv190.isReading = true := d
        rw [if_pos (.inr (by simpa using d))]
        have ea : Kv190.act (some a) (.feed (some r)) = (some a, ⟨-22, none⟩) := if_neg d'
        rw [ea]
        exact ⟨h, rfl⟩
    · have c' : ¬ r.length ≤ 1024 := c
      rw [if_neg c, if_pos (.inl (by omega))]
      exact ⟨h, rfl⟩
end Sw
namespace Sw
/-! ### bounds -/
theorem sum_bound {B : Int} (hB : 0 ≤ B) : ∀ (l : List Int) (n : Nat), l.length ≤ n → (∀ x ∈ l, -B ≤ x ∧ x ≤ B) → -((n : Int) * B) ≤ l.sum ∧ l.sum ≤ (n : Int) * B
  | [], n, _, _ => by
    have h : 0 ≤ (n : Int) * B := Int.mul_nonneg (by omega) hB
    rw [List.sum_nil]
    omega
  | x :: r, 0, h, _ => by simp at h
  | x :: r, n + 1, h, hx => by
    obtain ⟨h1, h2⟩ := sum_bound hB r n (by simpa using h) fun y hy => hx y (List.mem_cons_of_mem _ hy)
    obtain ⟨h3, h4⟩ := hx x List.mem_cons_self
    have e : ((n + 1 : Nat) : Int) * B = (n : Int) * B + B := by
      rw [Int.natCast_add, Int.add_mul]
      simp
    rw [List.sum_cons, e]
    omega
theorem box_bound {B : Int} (hB : 0 ≤ B) {l : List Int} (h : ∀ x ∈ l, -B ≤ x ∧ x ≤ B) : ∀ y ∈ box l, -(32 * B) ≤ y ∧ y ≤ 32 * B := by
  intro y hy
  unfold box at hy
  rw [List.mem_map] at hy
  obtain ⟨i, _, rfl⟩ := hy
  exact sum_bound hB _ 32 (by rw [List.length_take]; omega) fun x hx => h x (List.mem_of_mem_drop (List.mem_of_mem_take hx))
structure Ok (m : M) : Prop where
  len : m.latest.length ≤ 94
  rd : ∀ x ∈ m.latest, -8388608 ≤ x ∧ x ≤ 8388608
  set : m.begun = true → (-4194304 ≤ m.zero ∧ m.zero ≤ 4194304) ∧ (1000 ≤ m.span ∧ m.span ≤ 8388608) ∧ (100 ≤ m.most ∧ m.most ≤ 100000) ∧ (1 ≤ m.window ∧ m.window ≤ 1048576)
theorem ok_of : ∀ {s : Kv190.State} {m : M}, RelS s m → Ok m
  | none, m, h => ⟨by rw [h.2]; decide, by rw [h.2]; simp, fun q => by rw [h.1] at q; cases q⟩
  | some a, m, h => by
    obtain ⟨h1, h2, h3, h4, h5, h6, h7, h8⟩ := h
    refine ⟨?_, fun x hx => ?_, fun _ => ?_⟩
    · rw [h7, last94_length]
      omega
    · rw [h7] at hx
      have q := h8 x (List.mem_of_mem_drop hx)
      unfold Kv190.isReading at q
      simp only [Bool.and_eq_true, decide_eq_true_eq] at q
      omega
    · unfold Kv190.Set_.right at h6
      simp only [Bool.and_eq_true, decide_eq_true_eq] at h6
      omega
theorem smooths_bound {m : M} (h : Ok m) : ∀ y ∈ m.smooths, -8589934592 ≤ y ∧ y ≤ 8589934592 := by
  intro y hy
  have q := box_bound (B := 268435456) (by decide) (l := box m.latest) (fun x hx => box_bound (B := 8388608) (by decide) h.rd x hx) y hy
  omega
theorem told_length (m : M) : m.told.length = 5 := by
  unfold M.told
  split <;> rfl
theorem start_length (m : M) (z sp mo w : Int) : (m.start z sp mo w).2.length ≤ 6 := by
  unfold M.start
  split <;> simp
theorem feed_length (m : M) (r : List Int) : (m.feed r).2.length ≤ 6 := by
  unfold M.feed
  split
  · simp
  · split
    · simp
    · simp [told_length]
/-! ### where the walk stands: i numbers are read, out is given -/
structure At (ns : List Int) (i : Nat) (m : M) (out : List Int) (s : Kv190.State) (f : Nat) (cs : List (List (List Int))) : Prop where
  cut : PyFlat.calls PyKv190.shape f (ns.drop i) = some cs
  rel : RelS s m
  fits : Kv190Neutral.fitFrom s cs = true
  due : PyKv190.answers ns = out ++ PyFlat.told (PyFlat.played Kv190Neutral.step s cs)
  room : out.length + 7 * cs.length ≤ 1792
  inn : i ≤ ns.length
def Here (ns : List Int) (i : Nat) (m : M) (out : List Int) : Prop := ∃ s f cs, At ns i m out s f cs
theorem whole_id (c : List (List Int)) : PyKv190.whole c = c := by
  unfold PyKv190.whole
  split <;> rfl
theorem wholes_id (cs : List (List (List Int))) : cs.map PyKv190.whole = cs := by
  rw [show PyKv190.whole = id from funext whole_id, List.map_id]
theorem here_first {ns : List Int} (h : PyKv190.answers_asked ns = true) : Here ns 0 M.fresh [] := by
  unfold PyKv190.answers_asked at h
  cases e : PyFlat.calls PyKv190.shape ns.length ns with
  | none =>
    rw [e] at h
    cases h
  | some raw =>
    rw [e] at h
    simp only [Bool.and_eq_true] at h
    obtain ⟨⟨⟨⟨_, h2⟩, _⟩, h4⟩, _⟩ := h
    rw [wholes_id] at h4
    unfold Kv190Neutral.asked at h4
    rw [Bool.and_eq_true] at h4
    refine ⟨none, ns.length, raw, ⟨e, ⟨rfl, rfl⟩, h4.2, ?_, ?_, Nat.zero_le _⟩⟩
    · unfold PyKv190.answers PyKv190.calls
      rw [e]
      simp only [wholes_id]
      rfl
    · have q := of_decide_eq_true h4.1
      simp only [List.length_nil]
      omega
theorem here_last {ns : List Int} {m : M} {out : List Int} (h : Here ns ns.length m out) : PyKv190.answers ns = out := by
  obtain ⟨s, f, cs, hh⟩ := h
  have c := hh.cut
  rw [List.drop_length] at c
  have e : cs = [] := by
    unfold PyFlat.calls at c
    exact (Option.some.inj c).symm
  rw [hh.due, e]
  show out ++ [] = out
  rw [List.append_nil]
theorem row_cons (n : Int) (r : List Int) : PyFlat.row (n :: r) = if 0 ≤ n ∧ n.toNat ≤ r.length then some (r.take n.toNat, r.drop n.toNat) else none := rfl
/-- what the list has at i, where something is left -/
theorem parse {ns : List Int} {i f : Nat} {cs : List (List (List Int))} (hi : i < ns.length) (h : PyFlat.calls PyKv190.shape f (ns.drop i) = some cs) :
    (∃ z sp mo w f' cs', ns[i]? = some 0 ∧ ns[i + 1]? = some z ∧ ns[i + 2]? = some sp ∧ ns[i + 3]? = some mo ∧ ns[i + 4]? = some w ∧ i + 5 ≤ ns.length ∧ cs = [[0, z, sp, mo, w]] :: cs' ∧ PyFlat.calls PyKv190.shape f' (ns.drop (i + 5)) = some cs')
    ∨ (∃ (n : Nat) (f' : Nat) (cs' : List (List (List Int))), ns[i]? = some 1 ∧ ns[i + 1]? = some (n : Int) ∧ i + 2 + n ≤ ns.length ∧ cs = [[1], (ns.drop (i + 2)).take n] :: cs' ∧ PyFlat.calls PyKv190.shape f' (ns.drop (i + 2 + n)) = some cs') := by
  have e0 : ns.drop i = ns[i] :: ns.drop (i + 1) := List.drop_eq_getElem_cons hi
  cases f with
  | zero =>
    rw [e0] at h
    cases h
  | succ f =>
    rw [e0] at h
    unfold PyFlat.calls PyFlat.call at h
    by_cases p0 : ns[i] = 0
    · have es : PyKv190.shape ns[i] = some (4, 0) := by
        rw [p0]
        rfl
      simp only [es] at h
      by_cases c : (ns.drop (i + 1)).length < 4
      · rw [if_pos c] at h
        cases h
      · rw [if_neg c] at h
        rw [List.length_drop] at c
        have t : (ns.drop (i + 1)).take 4 = [ns[i + 1]'(by omega), ns[i + 2]'(by omega), ns[i + 3]'(by omega), ns[i + 4]'(by omega)] := by
          rw [List.drop_eq_getElem_cons (by omega : i + 1 < ns.length), List.drop_eq_getElem_cons (by omega : i + 1 + 1 < ns.length), List.drop_eq_getElem_cons (by omega : i + 1 + 1 + 1 < ns.length), List.drop_eq_getElem_cons (by omega : i + 1 + 1 + 1 + 1 < ns.length)]
          rfl
        simp only [PyFlat.rows, t, List.drop_drop] at h
        cases q : PyFlat.calls PyKv190.shape f (ns.drop (i + 1 + 4)) with
        | none =>
          rw [q] at h
          cases h
        | some cs' =>
          rw [q] at h
          refine .inl ⟨_, _, _, _, f, cs', ?_, List.getElem?_eq_getElem (by omega), List.getElem?_eq_getElem (by omega), List.getElem?_eq_getElem (by omega), List.getElem?_eq_getElem (by omega), by omega, ?_, q⟩
          · rw [List.getElem?_eq_getElem hi, p0]
          · rw [← Option.some.inj h, p0]
    · by_cases p1 : ns[i] = 1
      · have es : PyKv190.shape ns[i] = some (0, 1) := by
          rw [p1]
          rfl
        simp only [es, Nat.not_lt_zero, if_false, List.drop_zero, List.take_zero] at h
        cases hr : PyFlat.row (ns.drop (i + 1)) with
        | none =>
          simp only [PyFlat.rows, hr] at h
          cases h
        | some x =>
          simp only [PyFlat.rows, hr] at h
          by_cases c : i + 1 < ns.length
          · rw [List.drop_eq_getElem_cons c, row_cons] at hr
            by_cases d : 0 ≤ ns[i + 1] ∧ ns[i + 1].toNat ≤ (ns.drop (i + 1 + 1)).length
            · rw [if_pos d] at hr
              have ex := (Option.some.inj hr).symm
              subst ex
              obtain ⟨d1, d2⟩ := d
              rw [List.length_drop] at d2
              simp only [List.drop_drop] at h
              cases q : PyFlat.calls PyKv190.shape f (ns.drop (i + 1 + 1 + ns[i + 1].toNat)) with
              | none =>
                rw [q] at h
                cases h
              | some cs' =>
                rw [q] at h
                refine .inr ⟨ns[i + 1].toNat, f, cs', ?_, ?_, by omega, ?_, q⟩
                · rw [List.getElem?_eq_getElem hi, p1]
                · rw [List.getElem?_eq_getElem c, Int.toNat_of_nonneg d1]
                · rw [← Option.some.inj h, p1]
            · rw [if_neg d] at hr
              cases hr
          · rw [List.drop_eq_nil_of_le (by omega)] at hr
            cases hr
      · have es : PyKv190.shape ns[i] = none := by
          unfold PyKv190.shape
          rw [if_neg p0, if_neg p1]
        simp only [es] at h
        cases h
theorem asked_start {s : Kv190.State} {z sp mo w : Int} {cs : List (List (List Int))} (h : Kv190Neutral.fitFrom s ([[0, z, sp, mo, w]] :: cs) = true) :
    (0 ≤ sp ∧ 0 ≤ mo ∧ 0 ≤ w) ∧ Kv190Neutral.fitFrom (Kv190Neutral.step s [[0, z, sp, mo, w]]).1 cs = true := by
  unfold Kv190Neutral.fitFrom at h
  simp only [Bool.and_eq_true] at h
  obtain ⟨⟨h1, _⟩, h3⟩ := h
  refine ⟨?_, h3⟩
  unfold Kv190Neutral.askedOne at h1
  simp only [Bool.and_eq_true] at h1
  have q := h1.1.1.1
  have q2 : (((Kv190Neutral.whole32 z && Kv190Neutral.natural sp 32) && Kv190Neutral.natural mo 32) && Kv190Neutral.natural w 32) = true := q
  unfold Kv190Neutral.natural at q2
  simp only [Bool.and_eq_true, decide_eq_true_eq] at q2
  omega
theorem asked_feed {s : Kv190.State} {r : List Int} {cs : List (List (List Int))} (h : Kv190Neutral.fitFrom s ([[1], r] :: cs) = true) :
    Kv190Neutral.fitFrom (Kv190Neutral.step s [[1], r]).1 cs = true := by
  unfold Kv190Neutral.fitFrom at h
  simp only [Bool.and_eq_true] at h
  exact h.2
/-- one answer: its length, then its numbers -/
def counted (l : List Int) : List Int := (l.length : Int) :: l
theorem due_more {out ans : List Int} {s : Kv190.State} {c : List (List Int)} {cs : List (List (List Int))} (e : (Kv190Neutral.step s c).2 = ans) :
    out ++ PyFlat.told (PyFlat.played Kv190Neutral.step s (c :: cs)) = (out ++ counted ans) ++ PyFlat.told (PyFlat.played Kv190Neutral.step (Kv190Neutral.step s c).1 cs) := by
  show out ++ (((((Kv190Neutral.step s c).2).length : Int) :: (Kv190Neutral.step s c).2) ++ PyFlat.told (PyFlat.played Kv190Neutral.step (Kv190Neutral.step s c).1 cs)) = _
  rw [e, List.append_assoc]
  rfl
theorem here_more {ns : List Int} {i : Nat} {m : M} {out : List Int} (hi : i < ns.length) (h : Here ns i m out) : Ok m ∧ out.length < 1792 ∧
    ((∃ z sp mo w, ns[i]? = some 0 ∧ ns[i + 1]? = some z ∧ ns[i + 2]? = some sp ∧ ns[i + 3]? = some mo ∧ ns[i + 4]? = some w ∧ Here ns (i + 5) (m.start z sp mo w).1 (out ++ counted (m.start z sp mo w).2))
    ∨ (∃ n : Nat, ns[i]? = some 1 ∧ ns[i + 1]? = some (n : Int) ∧ i + 2 + n ≤ ns.length ∧ Here ns (i + 2 + n) (m.feed ((ns.drop (i + 2)).take n)).1 (out ++ counted (m.feed ((ns.drop (i + 2)).take n)).2))) := by
  obtain ⟨s, f, cs, hh⟩ := h
  refine ⟨ok_of hh.rel, ?_⟩
  rcases parse hi hh.cut with ⟨z, sp, mo, w, f', cs', g0, g1, g2, g3, g4, g5, ec, q⟩ | ⟨n, f', cs', g0, g1, g2, ec, q⟩
  · subst ec
    have room := hh.room
    rw [List.length_cons] at room
    obtain ⟨⟨b1, b2, b3⟩, b4⟩ := asked_start hh.fits
    obtain ⟨r1, r2⟩ := step_start hh.rel z b1 b2 b3
    refine ⟨by omega, .inl ⟨z, sp, mo, w, g0, g1, g2, g3, g4, _, f', cs', ⟨q, r1, b4, ?_, ?_, g5⟩⟩⟩
    · rw [hh.due]
      exact due_more r2
    · have k := start_length m z sp mo w
      rw [List.length_append]
      unfold counted
      rw [List.length_cons]
      omega
  · subst ec
    have room := hh.room
    rw [List.length_cons] at room
    have b4 := asked_feed hh.fits
    obtain ⟨r1, r2⟩ := step_feed hh.rel ((ns.drop (i + 2)).take n)
    refine ⟨by omega, .inr ⟨n, g0, g1, g2, _, f', cs', ⟨q, r1, b4, ?_, ?_, g2⟩⟩⟩
    · rw [hh.due]
      exact due_more r2
    · have k := feed_length m ((ns.drop (i + 2)).take n)
      rw [List.length_append]
      unfold counted
      rw [List.length_cons]
      omega
theorem here_ok {ns : List Int} {i : Nat} {m : M} {out : List Int} (h : Here ns i m out) : Ok m := by
  obtain ⟨s, f, cs, hh⟩ := h
  exact ok_of hh.rel
theorem here_in {ns : List Int} {i : Nat} {m : M} {out : List Int} (h : Here ns i m out) : i ≤ ns.length := by
  obtain ⟨s, f, cs, hh⟩ := h
  exact hh.inn
end Sw
set_option linter.all false
set_option maxRecDepth 100000
set_option maxHeartbeats 2000000
namespace Sw
open PySem PySem.Spec PyProof.Rows L2
open PySem.W (Codec)
/-! ### the heap -/
def jF (m : M) (b : Addr) : List (Str × V) := [("begun", .bl m.begun), ("zero", .int m.zero), ("span", .int m.span), ("most", .int m.most), ("window", .int m.window), ("latest", .ref b)]
def ScaleAt (C : Addr) (H : Hp) (a b : Addr) (m : M) : Prop := ∃ dx, H a = some (.ins C dx (jF m b)) ∧ H b = some (.lst (m.latest.map V.int))
theorem lk_here {k : Str} {v : V} {r : List (Str × V)} : List.lookup k ((k, v) :: r) = some v := by
  have e : (k == k) = true := beq_self_eq_true k
  simp only [List.lookup, e]
theorem lk_past {k g : Str} {v : V} {r : List (Str × V)} (h : (k == g) = false) : List.lookup k ((g, v) :: r) = List.lookup k r := by
  simp only [List.lookup, h]
theorem put_new {f : Str} {v : V} : putF f v [] = [(f, v)] := rfl
theorem put_here {f : Str} {v x : V} {r : List (Str × V)} : putF f v ((f, x) :: r) = (f, v) :: r := if_pos rfl
theorem put_past {f g : Str} {v x : V} {r : List (Str × V)} (h : ¬ g = f) : putF f v ((g, x) :: r) = (g, x) :: putF f v r := if_neg h
theorem j_begun (m : M) (b : Addr) : (jF m b).lookup ("begun" : Str) = some (.bl m.begun) := lk_here
theorem j_zero (m : M) (b : Addr) : (jF m b).lookup ("zero" : Str) = some (.int m.zero) := (lk_past (by decide +kernel)).trans lk_here
theorem j_span (m : M) (b : Addr) : (jF m b).lookup ("span" : Str) = some (.int m.span) := (lk_past (by decide +kernel)).trans ((lk_past (by decide +kernel)).trans lk_here)
theorem j_most (m : M) (b : Addr) : (jF m b).lookup ("most" : Str) = some (.int m.most) := (lk_past (by decide +kernel)).trans ((lk_past (by decide +kernel)).trans ((lk_past (by decide +kernel)).trans lk_here))
theorem j_window (m : M) (b : Addr) : (jF m b).lookup ("window" : Str) = some (.int m.window) := (lk_past (by decide +kernel)).trans ((lk_past (by decide +kernel)).trans ((lk_past (by decide +kernel)).trans ((lk_past (by decide +kernel)).trans lk_here)))
theorem j_latest (m : M) (b : Addr) : (jF m b).lookup ("latest" : Str) = some (.ref b) := (lk_past (by decide +kernel)).trans ((lk_past (by decide +kernel)).trans ((lk_past (by decide +kernel)).trans ((lk_past (by decide +kernel)).trans ((lk_past (by decide +kernel)).trans lk_here))))
theorem j_none {k : Str} (m : M) (b : Addr) (h : (k == "begun") = false ∧ (k == "zero") = false ∧ (k == "span") = false ∧ (k == "most") = false ∧ (k == "window") = false ∧ (k == "latest") = false) : (jF m b).lookup k = none := by
  obtain ⟨h1, h2, h3, h4, h5, h6⟩ := h
  exact (lk_past h1).trans ((lk_past h2).trans ((lk_past h3).trans ((lk_past h4).trans ((lk_past h5).trans ((lk_past h6).trans rfl)))))
theorem j_fresh (b : Addr) : putF "latest" (.ref b) (putF "window" (.int 0) (putF "most" (.int 0) (putF "span" (.int 0) (putF "zero" (.int 0) (putF "begun" (.bl false) []))))) = jF M.fresh b := by
  simp (disch := decide +kernel) only [put_here, put_past, put_new]
  rfl
theorem j_start (m : M) (b0 b : Addr) (z sp mo w : Int) : putF "latest" (.ref b) (putF "window" (.int w) (putF "most" (.int mo) (putF "span" (.int sp) (putF "zero" (.int z) (putF "begun" (.bl true) (jF m b0)))))) = jF ⟨true, z, sp, mo, w, []⟩ b := by
  unfold jF
  simp (disch := decide +kernel) only [put_here, put_past, put_new]
theorem j_put (m : M) (b0 b : Addr) (r : List Int) : putF "latest" (.ref b) (jF m b0) = jF (m.put r) b := by
  unfold jF
  simp (disch := decide +kernel) only [put_here, put_past, put_new]
  rfl
theorem same_upd {H : Hp} {p : Addr} {o : HO} (h : H p = none) : Same H (upd H p o) := fun b x e => by
  rw [upd_ne (ne_of_none e h)]
  exact e
/-! ### tests -/
theorem if_true_of {c : Bool} {A B : Prop} (hc : c = true) (h : A) : if c = true then A else B := by
  rw [if_pos hc]
  exact h
theorem if_false_of {c : Bool} {A B : Prop} (hc : c = false) (h : B) : if c = true then A else B := by
  rw [hc, if_neg Bool.false_ne_true]
  exact h
theorem if_not {c : Bool} {A B : Prop} (h1 : c = false → A) (h2 : c = true → B) : if (!c) = true then A else B := by
  cases c with
  | false => exact if_true_of rfl (h1 rfl)
  | true => exact if_false_of rfl (h2 rfl)
def rLe : R2 := rI0 fun i j => .bl (decide (i ≤ j))
theorem chain_le {lo x hi : Int} {H : Hp} {Q : VK} (h : Q (.bl (decide (lo ≤ x ∧ x ≤ hi))) H) :
    rLe (.int lo) (.int x) H fun z H3 => ∃ k, z = .bl k ∧ if k = true then rLe (.int x) (.int hi) H3 Q else Q (.bl false) H3 := by
  refine ⟨lo, x, rfl, rfl, _, rfl, ?_⟩
  by_cases c : lo ≤ x
  · refine if_true_of (decide_eq_true c) ⟨x, hi, rfl, rfl, ?_⟩
    have e : decide (lo ≤ x ∧ x ≤ hi) = decide (x ≤ hi) := by simp [c]
    rw [e] at h
    exact h
  · refine if_false_of (decide_eq_false c) ?_
    have e : decide (lo ≤ x ∧ x ≤ hi) = false := by simp [c]
    rw [e] at h
    exact h
/-- a number of the file's top -/
theorem pe_gi {X : Cx} {x : Str} {i : Int} {t : Tok} {pos : Pos} (hg : Gl X x) (hm : X.mg x = some (.int i t)) (hd : (x == ("__debug__" : Str)) = false := by decide) : PE X (.Name x pos) (tC (.int i)) := pe_glob hg hm ⟨t, rfl⟩ hd
def rAdd : R2 := rI0 fun i j => .int (i + j)
/-! ### cuts -/
theorem cut_is {ns : List Int} {i n : Nat} (h : i + n ≤ ns.length) {a b : Int} (ha : a = (i : Int)) (hb : b = ((i + n : Nat) : Int)) : cutV (ns.map V.int) (some a) (some b) = ((ns.drop i).take n).map V.int := by
  subst ha hb
  unfold cutV
  rw [HT.sIx_nat, HT.sIx_nat, List.length_map, show min i ns.length = i by omega, show min (i + n) ns.length = i + n by omega, show i + n - i = n by omega, List.map_take, List.map_drop]
theorem cut_last (ns : List Int) : cutV (ns.map V.int) (some (-94)) none = (last94 ns).map V.int := by
  unfold cutV last94
  rw [HT.sIx_none, List.length_map]
  have e : HT.sIx ns.length 0 (some (-94)) = ns.length - 94 := by
    show (if (-94 : Int) < 0 then ((-94 : Int) + (ns.length : Int)).toNat else min (-94 : Int).toNat ns.length) = _
    rw [if_pos (by decide)]
    omega
  rw [e, List.map_drop, List.take_of_length_le]
  rw [List.length_drop, List.length_map]
  omega
theorem map_at {ns : List Int} {i : Nat} {y : V} (h : (ns.map V.int)[i]? = some y) : ∃ z, ns[i]? = some z ∧ y = V.int z := by
  rw [List.getElem?_map] at h
  cases e : ns[i]? with
  | none =>
    rw [e] at h
    cases h
  | some z =>
    rw [e] at h
    exact ⟨z, rfl, (Option.some.inj h).symm⟩
theorem at_map {ns : List Int} {i : Nat} {z : Int} (h : ns[i]? = some z) : (ns.map V.int)[i]? = some (.int z) := by
  rw [List.getElem?_map, h]
  rfl
theorem take_more {α : Type} : ∀ {l : List α} {i : Nat} {x : α}, l[i]? = some x → l.take (i + 1) = l.take i ++ [x]
  | [], i, x, h => by simp at h
  | a :: l, 0, x, h => by
    have e : a = x := Option.some.inj h
    subst e
    rfl
  | a :: l, i + 1, x, h => by
    have ih := take_more (l := l) (i := i) (x := x) h
    show a :: l.take (i + 1) = a :: l.take i ++ [x]
    rw [ih]
    rfl
/-! ### the promises -/
def spFit : Sp := fun vs H Q _ => ∃ z sp mo w : Int, vs = [.int z, .int sp, .int mo, .int w] ∧ Q (.bl (fit z sp mo w)) H
def spAre (K : PySem.W.Frag) : Sp := fun vs H Q _ => ∃ (a : Addr) (ns : List Int), vs = [.ref a] ∧ SqL K H a (ns.map V.int) ∧ Q (.bl (are ns)) H
def spBox (K : PySem.W.Frag) : Sp := fun vs H Q _ => ∃ (a : Addr) (ns : List Int), vs = [.ref a] ∧ SqL K H a (ns.map V.int) ∧ ns.length ≤ 100 ∧
  ∀ (H' : Hp) (p : Addr), Same H H' → H p = none → H' p = some (.lst ((box ns).map V.int)) → Q (.ref p) H'
def spSmo (K : PySem.W.Frag) : Sp := fun vs H Q _ => ∃ (a : Addr) (ns : List Int), vs = [.ref a] ∧ SqL K H a (ns.map V.int) ∧ ns.length ≤ 100 ∧
  ∀ (H' : Hp) (p : Addr), Same H H' → H p = none → H' p = some (.lst ((box (box ns)).map V.int)) → Q (.ref p) H'
def spWei : Sp := fun vs H Q _ => ∃ y z sp mo : Int, vs = [.int y, .int z, .int sp, .int mo] ∧ (-8589934592 ≤ y ∧ y ≤ 8589934592) ∧ (-4194304 ≤ z ∧ z ≤ 4194304) ∧ (1000 ≤ sp ∧ sp ≤ 8388608) ∧ (100 ≤ mo ∧ mo ≤ 100000) ∧ Q (.int (weight y z sp mo)) H
def spInit (C : Addr) : Sp := fun vs H Q _ => ∃ (p dx : Addr), vs = [.ref p] ∧ H p = some (.ins C dx []) ∧
  ∀ (H' : Hp) (b : Addr), ScaleAt C H' p b M.fresh → (∀ b o, H b = some o → b ≠ p → H' b = some o) → Q .non H'
def spStart (C : Addr) : Sp := fun vs H Q _ => ∃ (a b0 : Addr) (m : M) (z sp mo w : Int), vs = [.ref a, .int z, .int sp, .int mo, .int w] ∧ ScaleAt C H a b0 m ∧
  ∀ (H' : Hp) (p b : Addr), ScaleAt C H' a b (m.start z sp mo w).1 → (b = b0 ∨ H b = none) → (∀ c o, H c = some o → c ≠ a → H' c = some o) → H p = none → H' p = some (.lst ((m.start z sp mo w).2.map V.int)) → Q (.ref p) H'
def spTold (C : Addr) : Sp := fun vs H Q _ => ∃ (a b : Addr) (m : M), vs = [.ref a] ∧ ScaleAt C H a b m ∧ Ok m ∧ m.begun = true ∧
  ∀ (H' : Hp) (p : Addr), Same H H' → H p = none → H' p = some (.lst (m.told.map V.int)) → Q (.ref p) H'
def spFeed (C : Addr) : Sp := fun vs H Q _ => ∃ (a b0 q : Addr) (m : M) (r : List Int), vs = [.ref a, .ref q] ∧ ScaleAt C H a b0 m ∧ H q = some (.lst (r.map V.int)) ∧ Ok m ∧
  ∀ (H' : Hp) (p b : Addr), ScaleAt C H' a b (m.feed r).1 → (b = b0 ∨ H b = none) → (∀ c o, H c = some o → c ≠ a → H' c = some o) → H p = none → H' p = some (.lst ((m.feed r).2.map V.int)) → Q (.ref p) H'
def spAns (K : PySem.W.Frag) : Sp := fun vs H Q _ => ∃ (a : Addr) (ns : List Int), vs = [.ref a] ∧ SqL K H a (ns.map V.int) ∧ Here ns 0 M.fresh [] ∧
  ∀ (H' : Hp) (p : Addr), H' p = some (.lst ((PyKv190.answers ns).map V.int)) → Q (.ref p) H'
/-- what the top has written -/
structure Txt (K : PySem.W.Frag) (mg : Str → Option Value) (C : Addr) : Prop where
  cl : Cls K C
  nB : NoAttr K C "begun"
  nZ : NoAttr K C "zero"
  nS : NoAttr K C "span"
  nM : NoAttr K C "most"
  nW : NoAttr K C "window"
  nL : NoAttr K C "latest"
  gC : mg "Scale" = some (.ref C)
  gStart : ∃ t, mg "START" = some (.int 0 t)
  gNot : ∃ t, mg "NOT_BEGUN" = some (.int (-11) t)
  gOut : ∃ t, mg "OUT_OF_RANGE" = some (.int (-22) t)
  gLo : ∃ t, mg "LEAST_READING" = some (.int (-8388608) t)
  gHi : ∃ t, mg "GREATEST_READING" = some (.int 8388607 t)
  gLong : ∃ t, mg "LONGEST_FEED" = some (.int 1024 t)
  gRound : ∃ t, mg "ROUND" = some (.int 32 t)
  gReady : ∃ t, mg "READY_FROM" = some (.int 94 t)
  gBelow : ∃ t, mg "MOST_BELOW" = some (.int (-20) t)
  gAbove : ∃ t, mg "MOST_ABOVE" = some (.int 9 t)
  len : mg "len" = none
  range : mg "range" = none
  sum : mg "sum" = none
  max : mg "max" = none
  min : mg "min" = none
/-! ### the text -/
def top (i : Nat) : Stmt := PySem.Challenge.pw_steadyweight_s01_answers.main.body.getD i (.Pass ⟨0, 0, 0, 0⟩)
abbrev sFit : Stmt := top 11
abbrev sAre : Stmt := top 12
abbrev sBox : Stmt := top 13
abbrev sSmo : Stmt := top 14
abbrev sWei : Stmt := top 15
abbrev sInit : Stmt := inClass (top 16) 0
abbrev sStart : Stmt := inClass (top 16) 1
abbrev sFeed : Stmt := inClass (top 16) 2
abbrev sTold : Stmt := inClass (top 16) 3
abbrev sAns : Stmt := top 17
theorem scFit : FnScope ["zero", "span", "most", "window"] ["zero", "span", "most", "window"] (defScope sFit) := ⟨rfl, rfl, rfl, by decide +kernel, rfl, by decide +kernel, by decide +kernel⟩
theorem scAre : FnScope ["numbers", "number"] ["numbers"] (defScope sAre) := ⟨rfl, rfl, rfl, by decide +kernel, rfl, by decide +kernel, by decide +kernel⟩
theorem scBox : FnScope ["numbers", "first"] ["numbers"] (defScope sBox) := ⟨rfl, rfl, rfl, by decide +kernel, rfl, by decide +kernel, by decide +kernel⟩
theorem scSmo : FnScope ["readings"] ["readings"] (defScope sSmo) := ⟨rfl, rfl, rfl, by decide +kernel, rfl, by decide +kernel, by decide +kernel⟩
theorem scWei : FnScope ["smooth", "zero", "span", "most"] ["smooth", "zero", "span", "most"] (defScope sWei) := ⟨rfl, rfl, rfl, by decide +kernel, rfl, by decide +kernel, by decide +kernel⟩
theorem scInit : FnScope ["self"] ["self"] (defScope sInit) := ⟨rfl, rfl, rfl, by decide +kernel, rfl, by decide +kernel, by decide +kernel⟩
theorem scStart : FnScope ["self", "zero", "span", "most", "window"] ["self", "zero", "span", "most", "window"] (defScope sStart) := ⟨rfl, rfl, rfl, by decide +kernel, rfl, by decide +kernel, by decide +kernel⟩
theorem scFeed : FnScope ["self", "numbers"] ["self", "numbers"] (defScope sFeed) := ⟨rfl, rfl, rfl, by decide +kernel, rfl, by decide +kernel, by decide +kernel⟩
theorem scTold : FnScope ["self", "smooth", "weight", "still", "under", "over"] ["self"] (defScope sTold) := ⟨rfl, rfl, rfl, by decide +kernel, rfl, by decide +kernel, by decide +kernel⟩
theorem scAns : FnScope ["calls", "scale", "given", "at", "answer", "end"] ["calls"] (defScope sAns) := ⟨rfl, rfl, rfl, by decide +kernel, rfl, by decide +kernel, by decide +kernel⟩
end Sw
set_option linter.all false
set_option maxRecDepth 100000
set_option maxHeartbeats 2000000
namespace Sw
open PySem PySem.Spec PyProof.Rows L2
open PySem.W (Codec)
section
variable {P : Program} {w : World} {K : PySem.W.Frag} {mg : Str → Option Value} {base : Heap} {C : Addr}
/-! ### settings_fit -/
theorem fit_1 {z sp mo w : Int} (h : decide (-4194304 ≤ z ∧ z ≤ 4194304) = false) : fit z sp mo w = false := by
  unfold fit
  rw [h]
  rfl
theorem fit_2 {z sp mo w : Int} (h : decide (1000 ≤ sp ∧ sp ≤ 8388608) = false) : fit z sp mo w = false := by
  unfold fit
  rw [h]
  split <;> rfl
theorem fit_3 {z sp mo w : Int} (h : decide (100 ≤ mo ∧ mo ≤ 100000) = false) : fit z sp mo w = false := by
  unfold fit
  rw [h]
  split
  · split <;> rfl
  · rfl
theorem fit_4 {z sp mo w : Int} (h1 : decide (-4194304 ≤ z ∧ z ≤ 4194304) = true) (h2 : decide (1000 ≤ sp ∧ sp ≤ 8388608) = true) (h3 : decide (100 ≤ mo ∧ mo ≤ 100000) = true) : fit z sp mo w = decide (1 ≤ w ∧ w ≤ 1048576) := by
  unfold fit
  rw [h1, h2, h3, if_pos rfl, if_pos rfl, if_pos rfl]
theorem ok_fit {f : Addr} {fd : FuncData} (F : Fun K "settings_fit" "settings_fit" sFit f fd) : FnOk P w K mg base CX0 1 f fd ["zero", "span", "most", "window"] spFit := by
  refine F.ok scFit (fun vs H Q E h => ?_) (fun cdv A outer s H vs Q E hr h => ?_)
  · obtain ⟨z, sp, mo, w, rfl, _⟩ := h
    rfl
  · obtain ⟨z, sp, mo, w, rfl, q⟩ := h
    refine ⟨_, pss_cons (ps_if (pt_not (pt_chain op_le op_le (pe_un un_neg pe_int) (pv 0) pe_int)) (pss_one (ps_ret pe_bl)) pss_nil)
      (pss_cons (ps_if (pt_not (pt_chain op_le op_le pe_int (pv 1) pe_int)) (pss_one (ps_ret pe_bl)) pss_nil)
      (pss_cons (ps_if (pt_not (pt_chain op_le op_le pe_int (pv 2) pe_int)) (pss_one (ps_ret pe_bl)) pss_nil)
      (pss_one (ps_ret (pe_chain op_le op_le pe_int (pv 3) pe_int))))), ?_⟩
    refine ⟨_, rfl, _, rfl, chain_le ⟨_, rfl, if_not (fun c1 => ?_) (fun c1 => ?_)⟩⟩
    · show Q (.bl false) H
      rw [fit_1 c1] at q
      exact q
    · refine ⟨_, rfl, chain_le ⟨_, rfl, if_not (fun c2 => ?_) (fun c2 => ?_)⟩⟩
      · show Q (.bl false) H
        rw [fit_2 c2] at q
        exact q
      · refine ⟨_, rfl, chain_le ⟨_, rfl, if_not (fun c3 => ?_) (fun c3 => ?_)⟩⟩
        · show Q (.bl false) H
          rw [fit_3 c3] at q
          exact q
        · rw [fit_4 c1 c2 c3] at q
          exact ⟨_, rfl, chain_le q⟩
/-! ### are_readings -/
theorem ok_are {f : Addr} {fd : FuncData} (F : Fun K "are_readings" "are_readings" sAre f fd) (T : Txt K mg C) : FnOk P w K mg base CX0 1 f fd ["numbers"] (spAre K) := by
  refine F.ok scAre (fun vs H Q E h => ?_) (fun cdv A outer s H vs Q E hr h => ?_)
  · obtain ⟨a, ns, rfl, _⟩ := h
    rfl
  · obtain ⟨a, ns, rfl, hS, q⟩ := h
    obtain ⟨t1, g1⟩ := T.gLo
    obtain ⟨t2, g2⟩ := T.gHi
    refine ⟨_, pss_cons (ps_for PassesOwn.never rfl (pi_list (pv 0)) (pg_name (i := 1) scAre.nd rfl (Or.inl rfl))
        (pss_one (ps_if (pt_not (pt_chain op_le op_le (pe_gi rfl g1) (pv 1) (pe_gi rfl g2))) (pss_one (ps_ret pe_bl)) pss_nil)))
      (pss_one (ps_ret pe_bl)), ?_⟩
    refine ⟨_, rfl, a, rfl, ⟨_, hS⟩, for_list (K := K) (a := a) (xs := ns.map V.int) (fun i σ H' => ∃ v : Option V, σ = [some (.ref a), v] ∧ H' = H ∧ are (ns.take i) = true)
      ⟨none, rfl, rfl, rfl⟩ (fun i σ H' _ ⟨_, _, e, _⟩ => by rw [e]; exact hS) ?_ ?_⟩
    · rintro i y σ H' hi ⟨v, rfl, rfl, hv⟩
      obtain ⟨x, hx, rfl⟩ := map_at hi
      refine ⟨_, rfl, chain_le ⟨_, rfl, if_not (fun c => ?_) (fun c => ?_)⟩⟩
      · show Q (.bl false) H'
        have e : are ns = false := by
          unfold are
          rw [List.all_eq_false]
          refine ⟨x, List.mem_of_getElem? hx, ?_⟩
          unfold Kv190.isReading
          have c' := of_decide_eq_false c
          simp only [Bool.and_eq_true, decide_eq_true_eq]
          exact c'
        rw [e] at q
        exact q
      · refine ⟨some (.int x), rfl, rfl, ?_⟩
        rw [take_more hx]
        unfold are at hv ⊢
        rw [List.all_append, hv]
        have c' := of_decide_eq_true c
        simp [Kv190.isReading, c']
    · rintro σ H' ⟨v, rfl, rfl, hv⟩
      rw [List.length_map, List.take_length] at hv
      show Q (.bl true) H'
      rw [hv] at q
      exact q
/-! ### sums_over_a_round -/
theorem ok_box {f : Addr} {fd : FuncData} (F : Fun K "sums_over_a_round" "sums_over_a_round" sBox f fd) (T : Txt K mg C) : FnOk P w K mg base CX0 1 f fd ["numbers"] (spBox K) := by
  refine F.ok scBox (fun vs H Q E h => ?_) (fun cdv A outer s H vs Q E hr h => ?_)
  · obtain ⟨a, ns, rfl, _⟩ := h
    rfl
  · obtain ⟨a, ns, rfl, hS, hlen, q⟩ := h
    obtain ⟨t1, g1⟩ := T.gRound
    refine ⟨_, pss_one (ps_ret (pe_lc (own := [("first", 1)]) (g := gName 1) (tt := tYes) (te := tCB (rSum K) (tCons (tSl (rSlL K) (tVar 0) (tPart (tVar 1)) (tPart (tOp rAdd (tVar 1) (tC (.int 32))))) tNil)) rfl scBox.nd
      (pi_range1 rfl T.range (pa_cons (pe_op op_add (pe_op op_sub (pe_callB call_len_seq (by rfl) T.len PySem.boot_len (pa_cons (pv 0) pa_nil)) (pe_gi rfl g1)) pe_int) pa_nil))
      (blkOk_by (own := [("first", 1)]) (N := ["numbers", "first"]) (sc := defScope sBox) (by decide +kernel)) (fun _ _ _ _ _ => pg_name (i := 1) scBox.nd rfl (Or.inl rfl)) (fun _ _ _ _ _ => pts_nil)
      (fun _ _ _ _ _ => pe_callB (cr_sum rfl) (by rfl) T.sum (by decide +kernel) (pa_cons (pe_slice sl_list (pv 0) (po_some (pv 1)) (po_some (pe_op op_add (pv 1) (pe_gi rfl g1)))) pa_nil)))), ?_⟩
    refine ⟨_, rfl, a, _, rfl, .inl hS, _, _, rfl, rfl, _, _, rfl, rfl, _, rfl, ?_, ?_, fun D nD => ?_⟩
    · rw [List.length_map]
      omega
    · rw [List.length_map]
      omega
    · have en : (((ns.map V.int).length : Int) - 32 + 1).toNat = ns.length - 31 := by
        rw [List.length_map]
        omega
      rw [en]
      refine lc_range (lo := 0) (n := ns.length - 31) (fun i H' => Same H H' ∧ H' D = some (.lst (((box ns).take i).map V.int))) ⟨same_upd nD, upd_same⟩ ?_ ?_
      · rintro i H' hi ⟨sm, hD⟩
        refine ⟨rfl, ?_⟩
        dsimp only [tYes]
        rw [if_pos rfl]
        refine ⟨.ref a, rfl, .int (0 + i), rfl, _, rfl, .int (0 + i), rfl, _, _, rfl, rfl, _, rfl, a, ns.map V.int, rfl, sm.seq hS, fun p np => ?_⟩
        have ec : cutV (ns.map V.int) (some (0 + (i : Int))) (some (0 + (i : Int) + 32)) = ((ns.drop i).take 32).map V.int := cut_is (by omega) (by omega) (by omega)
        have pD : D ≠ p := ne_of_none hD np
        refine ⟨p, (ns.drop i).take 32, rfl, .inl (.inl ?_), _, by rw [upd_ne pD]; exact hD, ?_, ?_, ?_⟩
        · rw [ec]
          exact upd_same
        · refine small1000 ?_
          rw [List.length_map, List.length_take, box_length]
          omega
        · intro b o e
          rw [upd_ne (ne_of_none e nD)]
          exact same_upd np b o (sm b o e)
        · rw [upd_same]
          have hx : (box ns)[i]? = some (((ns.drop i).take 32).sum) := by
            unfold box
            simp [hi]
          rw [take_more hx, List.map_append]
          rfl
      · rintro H' ⟨sm, hD⟩
        refine q H' D sm nD ?_
        rw [hD]
        have e : (box ns).take (ns.length - 31) = box ns := List.take_of_length_le (by rw [box_length]; exact Nat.le_refl _)
        rw [e]
end
end Sw
set_option linter.all false
set_option maxRecDepth 100000
set_option maxHeartbeats 2000000
namespace Sw
open PySem PySem.Spec PyProof.Rows L2
open PySem.W (Codec)
section
variable {P : Program} {w : World} {K : PySem.W.Frag} {mg : Str → Option Value} {base : Heap} {C : Addr}
/-! ### smooth_ones -/
theorem ok_smo {f fB : Addr} {fd fdB : FuncData} (F : Fun K "smooth_ones" "smooth_ones" sSmo f fd) (T : Txt K mg C) (FB : Fun K "sums_over_a_round" "sums_over_a_round" sBox fB fdB) (bB : Binds K fdB ["numbers"] []) (gB : mg "sums_over_a_round" = some (.ref fB)) :
    FnOk P w K mg base CX0 2 f fd ["readings"] (spSmo K) := by
  have GB : FnOk P w K mg base CX0 1 fB fdB ["numbers"] (spBox K) := ok_box FB T
  refine F.ok scSmo (fun vs H Q E h => ?_) (fun cdv A outer s H vs Q E hr h => ?_)
  · obtain ⟨a, ns, rfl, _⟩ := h
    rfl
  · obtain ⟨a, ns, rfl, hS, hlen, q⟩ := h
    refine ⟨_, pss_one (ps_ret (pe_call GB hr rfl gB FB.kp bB .nil pass0 (pa_cons (pe_call GB hr rfl gB FB.kp bB .nil pass0 (pa_cons (pv 0) pa_nil)) pa_nil))), ?_⟩
    refine ⟨_, rfl, a, ns, rfl, hS, hlen, fun H1 p s1 np h1 => ?_⟩
    refine ⟨p, box ns, rfl, .inl (.inl h1), by rw [box_length]; omega, fun H2 p2 s2 np2 h2 => ?_⟩
    exact q H2 p2 (s1.trans s2) (s1.free np2) h2
/-! ### weight_of -/
theorem ok_wei {f : Addr} {fd : FuncData} (F : Fun K "weight_of" "weight_of" sWei f fd) : FnOk P w K mg base CX0 1 f fd ["smooth", "zero", "span", "most"] spWei := by
  refine F.ok scWei (fun vs H Q E h => ?_) (fun cdv A outer s H vs Q E hr h => ?_)
  · obtain ⟨y, z, sp, mo, rfl, _⟩ := h
    rfl
  · obtain ⟨y, z, sp, mo, rfl, hy, hz, hs, hm, q⟩ := h
    refine ⟨_, pss_one (ps_ret (pe_op op_fdivW (pe_op op_add (pe_op op_mul (pe_op op_sub (pv 0) (pe_op op_mul pe_int (pv 1))) (pv 3)) (pe_op op_mul pe_int (pv 2))) (pe_op op_mul pe_int (pv 2)))), ?_⟩
    refine ⟨_, rfl, _, rfl, _, _, rfl, rfl, .inl (by decide), _, _, rfl, rfl, _, rfl, _, _, rfl, rfl, .inl ?_, _, rfl, _, _, rfl, rfl, .inl (by decide), _, _, rfl, rfl, _, rfl, _, _, rfl, rfl, .inl (by decide), _, _, rfl, rfl, ?_, q⟩
    · omega
    · exact wide_div (b := 34) (by omega) (by omega) (by decide) (by decide)
/-! ### the object's making -/
theorem ok_init {f : Addr} {fd : FuncData} (F : Fun K "__init__" "Scale.__init__" sInit f fd) (T : Txt K mg C) : FnOk P w K mg base CX0 1 f fd ["self"] (spInit C) := by
  refine F.ok scInit (fun vs H Q E h => ?_) (fun cdv A outer s H vs Q E hr h => ?_)
  · obtain ⟨p, dx, rfl, _⟩ := h
    rfl
  · obtain ⟨p, dx, rfl, hp, q⟩ := h
    refine ⟨_, pss_cons (ps_fld (pv 0) pe_bl rfl) (pss_cons (ps_fld (pv 0) pe_int rfl) (pss_cons (ps_fld (pv 0) pe_int rfl) (pss_cons (ps_fld (pv 0) pe_int rfl) (pss_cons (ps_fld (pv 0) pe_int rfl) (pss_one (ps_fld (pv 0) (pe_lst pa_nil) rfl)))))), ?_⟩
    refine ⟨_, rfl, p, C, dx, [], rfl, hp, T.cl, T.nB, (by show 0 < 1000; decide), ?_⟩
    refine ⟨_, rfl, p, C, dx, _, rfl, upd_same, T.cl, T.nZ, (by show 1 < 1000; decide), ?_⟩
    refine ⟨_, rfl, p, C, dx, _, rfl, upd_same, T.cl, T.nS, (by show 2 < 1000; decide), ?_⟩
    refine ⟨_, rfl, p, C, dx, _, rfl, upd_same, T.cl, T.nM, (by show 3 < 1000; decide), ?_⟩
    refine ⟨_, rfl, p, C, dx, _, rfl, upd_same, T.cl, T.nW, (by show 4 < 1000; decide), ?_⟩
    refine ⟨Nat.zero_le _, fun b nb => ?_⟩
    have pb : p ≠ b := ne_of_none upd_same nb
    refine ⟨_, rfl, p, C, dx, _, rfl, (by rw [upd_ne pb]; exact upd_same), T.cl, T.nL, (by show 5 < 1000; decide), ?_⟩
    refine q _ b ⟨dx, ?_, ?_⟩ fun c o e hc => ?_
    · rw [upd_same]
      exact congrArg (fun q => some (HO.ins C dx q)) (j_fresh b)
    · rw [upd_ne (Ne.symm pb)]
      exact upd_same
    · rw [upd_ne pb.symm, upd_ne pb.symm, upd_ne pb.symm, upd_ne pb.symm, upd_ne pb.symm] at nb
      rw [upd_ne hc, upd_ne (ne_of_none e nb), upd_ne hc, upd_ne hc, upd_ne hc, upd_ne hc, upd_ne hc]
      exact e
/-! ### start -/
theorem ok_start {f fF : Addr} {fd fdF : FuncData} (F : Fun K "start" "Scale.start" sStart f fd) (T : Txt K mg C) (FF : Fun K "settings_fit" "settings_fit" sFit fF fdF) (bF : Binds K fdF ["zero", "span", "most", "window"] []) (gF : mg "settings_fit" = some (.ref fF)) :
    FnOk P w K mg base CX0 2 f fd ["self", "zero", "span", "most", "window"] (spStart C) := by
  have GF : FnOk P w K mg base CX0 1 fF fdF ["zero", "span", "most", "window"] spFit := ok_fit FF
  refine F.ok scStart (fun vs H Q E h => ?_) (fun cdv A outer s H vs Q E hr h => ?_)
  · obtain ⟨a, b0, m, z, sp, mo, w, rfl, _⟩ := h
    rfl
  · obtain ⟨a, b0, m, z, sp, mo, w, rfl, ⟨dx, ha, hb0⟩, q⟩ := h
    obtain ⟨t1, g1⟩ := T.gOut
    refine ⟨_, pss_cons (ps_if (pt_not (pt_val (pe_call GF hr rfl gF FF.kp bF .nil pass0 (pa_cons (pv 1) (pa_cons (pv 2) (pa_cons (pv 3) (pa_cons (pv 4) pa_nil))))))) (pss_one (ps_ret (pe_lst (pa_cons (pe_gi rfl g1) pa_nil)))) pss_nil)
      (pss_cons (ps_fld (pv 0) pe_bl rfl) (pss_cons (ps_fld (pv 0) (pv 1) rfl) (pss_cons (ps_fld (pv 0) (pv 2) rfl) (pss_cons (ps_fld (pv 0) (pv 3) rfl) (pss_cons (ps_fld (pv 0) (pv 4) rfl) (pss_cons (ps_fld (pv 0) (pe_lst pa_nil) rfl)
      (pss_one (ps_ret (pe_lst (pa_cons pe_int pa_nil)))))))))), ?_⟩
    refine ⟨_, rfl, _, rfl, _, rfl, _, rfl, z, sp, mo, w, rfl, _, rfl, if_not (fun c => ?_) (fun c => ?_)⟩
    · have e : m.start z sp mo w = (m, [-22]) := by
        unfold M.start
        rw [c, if_neg Bool.false_ne_true]
      rw [e] at q
      refine ⟨(by show 1 ≤ sizeLine; decide), fun p np => ?_⟩
      refine q _ p b0 ⟨dx, ?_, ?_⟩ (.inl rfl) (fun b o e _ => ?_) np upd_same
      · rw [upd_ne (ne_of_none ha np)]
        exact ha
      · rw [upd_ne (ne_of_none hb0 np)]
        exact hb0
      · rw [upd_ne (ne_of_none e np)]
        exact e
    · have e : m.start z sp mo w = (⟨true, z, sp, mo, w, []⟩, [0]) := by
        unfold M.start
        rw [c, if_pos rfl]
      rw [e] at q
      refine ⟨_, rfl, a, C, dx, _, rfl, ha, T.cl, T.nB, (by show 6 < 1000; decide), ?_⟩
      refine ⟨_, rfl, _, rfl, a, C, dx, _, rfl, upd_same, T.cl, T.nZ, (by show 6 < 1000; decide), ?_⟩
      refine ⟨_, rfl, _, rfl, a, C, dx, _, rfl, upd_same, T.cl, T.nS, (by show 6 < 1000; decide), ?_⟩
      refine ⟨_, rfl, _, rfl, a, C, dx, _, rfl, upd_same, T.cl, T.nM, (by show 6 < 1000; decide), ?_⟩
      refine ⟨_, rfl, _, rfl, a, C, dx, _, rfl, upd_same, T.cl, T.nW, (by show 6 < 1000; decide), ?_⟩
      refine ⟨Nat.zero_le _, fun b nb => ?_⟩
      have ab : a ≠ b := ne_of_none upd_same nb
      refine ⟨_, rfl, a, C, dx, _, rfl, (by rw [upd_ne ab]; exact upd_same), T.cl, T.nL, (by show 6 < 1000; decide), ?_⟩
      refine ⟨(by show 1 ≤ sizeLine; decide), fun p np => ?_⟩
      have ap : a ≠ p := ne_of_none upd_same np
      have bp : b ≠ p := by
        intro e
        rw [← e, upd_ne ab.symm, upd_same] at np
        cases np
      have nb' : H b = none := by
        rw [upd_ne ab.symm, upd_ne ab.symm, upd_ne ab.symm, upd_ne ab.symm, upd_ne ab.symm] at nb
        exact nb
      have np' : H p = none := by
        rw [upd_ne ap.symm, upd_ne bp.symm, upd_ne ap.symm, upd_ne ap.symm, upd_ne ap.symm, upd_ne ap.symm, upd_ne ap.symm] at np
        exact np
      refine q _ p b ⟨dx, ?_, ?_⟩ (.inr nb') (fun c o e hc => ?_) np' upd_same
      · rw [upd_ne ap, upd_same]
        exact congrArg (fun q => some (HO.ins C dx q)) (j_start m b0 b z sp mo w)
      · rw [upd_ne bp, upd_ne ab.symm]
        exact upd_same
      · rw [upd_ne (ne_of_none e np'), upd_ne hc, upd_ne (ne_of_none e nb'), upd_ne hc, upd_ne hc, upd_ne hc, upd_ne hc, upd_ne hc]
        exact e
end
end Sw
set_option linter.all false
set_option maxRecDepth 100000
set_option maxHeartbeats 2000000
namespace Sw
open PySem PySem.Spec PyProof.Rows L2
open PySem.W (Codec)
section
variable {P : Program} {w : World} {K : PySem.W.Frag} {mg : Str → Option Value} {base : Heap} {C : Addr}
/-! ### told -/
theorem last_at {l : List Int} (h : 0 < l.length) : atI (l.map V.int) (-1) = some (.int (l.getD (l.length - 1) 0)) := by
  unfold atI ixN
  rw [List.length_map, if_neg (by decide), if_pos (by omega)]
  show (l.map V.int)[(-1 + (l.length : Int)).toNat]? = _
  rw [show (-1 + (l.length : Int)).toNat = l.length - 1 by omega]
  refine at_map ?_
  rw [List.getD_eq_getElem?_getD, List.getElem?_eq_getElem (by omega)]
  rfl
theorem if_bit {c : Bool} {x : L2.St} {H : Hp} {Q : VK} (h : Q (.int (bit c)) H) : if c = true then tC (.int 1) x H Q else tC (.int 0) x H Q := by
  cases c with
  | true => exact if_true_of rfl h
  | false => exact if_false_of rfl h
theorem ok_told {f fS fW fB : Addr} {fd fdS fdW fdB : FuncData} (F : Fun K "told" "Scale.told" sTold f fd) (T : Txt K mg C) (FS : Fun K "smooth_ones" "smooth_ones" sSmo fS fdS) (bS : Binds K fdS ["readings"] []) (gS : mg "smooth_ones" = some (.ref fS))
    (FB : Fun K "sums_over_a_round" "sums_over_a_round" sBox fB fdB) (bB : Binds K fdB ["numbers"] []) (gB : mg "sums_over_a_round" = some (.ref fB))
    (FW : Fun K "weight_of" "weight_of" sWei fW fdW) (bW : Binds K fdW ["smooth", "zero", "span", "most"] []) (gW : mg "weight_of" = some (.ref fW)) :
    FnOk P w K mg base CX0 3 f fd ["self"] (spTold C) := by
  have GS : FnOk P w K mg base CX0 2 fS fdS ["readings"] (spSmo K) := ok_smo FS T FB bB gB
  have GW : FnOk P w K mg base CX0 1 fW fdW ["smooth", "zero", "span", "most"] spWei := ok_wei FW
  refine F.ok scTold (fun vs H Q E h => ?_) (fun cdv A outer s H vs Q E hr h => ?_)
  · obtain ⟨a, b, m, rfl, _⟩ := h
    rfl
  · obtain ⟨a, b, m, rfl, ⟨dx, ha, hb⟩, ok, hbeg, q⟩ := h
    obtain ⟨t1, g1⟩ := T.gReady
    obtain ⟨t2, g2⟩ := T.gBelow
    obtain ⟨t3, g3⟩ := T.gAbove
    refine ⟨_, pss_cons (ps_if (pt_cmpR op_lt (pe_callB call_len_seq (by rfl) T.len PySem.boot_len (pa_cons (pe_fld (pv 0) rfl) pa_nil)) (pe_gi rfl g1) (nomark _))
        (pss_one (ps_ret (pe_lst (pa_cons pe_int (pa_cons pe_int (pa_cons pe_int (pa_cons pe_int (pa_cons pe_int pa_nil)))))))) pss_nil)
      (pss_cons (ps_set (i := 1) scTold.nd rfl (Or.inl rfl) (pe_call GS hr rfl gS FS.kp bS .nil pass0 (pa_cons (pe_fld (pv 0) rfl) pa_nil)))
      (pss_cons (ps_set (i := 2) scTold.nd rfl (Or.inl rfl) (pe_call GW (hr.mono (by decide)) rfl gW FW.kp bW .nil pass0
          (pa_cons (pe_ix ix_list (pv 1) (pe_un un_neg pe_int) (fun _ _ => rfl)) (pa_cons (pe_fld (pv 0) rfl) (pa_cons (pe_fld (pv 0) rfl) (pa_cons (pe_fld (pv 0) rfl) pa_nil))))))
      (pss_cons (ps_set (i := 3) scTold.nd rfl (Or.inl rfl) (pe_ifExp (pt_cmpR op_le (pe_op op_sub (pe_callB (cr_max rfl) (by rfl) T.max PyProof.Rows.boot_max (pa_cons (pv 1) pa_nil)) (pe_callB (cr_min rfl) (by rfl) T.min PyProof.Rows.boot_min (pa_cons (pv 1) pa_nil)))
          (pe_op op_mul pe_int (pe_fld (pv 0) rfl)) (nomark _)) pe_int pe_int))
      (pss_cons (ps_set (i := 4) scTold.nd rfl (Or.inl rfl) (pe_ifExp (pt_cmpR op_lt (pv 2) (pe_gi rfl g2) (nomark _)) pe_int pe_int))
      (pss_cons (ps_set (i := 5) scTold.nd rfl (Or.inl rfl) (pe_ifExp (pt_cmpR op_gt (pv 2) (pe_op op_add (pe_fld (pv 0) rfl) (pe_gi rfl g3)) (nomark _)) pe_int pe_int))
      (pss_one (ps_ret (pe_lst (pa_cons (pv 2) (pa_cons pe_int (pa_cons (pv 3) (pa_cons (pv 4) (pa_cons (pv 5) pa_nil))))))))))))), ?_⟩
    refine ⟨_, rfl, a, C, dx, _, _, rfl, ha, T.cl, T.nL, j_latest m b, b, _, rfl, .inl (.inl (.inl hb)), _, _, rfl, rfl, _, rfl, ?_⟩
    rw [List.length_map]
    by_cases c : m.latest.length < 94
    · refine if_true_of (decide_eq_true (by omega)) ?_
      have e : m.told = [0, 0, 0, 0, 0] := by
        unfold M.told
        rw [if_pos c]
      rw [e] at q
      exact ⟨(by show 5 ≤ sizeLine; decide), fun p np => q _ p (same_upd np) np upd_same⟩
    · refine if_false_of (decide_eq_false (by omega)) ?_
      have hlen : m.latest.length = 94 := by
        have := ok.len
        omega
      have slen : m.smooths.length = 32 := by
        unfold M.smooths
        rw [box_length, box_length, hlen]
      obtain ⟨kz, ks, km, kw⟩ := ok.set hbeg
      -- smooth = smooth_ones(self.latest)
      refine ⟨_, rfl, a, C, dx, _, _, rfl, ha, T.cl, T.nL, j_latest m b, b, m.latest, rfl, .inl (.inl hb), by omega, fun H1 p1 s1 np1 h1 => ?_⟩
      have ha1 := s1 _ _ ha
      have hS : SqL K H1 p1 (m.smooths.map V.int) := .inl (.inl h1)
      -- weight = weight_of(smooth[-1], ..)
      refine ⟨_, rfl, _, rfl, p1, _, _, _, rfl, rfl, hS, last_at (by omega), _, rfl, a, C, dx, _, _, rfl, ha1, T.cl, T.nZ, j_zero m b, _, rfl, a, C, dx, _, _, rfl, ha1, T.cl, T.nS, j_span m b, _, rfl, a, C, dx, _, _, rfl, ha1, T.cl, T.nM, j_most m b, ?_⟩
      refine ⟨_, _, _, _, rfl, ?_, kz, ks, km, ?_⟩
      · refine smooths_bound ok _ ?_
        rw [List.getD_eq_getElem?_getD, List.getElem?_eq_getElem (by omega)]
        exact List.getElem_mem _
      -- still
      refine ⟨_, rfl, p1, m.smooths, rfl, hS, by omega, fun mx hmx1 hmx2 => ?_⟩
      refine ⟨_, rfl, p1, m.smooths, rfl, hS, by omega, fun mn hmn1 hmn2 => ?_⟩
      refine ⟨_, _, rfl, rfl, _, rfl, a, C, dx, _, _, rfl, ha1, T.cl, T.nW, j_window m b, _, _, rfl, rfl, .inl (by decide), _, _, rfl, rfl, _, rfl, ?_⟩
      rw [greatest_eq hmx1 hmx2, least_eq hmn1 hmn2]
      refine if_bit ?_
      -- under
      refine ⟨_, rfl, _, _, rfl, rfl, _, rfl, ?_⟩
      refine if_bit ?_
      -- over
      refine ⟨_, rfl, _, rfl, a, C, dx, _, _, rfl, ha1, T.cl, T.nM, j_most m b, _, _, rfl, rfl, _, _, rfl, rfl, _, rfl, ?_⟩
      refine if_bit ?_
      refine ⟨_, rfl, _, rfl, _, rfl, _, rfl, (by show 5 ≤ sizeLine; decide), fun p np => ?_⟩
      have e : m.told = [m.w, 1, bit (decide (Kv190.greatest m.smooths - Kv190.least m.smooths ≤ 1024 * m.window)), bit (decide (m.w < -20)), bit (decide (m.most + 9 < m.w))] := by
        unfold M.told
        rw [if_neg c]
      rw [e] at q
      exact q _ p (s1.trans (same_upd np)) (s1.free np) upd_same
end
end Sw
set_option linter.all false
set_option maxRecDepth 100000
set_option maxHeartbeats 2000000
namespace Sw
open PySem PySem.Spec PyProof.Rows L2
open PySem.W (Codec)
section
variable {P : Program} {w : World} {K : PySem.W.Frag} {mg : Str → Option Value} {base : Heap} {C : Addr}
/-! ### feed -/
theorem ok_put {m : M} (h : Ok m) {r : List Int} (hr : are r = true) : Ok (m.put r) := by
  refine ⟨?_, fun x hx => ?_, h.set⟩
  · show (last94 (m.latest ++ r)).length ≤ 94
    rw [last94_length]
    omega
  · have hx' : x ∈ m.latest ++ r := List.mem_of_mem_drop (show x ∈ (m.latest ++ r).drop _ from hx)
    rcases List.mem_append.mp hx' with q | q
    · exact h.rd x q
    · have q2 := List.all_eq_true.mp hr x q
      unfold Kv190.isReading at q2
      simp only [Bool.and_eq_true, decide_eq_true_eq] at q2
      omega
theorem feed_0 {m : M} {r : List Int} (h : m.begun = false) : m.feed r = (m, [-11]) := by
  unfold M.feed
  rw [if_pos h]
theorem feed_1 {m : M} {r : List Int} (h : m.begun = true) (h1 : 1024 < r.length ∨ are r = false) : m.feed r = (m, [-22]) := by
  unfold M.feed
  rw [if_neg (by rw [h]; decide), if_pos h1]
theorem feed_2 {m : M} {r : List Int} (h : m.begun = true) (h1 : ¬ 1024 < r.length) (h2 : are r = true) : m.feed r = (m.put r, 0 :: (m.put r).told) := by
  unfold M.feed
  rw [if_neg (by rw [h]; decide), if_neg (by rintro (q | q); · exact h1 q
                                             · rw [h2] at q; cases q)]
theorem not_told : (("told" : Str) == "begun") = false ∧ (("told" : Str) == "zero") = false ∧ (("told" : Str) == "span") = false ∧ (("told" : Str) == "most") = false ∧ (("told" : Str) == "window") = false ∧ (("told" : Str) == "latest") = false := by decide +kernel
theorem not_feed : (("feed" : Str) == "begun") = false ∧ (("feed" : Str) == "zero") = false ∧ (("feed" : Str) == "span") = false ∧ (("feed" : Str) == "most") = false ∧ (("feed" : Str) == "window") = false ∧ (("feed" : Str) == "latest") = false := by decide +kernel
theorem not_start : (("start" : Str) == "begun") = false ∧ (("start" : Str) == "zero") = false ∧ (("start" : Str) == "span") = false ∧ (("start" : Str) == "most") = false ∧ (("start" : Str) == "window") = false ∧ (("start" : Str) == "latest") = false := by decide +kernel
theorem ok_feed {f fA fT : Addr} {fd fdA fdT : FuncData} (F : Fun K "feed" "Scale.feed" sFeed f fd) (T : Txt K mg C) (FA : Fun K "are_readings" "are_readings" sAre fA fdA) (bA : Binds K fdA ["numbers"] []) (gA : mg "are_readings" = some (.ref fA))
    (GT : FnOk P w K mg base CX0 3 fT fdT ["self"] (spTold C)) (bT : Binds K fdT ["self"] []) (mT : Meth K C "told" fT) :
    FnOk P w K mg base CX0 4 f fd ["self", "numbers"] (spFeed C) := by
  have GA : FnOk P w K mg base CX0 1 fA fdA ["numbers"] (spAre K) := ok_are FA T
  refine F.ok scFeed (fun vs H Q E h => ?_) (fun cdv A outer s H vs Q E hr h => ?_)
  · obtain ⟨a, b, q, m, r, rfl, _⟩ := h
    rfl
  · obtain ⟨a, b0, c, m, r, rfl, ⟨dx, ha, hb0⟩, hc, ok, q⟩ := h
    obtain ⟨t1, g1⟩ := T.gNot
    obtain ⟨t2, g2⟩ := T.gLong
    obtain ⟨t3, g3⟩ := T.gOut
    obtain ⟨t4, g4⟩ := T.gReady
    have ret1 : ∀ z : Int, m.feed r = (m, [z]) → ∀ p, H p = none → Q (.ref p) (upd H p (.lst [V.int z])) := by
      intro z e p np
      rw [e] at q
      refine q _ p b0 ⟨dx, ?_, ?_⟩ (.inl rfl) (fun b o e _ => ?_) np upd_same
      · rw [upd_ne (ne_of_none ha np)]
        exact ha
      · rw [upd_ne (ne_of_none hb0 np)]
        exact hb0
      · rw [upd_ne (ne_of_none e np)]
        exact e
    refine ⟨_, pss_cons (ps_if (pt_not (pt_val (pe_fld (pv 0) rfl))) (pss_one (ps_ret (pe_lst (pa_cons (pe_gi rfl g1) pa_nil)))) pss_nil)
      (pss_cons (ps_if (PW.pt (pw_or (pt_cmpR op_gt (pe_callB call_len_seq (by rfl) T.len PySem.boot_len (pa_cons (pv 1) pa_nil)) (pe_gi rfl g2) (nomark _)) (pw_or1 (pt_not (pt_val (pe_call GA (hr.mono (by decide)) rfl gA FA.kp bA .nil pass0 (pa_cons (pv 1) pa_nil)))))))
        (pss_one (ps_ret (pe_lst (pa_cons (pe_gi rfl g3) pa_nil)))) pss_nil)
      (pss_cons (ps_fld (pv 0) (pe_slice sl_list (pe_op op_cat (pe_fld (pv 0) rfl) (pv 1)) (po_some (pe_un un_neg (pe_gi rfl g4))) po_none) rfl)
      (pss_one (ps_ret (pe_op op_cat (pe_lst (pa_cons pe_int pa_nil)) (pe_meth0 (pv 0) T.cl mT GT hr bT .nil pass0)))))), ?_⟩
    refine ⟨_, rfl, a, C, dx, _, _, rfl, ha, T.cl, T.nB, j_begun m b0, _, rfl, if_not (fun c1 => ?_) (fun c1 => ?_)⟩
    · exact ⟨(by show 1 ≤ sizeLine; decide), ret1 _ (feed_0 c1)⟩
    · refine ⟨_, rfl, c, _, rfl, .inl (.inl (.inl hc)), _, _, rfl, rfl, _, rfl, ?_⟩
      rw [List.length_map]
      by_cases c2 : 1024 < r.length
      · refine if_true_of (decide_eq_true (by omega)) ?_
        exact ⟨(by show 1 ≤ sizeLine; decide), ret1 _ (feed_1 c1 (.inl c2))⟩
      · refine if_false_of (decide_eq_false (by omega)) ?_
        refine ⟨_, rfl, c, r, rfl, .inl (.inl hc), _, rfl, if_not (fun c3 => ?_) (fun c3 => ?_)⟩
        · exact ⟨(by show 1 ≤ sizeLine; decide), ret1 _ (feed_1 c1 (.inr c3))⟩
        · rw [feed_2 c1 c2 c3] at q
          have okp := ok_put ok c3
          -- self.latest + numbers
          refine ⟨_, rfl, a, C, dx, _, _, rfl, ha, T.cl, T.nL, j_latest m b0, _, rfl, b0, c, _, _, rfl, rfl, hb0, hc, ?_, fun p1 np1 => ?_⟩
          · rw [List.length_map, List.length_map]
            have := ok.len
            exact Nat.le_trans (show _ ≤ 1118 by omega) (by decide)
          have ha1 : upd H p1 (.lst (m.latest.map V.int ++ r.map V.int)) a = _ := (upd_ne (ne_of_none ha np1)).trans ha
          -- [-READY_FROM:]
          refine ⟨_, rfl, _, rfl, p1, _, rfl, .inl (.inl upd_same), fun p2 np2 => ?_⟩
          have ha2 := (upd_ne (o := HO.lst (cutV (m.latest.map V.int ++ r.map V.int) (some (-94)) none)) (ne_of_none ha1 np2)).trans ha1
          have hl : cutV (m.latest.map V.int ++ r.map V.int) (some (-94)) none = (m.put r).latest.map V.int := by
            rw [← List.map_append, cut_last]
            rfl
          rw [hl] at ha2
          refine ⟨_, rfl, a, C, dx, _, rfl, (by rw [hl]; exact ha2), T.cl, T.nL, (by show 6 < 1000; decide), ?_⟩
          -- [0]
          refine ⟨(by show 1 ≤ sizeLine; decide), fun p3 np3 => ?_⟩
          have np2' : H p2 = none := (same_upd np1).free np2
          have a2 : a ≠ p2 := ne_of_none ha1 np2
          have a3 : a ≠ p3 := ne_of_none upd_same np3
          have np3' : H p3 = none := by
            rw [upd_ne a3.symm] at np3
            exact (same_upd np1).free ((same_upd np2).free np3)
          have p23 : p2 ≠ p3 := by
            intro e
            rw [← e, upd_ne a2.symm, upd_same] at np3
            cases np3
          refine ⟨_, rfl, a, dx, _, rfl, (upd_ne a3).trans upd_same, ?_, ?_⟩
          · rw [j_put m b0 p2 r]
            exact j_none _ _ not_told
          refine ⟨a, p2, m.put r, rfl, ⟨dx, ?_, ?_⟩, okp, c1, fun H4 p4 s4 np4 h4 => ?_⟩
          · rw [upd_ne a3, upd_same, j_put m b0 p2 r]
          · rw [upd_ne p23, upd_ne a2.symm, upd_same, hl]
          · have h3 : H4 p3 = some (.lst [V.int 0]) := s4 _ _ upd_same
            refine ⟨p3, p4, _, _, rfl, rfl, h3, h4, ?_, fun p5 np5 => ?_⟩
            · rw [List.length_map, told_length]
              show 1 + 5 ≤ sizeLine
              decide
            · have ha4 : H4 a = some (.ins C dx (jF (m.put r) p2)) := s4 _ _ (by rw [upd_ne a3, upd_same, j_put m b0 p2 r])
              have hb4 : H4 p2 = some (.lst ((m.put r).latest.map V.int)) := s4 _ _ (by rw [upd_ne p23, upd_ne a2.symm, upd_same, hl])
              have fr : ∀ d o, H d = some o → d ≠ a → H4 d = some o := fun d o e hd => s4 _ _ (by
                rw [upd_ne (ne_of_none e np3'), upd_ne hd, upd_ne (ne_of_none e np2'), upd_ne (ne_of_none e np1)]
                exact e)
              refine q _ p5 p2 ⟨dx, ?_, ?_⟩ (.inr np2') (fun d o e hd => ?_) ?_ upd_same
              · rw [upd_ne (ne_of_none ha4 np5)]
                exact ha4
              · rw [upd_ne (ne_of_none hb4 np5)]
                exact hb4
              · have e4 := fr d o e hd
                rw [upd_ne (ne_of_none e4 np5)]
                exact e4
              · cases e : H p5 with
                | none => rfl
                | some o =>
                  by_cases z : p5 = a
                  · rw [z, ha4] at np5
                    cases np5
                  · rw [fr p5 o e z] at np5
                    cases np5
end
end Sw
set_option linter.all false
set_option maxRecDepth 100000
set_option maxHeartbeats 2000000
namespace Sw
open PySem PySem.Spec PyProof.Rows L2
open PySem.W (Codec)
section
variable {P : Program} {w : World} {K : PySem.W.Frag} {mg : Str → Option Value} {base : Heap} {C : Addr}
/-! ### answers -/
/-- what stands between two turns: a the calls, x the object, g what is given -/
def Inv3 (C : Addr) (ns : List Int) (a x g : Addr) (H : Hp) (st : L2.St) (H' : Hp) : Prop := ∃ (i : Nat) (m : M) (out : List Int) (b : Addr) (v4 v5 : Option V),
  st = [some (.ref a), some (.ref x), some (.ref g), some (.int (i : Int)), v4, v5] ∧ Same H H' ∧ ScaleAt C H' x b m ∧ b ≠ g ∧ H' g = some (.lst (out.map V.int)) ∧ Here ns i m out
def left (n : Nat) (st : L2.St) (_ : Hp) : Nat := match (st[3]? : Option (Option V)) with
  | some (some (V.int i)) => n - i.toNat
  | _ => 0
theorem ix_at {ns : List Int} {j : Nat} {i z : Int} (e : i = (j : Int)) (h : ns[j]? = some z) : atI (ns.map V.int) i = some (.int z) := at_of e (at_map h)
/-- behind an answer: its length is appended, then its numbers -/
theorem give {C x g p b : Addr} {m : M} {ns out ans : List Int} {H H' : Hp} (s : Same H H') (hx : ScaleAt C H' x b m) (bg : b ≠ g) (pg : p ≠ g) (hg0 : H g = none) (hg : H' g = some (.lst (out.map V.int))) (hp : H' p = some (.lst (ans.map V.int))) :
    (upd H' g (.lst (out.map V.int ++ [V.int (ans.length : Int)]))) p = some (.lst (ans.map V.int)) ∧
    Same H (upd (upd H' g (.lst (out.map V.int ++ [V.int (ans.length : Int)]))) g (.lst (out.map V.int ++ [V.int (ans.length : Int)] ++ ans.map V.int))) ∧
    ScaleAt C (upd (upd H' g (.lst (out.map V.int ++ [V.int (ans.length : Int)]))) g (.lst (out.map V.int ++ [V.int (ans.length : Int)] ++ ans.map V.int))) x b m ∧
    (upd (upd H' g (.lst (out.map V.int ++ [V.int (ans.length : Int)]))) g (.lst (out.map V.int ++ [V.int (ans.length : Int)] ++ ans.map V.int))) g = some (.lst ((out ++ counted ans).map V.int)) := by
  obtain ⟨dx, h1, h2⟩ := hx
  have xg : x ≠ g := by
    intro e
    rw [e, hg] at h1
    cases h1
  refine ⟨?_, fun c o e => ?_, ⟨dx, ?_, ?_⟩, ?_⟩
  · rw [upd_ne pg]
    exact hp
  · have cg : c ≠ g := ne_of_none e hg0
    rw [upd_ne cg, upd_ne cg]
    exact s c o e
  · rw [upd_ne xg, upd_ne xg]
    exact h1
  · rw [upd_ne bg, upd_ne bg]
    exact h2
  · rw [upd_same]
    unfold counted
    rw [List.map_append, List.map_cons, List.append_assoc]
    rfl
theorem ok_ans {f fI fS fF : Addr} {fd fdI fdS fdF : FuncData} (F : Fun K "answers" "answers" sAns f fd) (T : Txt K mg C) (Mk1 : Mk K C fI) (GI : FnOk P w K mg base CX0 1 fI fdI ["self"] (spInit C)) (bI : Binds K fdI ["self"] [])
    (GS : FnOk P w K mg base CX0 2 fS fdS ["self", "zero", "span", "most", "window"] (spStart C)) (bS : Binds K fdS ["self", "zero", "span", "most", "window"] []) (mS : Meth K C "start" fS)
    (GF : FnOk P w K mg base CX0 4 fF fdF ["self", "numbers"] (spFeed C)) (bF : Binds K fdF ["self", "numbers"] []) (mF : Meth K C "feed" fF) :
    FnOk P w K mg base CX0 5 f fd ["calls"] (spAns K) := by
  refine F.ok scAns (fun vs H Q E h => ?_) (fun cdv A outer s H vs Q E hr h => ?_)
  · obtain ⟨a, ns, rfl, _⟩ := h
    rfl
  · obtain ⟨a, ns, rfl, hS, h0, q⟩ := h
    obtain ⟨t1, g1⟩ := T.gStart
    refine ⟨_, pss_cons (ps_set (i := 1) scAns.nd rfl (Or.inl rfl) (pe_make0 Mk1 GI (hr.mono (by decide)) rfl T.gC bI .nil pass0))
      (pss_cons (ps_set (i := 2) scAns.nd rfl (Or.inl rfl) (pe_lst pa_nil))
      (pss_cons (ps_set (i := 3) scAns.nd rfl (Or.inl rfl) pe_int)
      (pss_cons (ps_while PassesOwn.never (pt_cmpR op_lt (pv 3) (pe_callB call_len_seq (by rfl) T.len PySem.boot_len (pa_cons (pv 0) pa_nil)) (nomark _))
        (pss_cons (ps_if (pt_cmpR op_eq (pe_ix ix_list (pv 0) (pv 3) (fun _ _ => rfl)) (pe_gi rfl g1) (nomark _))
            (pss_cons (ps_set (i := 4) scAns.nd rfl (Or.inl rfl) (pe_meth (pv 1) T.cl mS GS (hr.mono (by decide)) bS .nil pass0
                (pa_cons (pe_ix ix_list (pv 0) (pe_op op_add (pv 3) pe_int) (fun _ _ => rfl)) (pa_cons (pe_ix ix_list (pv 0) (pe_op op_add (pv 3) pe_int) (fun _ _ => rfl))
                (pa_cons (pe_ix ix_list (pv 0) (pe_op op_add (pv 3) pe_int) (fun _ _ => rfl)) (pa_cons (pe_ix ix_list (pv 0) (pe_op op_add (pv 3) pe_int) (fun _ _ => rfl)) pa_nil))))))
              (pss_one (ps_set (i := 3) scAns.nd rfl (Or.inl rfl) (pe_op op_add (pv 3) pe_int))))
            (pss_cons (ps_set (i := 5) scAns.nd rfl (Or.inl rfl) (pe_op op_add (pe_op op_add (pv 3) pe_int) (pe_ix ix_list (pv 0) (pe_op op_add (pv 3) pe_int) (fun _ _ => rfl))))
              (pss_cons (ps_set (i := 4) scAns.nd rfl (Or.inl rfl) (pe_meth (pv 1) T.cl mF GF hr bF .nil pass0 (pa_cons (pe_slice sl_list (pv 0) (po_some (pe_op op_add (pv 3) pe_int)) (po_some (pv 5))) pa_nil)))
              (pss_one (ps_set (i := 3) scAns.nd rfl (Or.inl rfl) (pv 5))))))
        (pss_cons (ps_expr (pe_bm PySem.F.plainAttrs_list PySem.F.slot_list_append PySem.F.type_list_append mt_append (pv 2) (pa_cons (pe_callB call_len_seq (by rfl) T.len PySem.boot_len (pa_cons (pv 4) pa_nil)) pa_nil)))
        (pss_one (ps_expr (pe_bm PySem.F.plainAttrs_list PySem.F.slot_list_extend PySem.F.type_list_extend mt_extend (pv 2) (pa_cons (pv 4) pa_nil)))))))
      (pss_one (ps_ret (pv 2)))))), ?_⟩
    -- scale = Scale()
    intro x dx nx nd ne
    refine ⟨x, dx, rfl, upd_same, fun H1 b J kp => ⟨rfl, ?_⟩⟩
    have s1 : Same H H1 := Same.made nx nd kp
    -- given = []
    refine ⟨Nat.zero_le _, fun g ng => ?_⟩
    obtain ⟨dj, hj1, hj2⟩ := J
    have ng0 : H g = none := s1.free ng
    -- while at < len(calls)
    refine while_by (Inv3 C ns a x g H) (left ns.length) ?_ ?_ ?_
    · refine ⟨0, M.fresh, [], b, none, none, rfl, s1.trans (same_upd ng), ⟨dj, ?_, ?_⟩, ne_of_none hj2 ng, upd_same, h0⟩
      · rw [upd_ne (ne_of_none hj1 ng)]
        exact hj1
      · rw [upd_ne (ne_of_none hj2 ng)]
        exact hj2
    · rintro st H' ⟨i, m, out, b, v4, v5, rfl, sm, hx, bg, hg, hh⟩
      have hS' : SqL K H' a (ns.map V.int) := sm.seq hS
      refine ⟨_, rfl, _, rfl, a, _, rfl, .inl hS', _, _, rfl, rfl, _, rfl, ?_⟩
      rw [List.length_map]
      by_cases c : i < ns.length
      · refine if_true_of (decide_eq_true (by omega)) ?_
        obtain ⟨ok, room, way⟩ := here_more c hh
        have size : ∀ ans : List Int, ans.length ≤ 6 → (out.map V.int).length < sizeLine ∧ (out.map V.int ++ [V.int (ans.length : Int)]).length + (ans.map V.int).length ≤ sizeLine := by
          intro ans h6
          rw [List.length_append, List.length_map, List.length_map]
          have e : sizeLine = 16777216 := by decide
          simp only [List.length_cons, List.length_nil]
          omega
        have hx' := hx
        obtain ⟨dy, hx1, hx2⟩ := hx'
        have xg : x ≠ g := by
          intro e
          rw [e, hg] at hx1
          cases hx1
        rcases way with ⟨z, sp, mo, w1, e0, e1, e2, e3, e4, hn⟩ | ⟨n, e0, e1, hin, hn⟩
        · -- start
          refine ⟨_, rfl, _, rfl, a, _, _, _, rfl, rfl, hS', ix_at rfl e0, rfl, _, rfl, ?_⟩
          refine if_true_of (by decide) ?_
          refine ⟨_, rfl, x, dy, _, rfl, hx1, j_none _ _ not_start, ?_⟩
          refine ⟨_, rfl, _, rfl, _, _, rfl, rfl, a, _, _, _, rfl, rfl, hS', ix_at (j := i + 1) (by omega) e1, ?_⟩
          refine ⟨_, rfl, _, rfl, _, _, rfl, rfl, a, _, _, _, rfl, rfl, hS', ix_at (j := i + 2) (by omega) e2, ?_⟩
          refine ⟨_, rfl, _, rfl, _, _, rfl, rfl, a, _, _, _, rfl, rfl, hS', ix_at (j := i + 3) (by omega) e3, ?_⟩
          refine ⟨_, rfl, _, rfl, _, _, rfl, rfl, a, _, _, _, rfl, rfl, hS', ix_at (j := i + 4) (by omega) e4, ?_⟩
          refine ⟨x, b, m, z, sp, mo, w1, rfl, hx, fun H2 p b2 hx2 hb2 fr np hp => ?_⟩
          have hg2 : H2 g = some (.lst (out.map V.int)) := fr g _ hg xg.symm
          have bg2 : b2 ≠ g := by
            rcases hb2 with e | e
            · rw [e]
              exact bg
            · intro e'
              rw [e', hg] at e
              cases e
          have pg : p ≠ g := by
            intro e'
            rw [e', hg] at np
            cases np
          have sm2 : Same H H2 := fun c o e => fr c o (sm c o e) (ne_of_none e nx)
          -- at = at + 5
          refine ⟨_, rfl, _, _, rfl, rfl, ?_⟩
          -- given.append(len(answer)); given.extend(answer)
          obtain ⟨z1, z2⟩ := size _ (start_length m z sp mo w1)
          obtain ⟨k1, k2, k3, k4⟩ := give (ns := ns) sm2 hx2 bg2 pg ng0 hg2 hp
          refine ⟨_, rfl, .inl ⟨rfl, _, .inl (.inl hg2)⟩, _, rfl, p, _, rfl, .inl (.inl (.inl hp)), g, _, _, rfl, rfl, hg2, z1, ?_⟩
          rw [List.length_map]
          refine ⟨_, rfl, .inl ⟨rfl, _, .inl (.inl upd_same)⟩, _, rfl, g, p, _, _, rfl, rfl, upd_same, k1, z2, ?_⟩
          refine ⟨⟨i + 5, (m.start z sp mo w1).1, out ++ counted (m.start z sp mo w1).2, b2, _, _, rfl, k2, k3, bg2, k4, hn⟩, ?_⟩
          show ns.length - ((i : Int) + 5).toNat < ns.length - ((i : Int)).toNat
          omega
        · -- feed
          refine ⟨_, rfl, _, rfl, a, _, _, _, rfl, rfl, hS', ix_at rfl e0, rfl, _, rfl, ?_⟩
          refine if_false_of (by decide) ?_
          refine ⟨_, rfl, _, _, rfl, rfl, _, rfl, _, rfl, _, _, rfl, rfl, a, _, _, _, rfl, rfl, hS', ix_at (j := i + 1) (by omega) e1, _, _, rfl, rfl, ?_⟩
          refine ⟨_, rfl, x, dy, _, rfl, hx1, j_none _ _ not_feed, ?_⟩
          refine ⟨_, rfl, _, rfl, _, _, rfl, rfl, _, rfl, _, rfl, _, rfl, a, _, rfl, hS', fun r nr => ?_⟩
          have ec : cutV (ns.map V.int) (some ((i : Int) + 2)) (some ((i : Int) + 2 + (n : Int))) = ((ns.drop (i + 2)).take n).map V.int := cut_is hin (by omega) (by omega)
          rw [ec]
          have hxr : ScaleAt C (upd H' r (.lst (((ns.drop (i + 2)).take n).map V.int))) x b m := ⟨dy, (upd_ne (ne_of_none hx1 nr)).trans hx1, (upd_ne (ne_of_none hx2 nr)).trans hx2⟩
          have hgr : upd H' r (.lst (((ns.drop (i + 2)).take n).map V.int)) g = some (.lst (out.map V.int)) := (upd_ne (ne_of_none hg nr)).trans hg
          refine ⟨x, b, r, m, (ns.drop (i + 2)).take n, rfl, hxr, upd_same, ok, fun H2 p b2 hx2 hb2 fr np hp => ?_⟩
          have hg2 : H2 g = some (.lst (out.map V.int)) := fr g _ hgr xg.symm
          have bg2 : b2 ≠ g := by
            rcases hb2 with e | e
            · rw [e]
              exact bg
            · intro e'
              rw [e', hgr] at e
              cases e
          have pg : p ≠ g := by
            intro e'
            rw [e', hgr] at np
            cases np
          have sm2 : Same H H2 := fun c o e => fr c o ((same_upd nr) c o (sm c o e)) (ne_of_none e nx)
          refine ⟨_, rfl, ?_⟩
          obtain ⟨z1, z2⟩ := size _ (feed_length m ((ns.drop (i + 2)).take n))
          obtain ⟨k1, k2, k3, k4⟩ := give (ns := ns) sm2 hx2 bg2 pg ng0 hg2 hp
          refine ⟨_, rfl, .inl ⟨rfl, _, .inl (.inl hg2)⟩, _, rfl, p, _, rfl, .inl (.inl (.inl hp)), g, _, _, rfl, rfl, hg2, z1, ?_⟩
          rw [List.length_map]
          refine ⟨_, rfl, .inl ⟨rfl, _, .inl (.inl upd_same)⟩, _, rfl, g, p, _, _, rfl, rfl, upd_same, k1, z2, ?_⟩
          refine ⟨⟨i + 2 + n, (m.feed ((ns.drop (i + 2)).take n)).1, out ++ counted (m.feed ((ns.drop (i + 2)).take n)).2, b2, _, _, rfl, k2, k3, bg2, k4, hn⟩, ?_⟩
          show ns.length - ((i : Int) + 2 + (n : Int)).toNat < ns.length - ((i : Int)).toNat
          omega
      · refine if_false_of (decide_eq_false (by omega)) ?_
        have hi : i = ns.length := Nat.le_antisymm (here_in hh) (by omega)
        rw [hi] at hh
        refine ⟨_, rfl, q _ g ?_⟩
        rw [here_last hh]
        exact hg
    · rintro st H' R R' im ⟨v, hv, v2, hv2, p, ys, e, hp, i, j, ei, ej, k, ek, hR⟩
      exact ⟨v, hv, v2, hv2, p, ys, e, hp, i, j, ei, ej, k, ek, im _ _ hR⟩
end
end Sw
set_option linter.all false
set_option maxRecDepth 100000
set_option maxHeartbeats 2000000
namespace Sw
open PySem PySem.Spec PyProof.Rows L2
open PySem.W (Codec)
/-! ### the end -/
theorem all_mk {P : Program} {w : World} {K : PySem.W.Frag} {h : Heap} {mg : Str → Option Value} {fa C fFit fAre fBox fSmo fWei fInit fStart fFeed fTold fAns : Addr} (X : K.In h) (G : h.Ns mainGlobals mg) (hfa : mg "answers" = some (.ref fa))
    {odFit anFit odAre anAre odBox anBox odSmo anSmo odWei anWei odInit anInit odStart anStart odFeed anFeed odTold anTold odAns anAns : Option Addr} {slFit slAre slBox slSmo slWei slInit slStart slFeed slTold slAns : Array (Option Value)} {ocFit kVFit dcFit pmFit cdFit ctFit ocAre kVAre dcAre pmAre cdAre ctAre ocBox kVBox dcBox pmBox cdBox ctBox ocSmo kVSmo dcSmo pmSmo cdSmo ctSmo ocWei kVWei dcWei pmWei cdWei ctWei ocInit kVInit dcInit pmInit cdInit ctInit ocStart kVStart dcStart pmStart cdStart ctStart ocFeed kVFeed dcFeed pmFeed cdFeed ctFeed ocTold kVTold dcTold pmTold cdTold ctTold ocAns kVAns dcAns pmAns cdAns ctAns : Value} {kStart kNot kOut kLo kHi kLong kRound kReady kBelow kAbove : Tok}
    (aC : PySem.W.nsIn K mainGlobals "Scale" = some (some (.ref C)))
    (aFit : PySem.W.nsIn K mainGlobals "settings_fit" = some (some (.ref fFit)))
    (lFit : K.lookup fFit = some ⟨ocFit, odFit, .func (PySem.W.fnOf "settings_fit" "settings_fit" (defArgs sFit) (defBody sFit) (defScope sFit) .none kVFit dcFit pmFit anFit cdFit ctFit), slFit⟩) (cFit : PySem.W.codeIn K cdFit "settings_fit" = true) (kFitk : PySem.W.keepIn K (.ref fFit) = true)
    (aAre : PySem.W.nsIn K mainGlobals "are_readings" = some (some (.ref fAre)))
    (lAre : K.lookup fAre = some ⟨ocAre, odAre, .func (PySem.W.fnOf "are_readings" "are_readings" (defArgs sAre) (defBody sAre) (defScope sAre) .none kVAre dcAre pmAre anAre cdAre ctAre), slAre⟩) (cAre : PySem.W.codeIn K cdAre "are_readings" = true) (kArek : PySem.W.keepIn K (.ref fAre) = true)
    (aBox : PySem.W.nsIn K mainGlobals "sums_over_a_round" = some (some (.ref fBox)))
    (lBox : K.lookup fBox = some ⟨ocBox, odBox, .func (PySem.W.fnOf "sums_over_a_round" "sums_over_a_round" (defArgs sBox) (defBody sBox) (defScope sBox) .none kVBox dcBox pmBox anBox cdBox ctBox), slBox⟩) (cBox : PySem.W.codeIn K cdBox "sums_over_a_round" = true) (kBoxk : PySem.W.keepIn K (.ref fBox) = true)
    (aSmo : PySem.W.nsIn K mainGlobals "smooth_ones" = some (some (.ref fSmo)))
    (lSmo : K.lookup fSmo = some ⟨ocSmo, odSmo, .func (PySem.W.fnOf "smooth_ones" "smooth_ones" (defArgs sSmo) (defBody sSmo) (defScope sSmo) .none kVSmo dcSmo pmSmo anSmo cdSmo ctSmo), slSmo⟩) (cSmo : PySem.W.codeIn K cdSmo "smooth_ones" = true) (kSmok : PySem.W.keepIn K (.ref fSmo) = true)
    (aWei : PySem.W.nsIn K mainGlobals "weight_of" = some (some (.ref fWei)))
    (lWei : K.lookup fWei = some ⟨ocWei, odWei, .func (PySem.W.fnOf "weight_of" "weight_of" (defArgs sWei) (defBody sWei) (defScope sWei) .none kVWei dcWei pmWei anWei cdWei ctWei), slWei⟩) (cWei : PySem.W.codeIn K cdWei "weight_of" = true) (kWeik : PySem.W.keepIn K (.ref fWei) = true)
    (aInit : PySem.W.findIn K (.ref C) "__init__" = some (some (.ref fInit))) (iInit : PySem.W.isFn K (.ref fInit) = true)
    (lInit : K.lookup fInit = some ⟨ocInit, odInit, .func (PySem.W.fnOf "__init__" "Scale.__init__" (defArgs sInit) (defBody sInit) (defScope sInit) .none kVInit dcInit pmInit anInit cdInit ctInit), slInit⟩) (cInit : PySem.W.codeIn K cdInit "Scale.__init__" = true) (kInitk : PySem.W.keepIn K (.ref fInit) = true)
    (aStart : PySem.W.findIn K (.ref C) "start" = some (some (.ref fStart))) (iStart : PySem.W.isFn K (.ref fStart) = true)
    (lStart : K.lookup fStart = some ⟨ocStart, odStart, .func (PySem.W.fnOf "start" "Scale.start" (defArgs sStart) (defBody sStart) (defScope sStart) .none kVStart dcStart pmStart anStart cdStart ctStart), slStart⟩) (cStart : PySem.W.codeIn K cdStart "Scale.start" = true) (kStartk : PySem.W.keepIn K (.ref fStart) = true)
    (aFeed : PySem.W.findIn K (.ref C) "feed" = some (some (.ref fFeed))) (iFeed : PySem.W.isFn K (.ref fFeed) = true)
    (lFeed : K.lookup fFeed = some ⟨ocFeed, odFeed, .func (PySem.W.fnOf "feed" "Scale.feed" (defArgs sFeed) (defBody sFeed) (defScope sFeed) .none kVFeed dcFeed pmFeed anFeed cdFeed ctFeed), slFeed⟩) (cFeed : PySem.W.codeIn K cdFeed "Scale.feed" = true) (kFeedk : PySem.W.keepIn K (.ref fFeed) = true)
    (aTold : PySem.W.findIn K (.ref C) "told" = some (some (.ref fTold))) (iTold : PySem.W.isFn K (.ref fTold) = true)
    (lTold : K.lookup fTold = some ⟨ocTold, odTold, .func (PySem.W.fnOf "told" "Scale.told" (defArgs sTold) (defBody sTold) (defScope sTold) .none kVTold dcTold pmTold anTold cdTold ctTold), slTold⟩) (cTold : PySem.W.codeIn K cdTold "Scale.told" = true) (kToldk : PySem.W.keepIn K (.ref fTold) = true)
    (aAns : PySem.W.nsIn K mainGlobals "answers" = some (some (.ref fAns)))
    (lAns : K.lookup fAns = some ⟨ocAns, odAns, .func (PySem.W.fnOf "answers" "answers" (defArgs sAns) (defBody sAns) (defScope sAns) .none kVAns dcAns pmAns anAns cdAns ctAns), slAns⟩) (cAns : PySem.W.codeIn K cdAns "answers" = true) (kAnsk : PySem.W.keepIn K (.ref fAns) = true)
    (pg : PySem.W.plainGet K C Str.empty = true) (hd : PySem.W.hasDictIn K C = true) (po : PySem.W.plainOver K C = true) (sa : PySem.W.findIn K (.ref C) "__setattr__" = some (some (.builtin "object.__setattr__"))) (mk : PySem.W.makesIn K C = true) (kc : PySem.W.keepIn K (.ref C) = true)
    (nB : PySem.W.findIn K (.ref C) "begun" = some none)
    (nZ : PySem.W.findIn K (.ref C) "zero" = some none)
    (nS : PySem.W.findIn K (.ref C) "span" = some none)
    (nM : PySem.W.findIn K (.ref C) "most" = some none)
    (nW : PySem.W.findIn K (.ref C) "window" = some none)
    (nL : PySem.W.findIn K (.ref C) "latest" = some none)
    (gStart : PySem.W.nsIn K mainGlobals "START" = some (some (.int (0) kStart)))
    (gNot : PySem.W.nsIn K mainGlobals "NOT_BEGUN" = some (some (.int (-11) kNot)))
    (gOut : PySem.W.nsIn K mainGlobals "OUT_OF_RANGE" = some (some (.int (-22) kOut)))
    (gLo : PySem.W.nsIn K mainGlobals "LEAST_READING" = some (some (.int (-8388608) kLo)))
    (gHi : PySem.W.nsIn K mainGlobals "GREATEST_READING" = some (some (.int (8388607) kHi)))
    (gLong : PySem.W.nsIn K mainGlobals "LONGEST_FEED" = some (some (.int (1024) kLong)))
    (gRound : PySem.W.nsIn K mainGlobals "ROUND" = some (some (.int (32) kRound)))
    (gReady : PySem.W.nsIn K mainGlobals "READY_FROM" = some (some (.int (94) kReady)))
    (gBelow : PySem.W.nsIn K mainGlobals "MOST_BELOW" = some (some (.int (-20) kBelow)))
    (gAbove : PySem.W.nsIn K mainGlobals "MOST_ABOVE" = some (some (.int (9) kAbove)))
    (zlen : PySem.W.nsIn K mainGlobals "len" = some none)
    (zrange : PySem.W.nsIn K mainGlobals "range" = some none)
    (zsum : PySem.W.nsIn K mainGlobals "sum" = some none)
    (zmax : PySem.W.nsIn K mainGlobals "max" = some none)
    (zmin : PySem.W.nsIn K mainGlobals "min" = some none) :
    ∃ fd : FuncData, (∀ (s : Shared) (us : List Value), us.length = (["calls"] : List Str).length → BindsTo s fd ⟨us, []⟩ ((["calls"] : List Str).zip us)) ∧ ∀ base : Heap, K.In base → base.Ns mainGlobals mg → FnOk P w K mg base CX0 5 fa fd ["calls"] (spAns K) := by
  have e := hfa.symm.trans (PySem.W.mg_of X G aAns)
  cases e
  have T : Txt K mg C := ⟨⟨pg, hd, po, sa⟩, nB, nZ, nS, nM, nW, nL, PySem.W.mg_of X G aC, ⟨_, PySem.W.mg_of X G gStart⟩, ⟨_, PySem.W.mg_of X G gNot⟩, ⟨_, PySem.W.mg_of X G gOut⟩, ⟨_, PySem.W.mg_of X G gLo⟩, ⟨_, PySem.W.mg_of X G gHi⟩, ⟨_, PySem.W.mg_of X G gLong⟩, ⟨_, PySem.W.mg_of X G gRound⟩, ⟨_, PySem.W.mg_of X G gReady⟩, ⟨_, PySem.W.mg_of X G gBelow⟩, ⟨_, PySem.W.mg_of X G gAbove⟩, PySem.W.mg_none_of X G zlen, PySem.W.mg_none_of X G zrange, PySem.W.mg_none_of X G zsum, PySem.W.mg_none_of X G zmax, PySem.W.mg_none_of X G zmin⟩
  have FFit := fun_mk (st := sFit) lFit cFit kFitk
  have FAre := fun_mk (st := sAre) lAre cAre kArek
  have FBox := fun_mk (st := sBox) lBox cBox kBoxk
  have FSmo := fun_mk (st := sSmo) lSmo cSmo kSmok
  have FWei := fun_mk (st := sWei) lWei cWei kWeik
  have FInit := fun_mk (st := sInit) lInit cInit kInitk
  have FStart := fun_mk (st := sStart) lStart cStart kStartk
  have FFeed := fun_mk (st := sFeed) lFeed cFeed kFeedk
  have FTold := fun_mk (st := sTold) lTold cTold kToldk
  have FAns := fun_mk (st := sAns) lAns cAns kAnsk
  have bFit := FFit.binds (ps := ["zero", "span", "most", "window"]) fun _ _ _ _ _ _ us hl => match us, hl with | [_, _, _, _], _ => rfl
  have bAre := FAre.binds (ps := ["numbers"]) fun _ _ _ _ _ _ us hl => match us, hl with | [_], _ => rfl
  have bBox := FBox.binds (ps := ["numbers"]) fun _ _ _ _ _ _ us hl => match us, hl with | [_], _ => rfl
  have bSmo := FSmo.binds (ps := ["readings"]) fun _ _ _ _ _ _ us hl => match us, hl with | [_], _ => rfl
  have bWei := FWei.binds (ps := ["smooth", "zero", "span", "most"]) fun _ _ _ _ _ _ us hl => match us, hl with | [_, _, _, _], _ => rfl
  have bInit := FInit.binds (ps := ["self"]) fun _ _ _ _ _ _ us hl => match us, hl with | [_], _ => rfl
  have bStart := FStart.binds (ps := ["self", "zero", "span", "most", "window"]) fun _ _ _ _ _ _ us hl => match us, hl with | [_, _, _, _, _], _ => rfl
  have bFeed := FFeed.binds (ps := ["self", "numbers"]) fun _ _ _ _ _ _ us hl => match us, hl with | [_, _], _ => rfl
  have bTold := FTold.binds (ps := ["self"]) fun _ _ _ _ _ _ us hl => match us, hl with | [_], _ => rfl
  refine ⟨PySem.W.fnOf "answers" "answers" (defArgs sAns) (defBody sAns) (defScope sAns) .none kVAns dcAns pmAns anAns cdAns ctAns, fun s us hu => match us, hu with | [_], _ => .of_eq rfl, fun base _ _ => ?_⟩
  exact ok_ans FAns T ⟨mk, aInit, iInit, kc⟩ (ok_init FInit T) bInit (ok_start FStart T FFit bFit (PySem.W.mg_of X G aFit)) bStart ⟨aStart, iStart, kStartk⟩
    (ok_feed FFeed T FAre bAre (PySem.W.mg_of X G aAre) (ok_told FTold T FSmo bSmo (PySem.W.mg_of X G aSmo) FBox bBox (PySem.W.mg_of X G aBox) FWei bWei (PySem.W.mg_of X G aWei)) bTold ⟨aTold, iTold, kToldk⟩) bFeed ⟨aFeed, iFeed, kFeedk⟩
end Sw
open PySem PySem.W PyProof.Rows
set_option maxRecDepth 100000 in
set_option maxHeartbeats 8000000 in
theorem PySem.Challenge.cw_steadyweight_s01_answers_holds : PySem.Challenge.rw_steadyweight_s01_answers.Holds := by
  w_on; k_headS; (case hw => exact ⟨[.list [.int 1, .int 0]], by decide +kernel, by decide +kernel⟩)
  k_fillS
  refine L2.walk_specK (r := PySem.Challenge.rw_steadyweight_s01_answers) (k := 5) (CX := L2.CX0) (ps := ["calls"]) (sp := Sw.spAns) (by decide +kernel) rfl rfl ⟨rfl, by decide, by decide⟩ (fun w h Y => PySem.W.kIn_of Y) ?F ?S (fun _ _ _ _ z => z)
  case F =>
    intro w mg fa h Y KX G hmg
    refine' Sw.all_mk KX G hmg ?aC ?aFit ?lFit ?cFit ?kFitk ?aAre ?lAre ?cAre ?kArek ?aBox ?lBox ?cBox ?kBoxk ?aSmo ?lSmo ?cSmo ?kSmok ?aWei ?lWei ?cWei ?kWeik ?aInit ?iInit ?lInit ?cInit ?kInitk ?aStart ?iStart ?lStart ?cStart ?kStartk ?aFeed ?iFeed ?lFeed ?cFeed ?kFeedk ?aTold ?iTold ?lTold ?cTold ?kToldk ?aAns ?lAns ?cAns ?kAnsk ?pg ?hd ?po ?sa ?mk ?kc ?nB ?nZ ?nS ?nM ?nW ?nL ?gStart ?gNot ?gOut ?gLo ?gHi ?gLong ?gRound ?gReady ?gBelow ?gAbove ?zlen ?zrange ?zsum ?zmax ?zmin
    (case aC => k_is)
    (case aFit => k_is)
    (case lFit => k_is)
    (case cFit => k_is)
    (case kFitk => k_is)
    (case aAre => k_is)
    (case lAre => k_is)
    (case cAre => k_is)
    (case kArek => k_is)
    (case aBox => k_is)
    (case lBox => k_is)
    (case cBox => k_is)
    (case kBoxk => k_is)
    (case aSmo => k_is)
    (case lSmo => k_is)
    (case cSmo => k_is)
    (case kSmok => k_is)
    (case aWei => k_is)
    (case lWei => k_is)
    (case cWei => k_is)
    (case kWeik => k_is)
    (case aInit => k_is)
    (case iInit => k_is)
    (case lInit => k_is)
    (case cInit => k_is)
    (case kInitk => k_is)
    (case aStart => k_is)
    (case iStart => k_is)
    (case lStart => k_is)
    (case cStart => k_is)
    (case kStartk => k_is)
    (case aFeed => k_is)
    (case iFeed => k_is)
    (case lFeed => k_is)
    (case cFeed => k_is)
    (case kFeedk => k_is)
    (case aTold => k_is)
    (case iTold => k_is)
    (case lTold => k_is)
    (case cTold => k_is)
    (case kToldk => k_is)
    (case aAns => k_is)
    (case lAns => k_is)
    (case cAns => k_is)
    (case kAnsk => k_is)
    (case pg => k_is)
    (case hd => k_is)
    (case po => k_is)
    (case sa => k_is)
    (case mk => k_is)
    (case kc => k_is)
    (case nB => k_is)
    (case nZ => k_is)
    (case nS => k_is)
    (case nM => k_is)
    (case nW => k_is)
    (case nL => k_is)
    (case gStart => k_is)
    (case gNot => k_is)
    (case gOut => k_is)
    (case gLo => k_is)
    (case gHi => k_is)
    (case gLong => k_is)
    (case gRound => k_is)
    (case gReady => k_is)
    (case gBelow => k_is)
    (case gAbove => k_is)
    (case zlen => k_is)
    (case zrange => k_is)
    (case zsum => k_is)
    (case zmax => k_is)
    (case zmin => k_is)
  case S =>
    intro K H xs a hO hwi hask hx
    cases hx with
    | cons h1 h2 =>
      cases h2
      cases h1 with
      | lst hs ha =>
        have e := L2.ints_dw a.1 _ ha
        subst e
        exact ⟨_, a.1, rfl, hs, Sw.here_first hask, fun H' p hp => .lst (L2.SqL.of hp) (L2.dw_ints _)⟩
#print axioms PySem.Challenge.cw_steadyweight_s01_answers_holds
