import PyProof.Rows.All
import Wide.All
import OpenK.AllK
import Wide.FinOn
import HandS.ForMost
import HandS.Wide
import HandS.Deep
import HandS.IsInst
import HandS.TupMul
import HandS.Flow
import HandS.Call
import HandS.List
import HandS.Evl
import HandS.TupAny
import HandS.Strs
import KE.GoesEnum
import HandS.Iter
import HandS.Base
import HandS.Style
import HandS.Lambda
import HandS.Defaults
import HandS.Head0
import HandS.Head1
import HandS.Head2
import HandS.HeadEnd
import HandS.HeadHook1
import HandS.HeadHook2
import HandS.Words
import HandS.WordsExc
import PySem.Challenge.RW_sevenasone_k04_divided_with_integers_alo
set_option Elab.async false
set_option linter.all false
set_option maxRecDepth 100000
set_option maxHeartbeats 1200000
/-! Counts: lists of ints, by their numbers. -/
namespace Po
def co (a : List Int) (k : Nat) : Int := a.getD k 0
theorem co_nil (k : Nat) : co [] k = 0 := by simp [co]
theorem co_zero (x : Int) (a : List Int) : co (x :: a) 0 = x := rfl
theorem co_succ (x : Int) (a : List Int) (k : Nat) : co (x :: a) (k + 1) = co a k := rfl
theorem co_ge {a : List Int} {k : Nat} (h : a.length ≤ k) : co a k = 0 := by
  unfold co
  rw [List.getD_eq_getElem?_getD, List.getElem?_eq_none h]; rfl
theorem co_some {a : List Int} {k : Nat} {x : Int} (h : a[k]? = some x) : co a k = x := by
  unfold co
  rw [List.getD_eq_getElem?_getD, h]; rfl
theorem co_at {a : List Int} {k : Nat} (h : k < a.length) : a[k]? = some (co a k) := by
  rw [List.getElem?_eq_getElem h, co_some (List.getElem?_eq_getElem h)]
theorem co_set {a : List Int} {i k : Nat} {x : Int} (h : i < a.length) : co (a.set i x) k = if i = k then x else co a k := by
  unfold co
  rw [List.getD_eq_getElem?_getD, List.getD_eq_getElem?_getD, List.getElem?_set]
  by_cases e : i = k
  · subst e; simp [h]
  · simp [e]
theorem co_app {a b : List Int} {k : Nat} : co (a ++ b) k = if k < a.length then co a k else co b (k - a.length) := by
  unfold co
  rw [List.getD_eq_getElem?_getD, List.getD_eq_getElem?_getD, List.getD_eq_getElem?_getD, List.getElem?_append]
  split <;> rfl
theorem co_rep {n k : Nat} : co (List.replicate n 0) k = 0 := by
  unfold co
  rw [List.getD_eq_getElem?_getD, List.getElem?_replicate]
  split <;> rfl
theorem co_map_range {n k : Nat} {f : Nat → Int} (h : ∀ i, n ≤ i → f i = 0) : co ((List.range n).map f) k = f k := by
  by_cases hk : k < n
  · refine co_some ?_
    rw [List.getElem?_map, List.getElem?_range hk]; rfl
  · rw [co_ge (by simp; omega), h k (by omega)]

/-- without zeros at the end -/
def trim : List Int → List Int
  | [] => []
  | a :: as => if trim as = [] ∧ a = 0 then [] else a :: trim as
def Ct (a : List Int) : Prop := trim a = a
theorem trim_cons (x : Int) (a : List Int) : trim (x :: a) = if trim a = [] ∧ x = 0 then [] else x :: trim a := rfl
theorem co_trim : ∀ (a : List Int) (k : Nat), co (trim a) k = co a k
  | [], _ => rfl
  | x :: a, k => by
    rw [trim_cons]
    split
    · rename_i h
      cases k with
      | zero => rw [co_nil, co_zero, h.2]
      | succ k => rw [co_nil, co_succ, ← co_trim a k, h.1, co_nil]
    · cases k with
      | zero => rfl
      | succ k => rw [co_succ, co_succ, co_trim a k]
theorem ct_trim : ∀ a : List Int, Ct (trim a)
  | [] => rfl
  | x :: a => by
    unfold Ct
    rw [trim_cons]
    split
    · rfl
    · rename_i h
      rw [trim_cons, show trim (trim a) = trim a from ct_trim a, if_neg h]
theorem trim_nil {a : List Int} : (∀ k, co a k = 0) → trim a = [] := by
  induction a with
  | nil => intro _; rfl
  | cons x a ih =>
    intro h
    rw [trim_cons, if_pos ⟨ih fun k => h (k + 1), h 0⟩]
theorem ct_tail {x : Int} {a : List Int} (h : Ct (x :: a)) : Ct a := by
  unfold Ct at h ⊢
  rw [trim_cons] at h
  split at h
  · cases h
  · exact (List.cons.inj h).2
theorem ct_ext : ∀ {a b : List Int}, Ct a → Ct b → (∀ k, co a k = co b k) → a = b
  | [], b, _, hb, h => by
    have := trim_nil (a := b) fun k => by rw [← h k, co_nil]
    unfold Ct at hb
    rw [← hb, this]
  | x :: a, [], ha, _, h => by
    have := trim_nil (a := x :: a) fun k => by rw [h k, co_nil]
    unfold Ct at ha
    rw [← ha, this]
  | x :: a, y :: b, ha, hb, h => by
    have h0 : x = y := h 0
    rw [h0, ct_ext (ct_tail ha) (ct_tail hb) fun k => h (k + 1)]
theorem trim_eq {a b : List Int} (h : ∀ k, co a k = co b k) : trim a = trim b :=
  ct_ext (ct_trim a) (ct_trim b) fun k => by rw [co_trim, co_trim, h]
theorem ct_nil : Ct [] := rfl
theorem trim_len : ∀ a : List Int, (trim a).length ≤ a.length
  | [] => Nat.le_refl _
  | x :: a => by
    rw [trim_cons]
    split
    · exact Nat.zero_le _
    · rw [List.length_cons, List.length_cons]
      exact Nat.succ_le_succ (trim_len a)
/-- counts that are not none: the last number -/
theorem ct_last : ∀ {a : List Int}, Ct a → a ≠ [] → co a (a.length - 1) ≠ 0
  | [], _, h => absurd rfl h
  | [x], h, _ => by
    intro z
    have z' : x = 0 := z
    subst z'
    cases h
  | x :: y :: a, h, _ => by
    have := ct_last (ct_tail h) (List.cons_ne_nil y a)
    exact this
theorem ct_of_last : ∀ {a : List Int}, (a ≠ [] → co a (a.length - 1) ≠ 0) → Ct a
  | [], _ => rfl
  | [x], h => by
    unfold Ct
    have z : ¬ (trim [] = [] ∧ x = 0) := fun z => h (List.cons_ne_nil _ _) z.2
    rw [trim_cons, if_neg z]
    rfl
  | x :: y :: a, h => by
    have h1 : Ct (y :: a) := ct_of_last fun _ => h (List.cons_ne_nil _ _)
    unfold Ct at h1 ⊢
    rw [trim_cons, h1, if_neg]
    intro z
    cases z.1
theorem trim_take {a : List Int} {m : Nat} (h : ∀ k, m ≤ k → co a k = 0) (hm : m = 0 ∨ co a (m - 1) ≠ 0) : trim a = a.take m := by
  have hc : ∀ k, co (a.take m) k = co a k := fun k => by
    unfold co
    rw [List.getD_eq_getElem?_getD, List.getD_eq_getElem?_getD, List.getElem?_take]
    split
    · rfl
    · have := h k (by omega)
      unfold co at this
      rw [List.getD_eq_getElem?_getD] at this
      rw [this]; rfl
  have hl : m ≤ a.length := by
    rcases hm with hm | hm
    · omega
    · by_cases z : m ≤ a.length
      · exact z
      · exact absurd (co_ge (by omega)) hm
  have c2 : Ct (a.take m) := ct_of_last fun hne => by
    rw [List.length_take, Nat.min_eq_left hl, hc]
    rcases hm with hm | hm
    · subst hm; exact absurd (List.take_zero) hne
    · exact hm
  exact ct_ext (ct_trim a) c2 fun k => by rw [co_trim, hc]

/-! ### sums -/
def sumTo : Nat → (Nat → Int) → Int
  | 0, _ => 0
  | n + 1, f => sumTo n f + f n
theorem sumTo_congr {f g : Nat → Int} : ∀ {n : Nat}, (∀ i, i < n → f i = g i) → sumTo n f = sumTo n g
  | 0, _ => rfl
  | n + 1, h => by
    show sumTo n f + f n = sumTo n g + g n
    rw [sumTo_congr fun i hi => h i (by omega), h n (by omega)]
theorem sumTo_zero {f : Nat → Int} {n : Nat} (h : ∀ i, i < n → f i = 0) : sumTo n f = 0 := by
  induction n with
  | zero => rfl
  | succ n ih =>
    show sumTo n f + f n = 0
    rw [ih fun i hi => h i (by omega), h n (by omega)]; rfl
theorem sumTo_one {f : Nat → Int} {n m : Nat} (hm : m < n) (h : ∀ i, i < n → i ≠ m → f i = 0) : sumTo n f = f m := by
  induction n with
  | zero => omega
  | succ n ih =>
    show sumTo n f + f n = f m
    by_cases e : m = n
    · subst e
      rw [sumTo_zero fun i hi => h i (by omega) (by omega)]
      omega
    · rw [ih (by omega) fun i hi hne => h i (by omega) hne, h n (by omega) (by omega)]
      omega
theorem sumTo_add {f g : Nat → Int} : ∀ n : Nat, sumTo n (fun i => f i + g i) = sumTo n f + sumTo n g
  | 0 => rfl
  | n + 1 => by
    show sumTo n _ + (f n + g n) = (sumTo n f + f n) + (sumTo n g + g n)
    rw [sumTo_add n]
    omega
theorem sumTo_sub {f g : Nat → Int} : ∀ n : Nat, sumTo n (fun i => f i - g i) = sumTo n f - sumTo n g
  | 0 => rfl
  | n + 1 => by
    show sumTo n _ + (f n - g n) = (sumTo n f + f n) - (sumTo n g + g n)
    rw [sumTo_sub n]
    omega
theorem sumTo_mul {f : Nat → Int} (c : Int) : ∀ n : Nat, sumTo n (fun i => c * f i) = c * sumTo n f
  | 0 => by show (0 : Int) = c * 0; rw [Int.mul_zero]
  | n + 1 => by
    show sumTo n _ + c * f n = c * (sumTo n f + f n)
    rw [sumTo_mul c n, Int.mul_add]
theorem sumTo_more {f : Nat → Int} {n : Nat} (h : ∀ i, n ≤ i → f i = 0) : ∀ d : Nat, sumTo (n + d) f = sumTo n f
  | 0 => rfl
  | d + 1 => by
    show sumTo (n + d) f + f (n + d) = sumTo n f
    rw [sumTo_more h d, h (n + d) (by omega)]
    omega
theorem sumTo_le {f : Nat → Int} {n m : Nat} (hnm : n ≤ m) (h : ∀ i, n ≤ i → f i = 0) : sumTo m f = sumTo n f := by
  have := sumTo_more h (m - n)
  rwa [show n + (m - n) = m by omega] at this

/-! ### products: cv N f g at k, the sum of f i * g (k - i), i below N -/
def cv (N : Nat) (f g : Nat → Int) (k : Nat) : Int := sumTo N fun i => if i ≤ k then f i * g (k - i) else 0
theorem cv_le {N M : Nat} {f g : Nat → Int} {k : Nat} (h : N ≤ M) (hf : ∀ i, N ≤ i → f i = 0) : cv M f g k = cv N f g k := by
  unfold cv
  refine sumTo_le h fun i hi => ?_
  rw [hf i hi, Int.zero_mul]
  split <;> rfl
theorem cv_sub {N : Nat} {f f' g : Nat → Int} {k : Nat} : cv N (fun i => f i - f' i) g k = cv N f g k - cv N f' g k := by
  unfold cv
  rw [← sumTo_sub]
  refine sumTo_congr fun i _ => ?_
  show (if i ≤ k then (f i - f' i) * g (k - i) else 0) = (if i ≤ k then f i * g (k - i) else 0) - (if i ≤ k then f' i * g (k - i) else 0)
  split
  · rw [Int.sub_mul]
  · rfl
theorem cv_congr {N : Nat} {f f' g g' : Nat → Int} {k : Nat} (h : ∀ i, i < N → f i = f' i) (h' : ∀ i, g i = g' i) : cv N f g k = cv N f' g' k := by
  unfold cv
  refine sumTo_congr fun i hi => ?_
  rw [h i hi, h' (k - i)]
theorem cv_mulr {N : Nat} {f g : Nat → Int} {k : Nat} (c : Int) : cv N f (fun i => c * g i) k = c * cv N f g k := by
  unfold cv
  rw [← sumTo_mul]
  refine sumTo_congr fun i _ => ?_
  show (if i ≤ k then f i * (c * g (k - i)) else 0) = c * (if i ≤ k then f i * g (k - i) else 0)
  split
  · rw [← Int.mul_assoc, Int.mul_comm (f i) c, Int.mul_assoc]
  · rw [Int.mul_zero]
theorem cv_mull {N : Nat} {f g : Nat → Int} {k : Nat} (c : Int) : cv N (fun i => c * f i) g k = c * cv N f g k := by
  unfold cv
  rw [← sumTo_mul]
  refine sumTo_congr fun i _ => ?_
  show (if i ≤ k then c * f i * g (k - i) else 0) = c * (if i ≤ k then f i * g (k - i) else 0)
  split
  · rw [Int.mul_assoc]
  · rw [Int.mul_zero]
theorem cv_top {N m n : Nat} {f g : Nat → Int} (hm : m < N) (hf : ∀ i, m < i → f i = 0) (hg : ∀ j, n < j → g j = 0) : cv N f g (m + n) = f m * g n := by
  unfold cv
  rw [sumTo_one hm fun i _ hne => ?_]
  · rw [if_pos (by omega), show m + n - m = n by omega]
  · show (if i ≤ m + n then f i * g (m + n - i) else 0) = 0
    split
    · by_cases h : m < i
      · rw [hf i h, Int.zero_mul]
      · rw [hg _ (by omega), Int.mul_zero]
    · rfl
theorem cv_above {N m n k : Nat} {f g : Nat → Int} (hf : ∀ i, m < i → f i = 0) (hg : ∀ j, n < j → g j = 0) (hk : m + n < k) : cv N f g k = 0 := by
  unfold cv
  refine sumTo_zero fun i _ => ?_
  split
  · by_cases h : m < i
    · rw [hf i h, Int.zero_mul]
    · rw [hg _ (by omega), Int.mul_zero]
  · rfl
theorem cv_low {N p : Nat} {f g : Nat → Int} (hp : p < N) (hf : ∀ i, i < p → f i = 0) : cv N f g p = f p * g 0 := by
  unfold cv
  rw [sumTo_one hp fun i _ hne => ?_]
  · rw [if_pos (Nat.le_refl _), Nat.sub_self]
  · show (if i ≤ p then f i * g (p - i) else 0) = 0
    split
    · rw [hf i (by omega), Int.zero_mul]
    · rfl
theorem cv_zero {N k : Nat} {f g : Nat → Int} (hf : ∀ i, i < N → f i = 0) : cv N f g k = 0 := by
  unfold cv
  refine sumTo_zero fun i hi => ?_
  rw [hf i hi, Int.zero_mul]
  split <;> rfl
/-- one number more at a place -/
theorem cv_put {N s k : Nat} {f f' g : Nat → Int} {c : Int} (hs : s < N) (h : ∀ i, f' i = if s = i then c else f i) (h0 : f s = 0) : cv N f' g k = cv N f g k + if s ≤ k then c * g (k - s) else 0 := by
  have e1 : cv N f' g k = cv N (fun i => f i - (fun i => if s = i then - c else 0) i) g k := cv_congr (fun i _ => by
    rw [h i]
    show (if s = i then c else f i) = f i - (if s = i then -c else 0)
    by_cases e : s = i
    · subst e; rw [if_pos rfl, if_pos rfl, h0]; omega
    · rw [if_neg e, if_neg e]; omega) fun _ => rfl
  have e2 : cv N (fun i => if s = i then - c else 0) g k = - (if s ≤ k then c * g (k - s) else 0) := by
    unfold cv
    rw [sumTo_one hs fun i _ hne => ?_]
    · show (if s ≤ k then (if s = s then -c else 0) * g (k - s) else 0) = _
      rw [if_pos rfl]
      split
      · rw [Int.neg_mul]
      · rfl
    · show (if i ≤ k then (if s = i then -c else 0) * g (k - i) else 0) = 0
      rw [if_neg (Ne.symm hne), Int.zero_mul]
      split <;> rfl
  rw [e1, cv_sub, e2]
  omega
theorem top_ex {d : Nat → Int} : ∀ {N : Nat}, (∀ i, N ≤ i → d i = 0) → (∀ i, d i = 0) ∨ ∃ m, m < N ∧ d m ≠ 0 ∧ ∀ i, m < i → d i = 0
  | 0, h => .inl fun i => h i (Nat.zero_le _)
  | N + 1, h => by
    by_cases e : d N = 0
    · rcases top_ex (d := d) (N := N) fun i hi => by
        by_cases z : i = N
        · rw [z]; exact e
        · exact h i (by omega) with q | ⟨m, h1, h2, h3⟩
      · exact .inl q
      · exact .inr ⟨m, by omega, h2, h3⟩
    · exact .inr ⟨N, by omega, e, fun i hi => h i (by omega)⟩
/-- what is left is none, if it is a product -/
theorem rest_none {N : Nat} {d : Nat → Int} {b l : List Int} (hb : Ct b) (hne : b ≠ []) (hl : Ct l) (hd : ∀ i, N ≤ i → d i = 0) (h : ∀ k, co l k = cv N d (co b) k)
    (stop : l.length < b.length ∨ ¬ (co b (b.length - 1) ∣ co l (l.length - 1))) : l = [] ∧ ∀ i, d i = 0 := by
  rcases top_ex hd with z | ⟨m, h1, h2, h3⟩
  · refine ⟨?_, z⟩
    have := trim_nil (a := l) fun k => by rw [h k, cv_zero fun i _ => z i]
    unfold Ct at hl
    rw [← hl, this]
  · exfalso
    have hbl : 0 < b.length := List.length_pos_iff.mpr hne
    have hb0 := ct_last hb hne
    have hg : ∀ j, b.length - 1 < j → co b j = 0 := fun j hj => co_ge (by omega)
    have t := h (m + (b.length - 1))
    rw [cv_top h1 h3 hg] at t
    have tn : co l (m + (b.length - 1)) ≠ 0 := by
      rw [t]
      exact Int.mul_ne_zero h2 hb0
    have len1 : m + (b.length - 1) < l.length := by
      by_cases q : m + (b.length - 1) < l.length
      · exact q
      · exact absurd (co_ge (by omega)) tn
    have lne : l ≠ [] := fun z => by rw [z] at len1; exact absurd len1 (Nat.not_lt_zero _)
    have len2 : l.length - 1 = m + (b.length - 1) := by
      by_cases q : m + (b.length - 1) < l.length - 1
      · have := ct_last hl lne
        rw [h, cv_above h3 hg q] at this
        exact absurd rfl this
      · omega
    rcases stop with s | s
    · omega
    · rw [len2, t] at s
      exact s (Int.dvd_mul_left ..)

/-! ### what the program reckons -/
def addC (a b : List Int) (f : Int) : List Int := trim ((List.range (max a.length b.length)).map fun k => co a k + f * co b k)
theorem co_addC {a b : List Int} {f : Int} {k : Nat} : co (addC a b f) k = co a k + f * co b k := by
  unfold addC
  rw [co_trim, co_map_range (n := max a.length b.length) fun i hi => ?_]
  rw [co_ge (a := a) (by omega), co_ge (a := b) (by omega), Int.mul_zero]; rfl
theorem ct_addC {a b : List Int} {f : Int} : Ct (addC a b f) := ct_trim _
theorem len_addC {a b : List Int} {f : Int} : (addC a b f).length ≤ max a.length b.length := by
  unfold addC
  refine Nat.le_trans (trim_len _) ?_
  rw [List.length_map, List.length_range]
  exact Nat.le_refl _
def mulC (a b : List Int) : List Int := trim ((List.range (a.length + b.length)).map (cv a.length (co a) (co b)))
theorem cv_beyond {a b : List Int} {k : Nat} (h : a.length + b.length ≤ k) : cv a.length (co a) (co b) k = 0 := by
  unfold cv
  refine sumTo_zero fun i hi => ?_
  split
  · rw [co_ge (a := b) (by omega), Int.mul_zero]
  · rfl
theorem co_mulC {a b : List Int} {k : Nat} : co (mulC a b) k = cv a.length (co a) (co b) k := by
  unfold mulC
  rw [co_trim, co_map_range (n := a.length + b.length) fun i hi => cv_beyond hi]
theorem ct_mulC {a b : List Int} : Ct (mulC a b) := ct_trim _
theorem len_mulC {a b : List Int} : (mulC a b).length ≤ a.length + b.length := by
  unfold mulC
  refine Nat.le_trans (trim_len _) ?_
  rw [List.length_map, List.length_range]
  exact Nat.le_refl _
theorem co_mulC_le {a b : List Int} {k N : Nat} (h : a.length ≤ N) : co (mulC a b) k = cv N (co a) (co b) k := by
  rw [co_mulC, cv_le h fun i hi => co_ge hi]
def movC (n : Nat) (a : List Int) : List Int := if a = [] then [] else List.replicate n 0 ++ a
theorem co_movC {n : Nat} {a : List Int} {k : Nat} : co (movC n a) k = if n ≤ k then co a (k - n) else 0 := by
  unfold movC
  split
  · rename_i h
    rw [co_nil, h, co_nil]
    split <;> rfl
  · rw [co_app, List.length_replicate]
    split
    · rw [co_rep, if_neg (by omega)]
    · rw [if_pos (by omega)]
theorem ct_movC {n : Nat} {a : List Int} (h : Ct a) : Ct (movC n a) := by
  unfold movC
  split
  · exact ct_nil
  · rename_i hne
    refine ct_of_last fun _ => ?_
    have hl : 0 < a.length := List.length_pos_iff.mpr hne
    rw [List.length_append, List.length_replicate, co_app, List.length_replicate, if_neg (by omega), show n + a.length - 1 - n = a.length - 1 by omega]
    exact ct_last h hne
/-! division from the top -/
def subAt (l : List Int) (s : Nat) (f : Int) (b : List Int) : List Int := (List.range l.length).map fun k => co l k - if s ≤ k then f * co b (k - s) else 0
theorem len_subAt {l : List Int} {s : Nat} {f : Int} {b : List Int} : (subAt l s f b).length = l.length := by
  unfold subAt
  rw [List.length_map, List.length_range]
theorem co_subAt {l : List Int} {s : Nat} {f : Int} {b : List Int} {k : Nat} (h : s + b.length ≤ l.length) : co (subAt l s f b) k = co l k - if s ≤ k then f * co b (k - s) else 0 := by
  unfold subAt
  rw [co_map_range (n := l.length) fun i hi => ?_]
  rw [co_ge hi]
  split
  · rw [co_ge (a := b) (by omega), Int.mul_zero]; rfl
  · rfl
def lastC (a : List Int) : Int := co a (a.length - 1)
def divGo : Nat → List Int → List Int → List Int → List Int × List Int
  | 0, l, q, _ => (q, l)
  | n + 1, l, q, b => if b.length ≤ l.length ∧ (lastC l).fmod (lastC b) = 0 then
      divGo n (trim (subAt l (l.length - b.length) ((lastC l).fdiv (lastC b)) b)) (q.set (l.length - b.length) ((lastC l).fdiv (lastC b))) b
    else (q, l)
def divC (c b : List Int) : List Int × List Int :=
  let r := divGo (c.length + 1) c (List.replicate ((c.length : Int) - (b.length : Int) + 1).toNat 0) b
  (trim r.1, r.2)
/-- the lists between two turns of the division: q * b + l is c -/
structure Dv (c b q l : List Int) : Prop where
  ctl : Ct l
  len : q.length = ((c.length : Int) - (b.length : Int) + 1).toNat
  lel : l.length ≤ c.length
  eq : ∀ k, co c k = cv q.length (co q) (co b) k + co l k
  lo : ∀ k, l.length < k + b.length → True
  zq : ∀ k, l.length < k + b.length ∨ co q k = 0
theorem fmod_dvd {x y : Int} : x.fmod y = 0 ↔ y ∣ x := by
  rw [Int.fmod_eq_emod]
  constructor
  · intro h
    by_cases hd : 0 ≤ y ∨ y ∣ x
    · rw [if_pos hd] at h
      exact Int.dvd_of_emod_eq_zero (by omega)
    · rw [if_neg hd] at h
      have h2 := Int.emod_lt x (b := y) (fun z => hd (.inl (by omega)))
      have h3 := Int.emod_nonneg x (b := y) (fun z => hd (.inl (by omega)))
      have : y < 0 := by
        by_cases z : 0 ≤ y
        · exact absurd (.inl z) hd
        · omega
      omega
  · intro h
    rw [if_pos (.inr h), Int.emod_eq_zero_of_dvd h]; rfl
theorem fdiv_dvd {x y : Int} (h : y ∣ x) : x.fdiv y * y = x := by
  have := Int.mul_fdiv_add_fmod x y
  rw [fmod_dvd.mpr h] at this
  rw [Int.mul_comm]
  omega
theorem Dv.step {c b q l : List Int} (h : Dv c b q l) (hb : Ct b) (hne : b ≠ []) (hl : b.length ≤ l.length) (hd : (lastC l).fmod (lastC b) = 0) :
    Dv c b (q.set (l.length - b.length) ((lastC l).fdiv (lastC b))) (trim (subAt l (l.length - b.length) ((lastC l).fdiv (lastC b)) b)) ∧
    (trim (subAt l (l.length - b.length) ((lastC l).fdiv (lastC b)) b)).length < l.length ∧ l.length - b.length < q.length := by
  have hbl : 0 < b.length := List.length_pos_iff.mpr hne
  have hsub : ∀ k, co (subAt l (l.length - b.length) ((lastC l).fdiv (lastC b)) b) k = co l k - if l.length - b.length ≤ k then (lastC l).fdiv (lastC b) * co b (k - (l.length - b.length)) else 0 := fun k => co_subAt (by omega)
  have htop : co (subAt l (l.length - b.length) ((lastC l).fdiv (lastC b)) b) (l.length - 1) = 0 := by
    rw [hsub, if_pos (by omega), show l.length - 1 - (l.length - b.length) = b.length - 1 by omega]
    have := fdiv_dvd (fmod_dvd.mp hd)
    unfold lastC at this ⊢
    omega
  have hlen : (trim (subAt l (l.length - b.length) ((lastC l).fdiv (lastC b)) b)).length < l.length := by
    have h1 := trim_len (subAt l (l.length - b.length) ((lastC l).fdiv (lastC b)) b)
    rw [len_subAt] at h1
    by_cases e : (trim (subAt l (l.length - b.length) ((lastC l).fdiv (lastC b)) b)).length = l.length
    · have hne2 : trim (subAt l (l.length - b.length) ((lastC l).fdiv (lastC b)) b) ≠ [] := fun z => by rw [z] at e; simp at e; omega
      have := ct_last (ct_trim _) hne2
      rw [e, co_trim, htop] at this
      exact absurd rfl this
    · omega
  have hsq : l.length - b.length < q.length := by
    have := h.len
    have := h.lel
    omega
  have hz : co q (l.length - b.length) = 0 := by
    rcases h.zq (l.length - b.length) with z | z
    · omega
    · exact z
  refine ⟨⟨ct_trim _, by rw [List.length_set]; exact h.len, by have := h.lel; omega, fun k => ?_, fun _ _ => trivial, fun k => ?_⟩, hlen, hsq⟩
  · rw [List.length_set, cv_put (f := co q) (c := (lastC l).fdiv (lastC b)) hsq (fun i => co_set hsq) hz, co_trim, hsub, h.eq k]
    omega
  · by_cases e : (trim (subAt l (l.length - b.length) ((lastC l).fdiv (lastC b)) b)).length < k + b.length
    · exact .inl e
    · refine .inr ?_
      rw [co_set hsq, if_neg (by omega)]
      rcases h.zq k with z | z
      · exfalso; omega
      · exact z
theorem divGo_ok {c b : List Int} (hb : Ct b) (hne : b ≠ []) : ∀ {n : Nat} {q l : List Int}, Dv c b q l → l.length < n →
    Dv c b (divGo n l q b).1 (divGo n l q b).2 ∧ ¬ (b.length ≤ (divGo n l q b).2.length ∧ (lastC (divGo n l q b).2).fmod (lastC b) = 0)
  | 0, _, _, _, h => absurd h (Nat.not_lt_zero _)
  | n + 1, q, l, D, h => by
    rw [divGo]
    split
    · rename_i hc
      obtain ⟨D2, h2, _⟩ := D.step hb hne hc.1 hc.2
      exact divGo_ok hb hne D2 (by omega)
    · rename_i hc
      exact ⟨D, hc⟩
theorem Dv.start {c b : List Int} (hc : Ct c) (hne : b ≠ []) : Dv c b (List.replicate ((c.length : Int) - (b.length : Int) + 1).toNat 0) c where
  ctl := hc
  len := List.length_replicate
  lel := Nat.le_refl _
  eq := fun k => by rw [cv_zero fun i _ => co_rep]; omega
  lo := fun _ _ => trivial
  zq := fun k => .inr co_rep
/-- what divided tells -/
structure DvEnd (c b q l : List Int) : Prop where
  ctq : Ct q
  ctl : Ct l
  lel : l.length ≤ c.length
  leq : q.length ≤ ((c.length : Int) - (b.length : Int) + 1).toNat
  eq : ∀ N k, q.length ≤ N → co c k = cv N (co q) (co b) k + co l k
  stop : l.length < b.length ∨ ¬ (lastC b ∣ lastC l)
theorem divC_ok {c b : List Int} (hc : Ct c) (hb : Ct b) (hne : b ≠ []) : DvEnd c b (divC c b).1 (divC c b).2 := by
  obtain ⟨D, h⟩ := divGo_ok hb hne (Dv.start hc hne) (Nat.lt_succ_self c.length)
  refine ⟨ct_trim _, D.ctl, D.lel, ?_, fun N k hN => ?_, ?_⟩
  · refine Nat.le_trans (trim_len _) ?_
    rw [D.len]; exact Nat.le_refl _
  · have e : ∀ M, (trim (divGo (c.length + 1) c (List.replicate ((c.length : Int) - (b.length : Int) + 1).toNat 0) b).1).length ≤ M → cv M (co (trim (divGo (c.length + 1) c (List.replicate ((c.length : Int) - (b.length : Int) + 1).toNat 0) b).1)) (co b) k = cv (divGo (c.length + 1) c (List.replicate ((c.length : Int) - (b.length : Int) + 1).toNat 0) b).1.length (co (divGo (c.length + 1) c (List.replicate ((c.length : Int) - (b.length : Int) + 1).toNat 0) b).1) (co b) k := fun M hM => by
      rw [cv_le hM fun i hi => co_ge hi, ← cv_le (M := (divGo (c.length + 1) c (List.replicate ((c.length : Int) - (b.length : Int) + 1).toNat 0) b).1.length) (trim_len _) fun i hi => co_ge hi]
      exact cv_congr (fun i _ => co_trim _ i) fun _ => rfl
    show co c k = cv N (co (trim _)) (co b) k + _
    rw [e N hN]
    exact D.eq k
  · by_cases z : (divC c b).2.length < b.length
    · exact .inl z
    · exact .inr fun d => h ⟨by show b.length ≤ (divC c b).2.length; omega, fmod_dvd.mpr d⟩
/-- a product is divided -/
theorem divC_prod {c b r : List Int} (hc : Ct c) (hb : Ct b) (hne : b ≠ []) (hr : Ct r) (h : ∀ k, co c k = cv r.length (co r) (co b) k) : divC c b = (r, []) := by
  have D := divC_ok hc hb hne
  obtain ⟨N, h1, h2⟩ : ∃ N, (divC c b).1.length ≤ N ∧ r.length ≤ N := ⟨max (divC c b).1.length r.length, by omega, by omega⟩
  have key := rest_none (N := N) (d := fun i => co r i - co (divC c b).1 i) hb hne D.ctl (fun i hi => by
    show co r i - co _ i = 0
    rw [co_ge (a := r) (by omega), co_ge (a := (divC c b).1) (by omega)]; rfl) (fun k => by
    rw [cv_sub, cv_le h2 fun i hi => co_ge hi, ← h k, D.eq N k h1]
    omega) D.stop
  have e : (divC c b).1 = r := ct_ext D.ctq hr fun k => by
    have := key.2 k
    have this : co r k - co (divC c b).1 k = 0 := this
    omega
  exact Prod.ext e key.1
theorem divC_some {c b : List Int} (hc : Ct c) (hb : Ct b) (hne : b ≠ []) (h : (divC c b).2 = []) : ∀ k, co c k = cv (divC c b).1.length (co (divC c b).1) (co b) k := fun k => by
  have D := divC_ok hc hb hne
  have := D.eq _ k (Nat.le_refl _)
  rw [h, co_nil] at this
  omega

theorem co_dropLast {a : List Int} {k : Nat} : co a.dropLast k = if k < a.length - 1 then co a k else 0 := by
  unfold co
  rw [List.getD_eq_getElem?_getD, List.getD_eq_getElem?_getD, List.getElem?_dropLast]
  split <;> rfl
theorem trim_dropLast {a : List Int} (h : lastC a = 0) : trim a.dropLast = trim a := trim_eq fun k => by
  rw [co_dropLast]
  split
  · rfl
  · by_cases e : k = a.length - 1
    · subst e; exact h.symm
    · rw [co_ge (by omega)]
theorem trim_ct {a : List Int} (h : a = [] ∨ lastC a ≠ 0) : trim a = a := ct_of_last fun hne => by
  rcases h with h | h
  · exact absurd h hne
  · exact h
end Po

set_option Elab.async false
set_option linter.all false
set_option maxHeartbeats 1200000
/-! dividing from the lowest place on -/
namespace Po
def solGo (b : List Int) : Nat → Nat → List Int → List Int → Option (List Int)
  | 0, _, l, f => if trim l = [] then some (trim f) else none
  | n + 1, p, l, f => if (co l p).fmod (co b 0) ≠ 0 then none else solGo b n (p + 1) (subAt l p ((co l p).fdiv (co b 0)) b) (f ++ [(co l p).fdiv (co b 0)])
def solN (c b : List Int) : Nat := ((c.length : Int) - (b.length : Int) + 1).toNat
def solC (c b : List Int) : Option (List Int) := solGo b (solN c b) 0 c []
theorem cv_app {f : List Int} {x : Int} {g : Nat → Int} {k : Nat} : cv (f ++ [x]).length (co (f ++ [x])) g k = cv f.length (co f) g k + if f.length ≤ k then x * g (k - f.length) else 0 := by
  rw [List.length_append, List.length_singleton]
  show sumTo f.length _ + _ = _
  have e : sumTo f.length (fun i => if i ≤ k then co (f ++ [x]) i * g (k - i) else 0) = cv f.length (co f) g k := sumTo_congr fun i hi => by
    rw [co_app, if_pos hi]
  have e2 : co (f ++ [x]) f.length = x := by
    rw [co_app, if_neg (by omega), Nat.sub_self]; rfl
  show sumTo f.length (fun i => if i ≤ k then co (f ++ [x]) i * g (k - i) else 0) + (if f.length ≤ k then co (f ++ [x]) f.length * g (k - f.length) else 0) = _
  rw [e, e2]
theorem sol_some {c b : List Int} (hb : b ≠ []) : ∀ {n p : Nat} {l f q : List Int}, solGo b n p l f = some q → f.length = p → p + n = solN c b → l.length = c.length → (∀ k, co c k = cv f.length (co f) (co b) k + co l k) →
    Ct q ∧ ∀ k, co c k = cv q.length (co q) (co b) k
  | 0, p, l, f, q, h, hf, hn, hl, he => by
    rw [solGo] at h
    split at h
    · rename_i h0
      cases h
      refine ⟨ct_trim f, fun k => ?_⟩
      have hl0 : co l k = 0 := by rw [← co_trim, h0, co_nil]
      rw [he k, hl0]
      rw [show cv (trim f).length (co (trim f)) (co b) k = cv f.length (co (trim f)) (co b) k from (cv_le (trim_len f) fun i hi => co_ge hi).symm]
      rw [cv_congr (f := co f) (f' := co (trim f)) (fun i _ => (co_trim f i).symm) (fun _ => rfl)]
      omega
    · cases h
  | n + 1, p, l, f, q, h, hf, hn, hl, he => by
    rw [solGo] at h
    split at h
    · cases h
    · have hlb : p + b.length ≤ l.length := by
        unfold solN at hn
        omega
      refine sol_some hb h (by rw [List.length_append, List.length_singleton, hf]) (by omega) (by rw [len_subAt]; exact hl) fun k => ?_
      rw [cv_app, co_subAt hlb, hf, he k, hf]
      omega
theorem sol_prod {c b q : List Int} (hb : b ≠ []) (hb0 : co b 0 ≠ 0) (hq : Ct q) (hlen : q.length ≤ solN c b) : ∀ {n p : Nat} {l f : List Int}, f.length = p → p + n = solN c b → l.length = c.length → (∀ j, j < p → co f j = co q j) →
    (∀ k, co l k = cv (solN c b) (fun i => co q i - co f i) (co b) k) → solGo b n p l f = some q
  | 0, p, l, f, hf, hn, hl, hj, he => by
    rw [solGo]
    have z : ∀ i, co q i - co f i = 0 := fun i => by
      by_cases hi : i < p
      · rw [hj i hi]; omega
      · rw [co_ge (a := q) (by omega), co_ge (a := f) (by omega)]; rfl
    rw [if_pos (trim_nil fun k => by rw [he k, cv_zero fun i _ => z i])]
    refine congrArg some (ct_ext (ct_trim f) hq fun k => ?_)
    rw [co_trim]
    have := z k
    omega
  | n + 1, p, l, f, hf, hn, hl, hj, he => by
    have hfp : co f p = 0 := co_ge (by omega)
    have hlow : co l p = co q p * co b 0 := by
      rw [he p, cv_low (by omega) fun i hi => ?_]
      · show (co q p - co f p) * co b 0 = _
        rw [hfp, Int.sub_zero]
      · show co q i - co f i = 0
        rw [hj i hi]; omega
    have hd : co b 0 ∣ co l p := by rw [hlow]; exact Int.dvd_mul_left _ _
    have hx : (co l p).fdiv (co b 0) = co q p := by
      have := fdiv_dvd hd
      rw [hlow] at this ⊢
      exact Int.eq_of_mul_eq_mul_right hb0 this
    rw [solGo, if_neg (fun z => z (fmod_dvd.mpr hd)), hx]
    have hlb : p + b.length ≤ l.length := by
      unfold solN at hn
      omega
    refine sol_prod hb hb0 hq hlen (by rw [List.length_append, List.length_singleton, hf]) (by omega) (by rw [len_subAt]; exact hl) (fun j hj' => ?_) fun k => ?_
    · rw [co_app]
      split
      · exact hj j (by omega)
      · rw [show j - f.length = 0 by omega, show j = p by omega]; rfl
    · rw [co_subAt hlb, he k]
      have hput := cv_put (N := solN c b) (s := p) (k := k) (f := fun i => co q i - co (f ++ [co q p]) i) (f' := fun i => co q i - co f i) (g := co b) (c := co q p) (by omega) (fun i => by
        show co q i - co f i = if p = i then co q p else co q i - co (f ++ [co q p]) i
        rw [co_app]
        by_cases e : p = i
        · subst e; rw [if_pos rfl, hfp]; omega
        · rw [if_neg e]
          split
          · rfl
          · rw [co_ge (a := f) (by omega), co_ge (a := [co q p]) (by simp; omega)]) (by
        show co q p - co (f ++ [co q p]) p = 0
        rw [co_app, if_neg (by omega), show p - f.length = 0 by omega, co_zero]; omega)
      rw [hput]
      omega
theorem sol_div {c b : List Int} (hc : Ct c) (hb : Ct b) (hne : b ≠ []) (hb0 : co b 0 ≠ 0) : solC c b = if (divC c b).2 = [] then some (divC c b).1 else none := by
  have D := divC_ok hc hb hne
  split
  · rename_i h
    refine sol_prod hne hb0 D.ctq D.leq rfl (by rw [Nat.zero_add]) rfl (fun j hj => absurd hj (Nat.not_lt_zero _)) fun k => ?_
    rw [D.eq (solN c b) k D.leq, h, co_nil]
    have : cv (solN c b) (co (divC c b).1) (co b) k = cv (solN c b) (fun i => co (divC c b).1 i - co [] i) (co b) k := cv_congr (fun i _ => by rw [co_nil]; omega) (fun _ => rfl)
    omega
  · rename_i h
    cases e : solC c b with
    | none => rfl
    | some q =>
      obtain ⟨cq, hq⟩ := sol_some (c := c) hne e rfl (by rw [Nat.zero_add]) rfl fun k => by
        show co c k = cv 0 _ _ k + co c k
        have : cv 0 (co []) (co b) k = 0 := rfl
        omega
      rw [divC_prod hc hb hne cq hq] at h
      exact absurd rfl h
/-! number times counts -/
theorem mul_one_list {a : List Int} {n : Int} {k : Nat} (hn : n ≠ 0) : co (mulC a [n]) k = n * co a k := by
  rw [co_mulC]
  unfold cv
  by_cases hk : k < a.length
  · rw [sumTo_one hk fun i hi hne => ?_]
    · rw [if_pos (Nat.le_refl _), Nat.sub_self, co_zero, Int.mul_comm]
    · split
      · rw [co_ge (a := [n]) (by simp; omega), Int.mul_zero]
      · rfl
  · rw [co_ge (a := a) (by omega), Int.mul_zero]
    refine sumTo_zero fun i hi => ?_
    split
    · rw [co_ge (a := [n]) (by simp; omega), Int.mul_zero]
    · rfl
theorem ct_ne {a : List Int} (h : Ct a) (k : Nat) (hk : co a k ≠ 0) : a ≠ [] := fun z => hk (by rw [z, co_nil])
/-- some times by, divided by number times by -/
theorem shares {s b : List Int} {n : Int} (hs : Ct s) (hb : Ct b) (hne : b ≠ []) (hn : n ≠ 0) : ((divC (mulC s b) (mulC b [n])).2 = [] ↔ ∀ k, n ∣ co s k) := by
  have hgne : mulC b [n] ≠ [] := ct_ne ct_mulC (b.length - 1) (by
    rw [mul_one_list hn]
    exact Int.mul_ne_zero hn (ct_last hb hne))
  constructor
  · intro h k
    have e := divC_some ct_mulC ct_mulC hgne h
    obtain ⟨N, h1, h2⟩ : ∃ N, (divC (mulC s b) (mulC b [n])).1.length ≤ N ∧ s.length ≤ N := ⟨max (divC (mulC s b) (mulC b [n])).1.length s.length, by omega, by omega⟩
    have key := rest_none (N := N) (d := fun i => co s i - n * co (divC (mulC s b) (mulC b [n])).1 i) (l := []) hb hne ct_nil (fun i hi => by
      show co s i - n * co _ i = 0
      rw [co_ge (a := s) (by omega), co_ge (a := (divC (mulC s b) (mulC b [n])).1) (by omega), Int.mul_zero]; rfl) (fun k => by
      have a1 : cv N (fun i => n * co (divC (mulC s b) (mulC b [n])).1 i) (co b) k = n * cv N (co (divC (mulC s b) (mulC b [n])).1) (co b) k := cv_mull n
      have a2 : cv N (co (divC (mulC s b) (mulC b [n])).1) (co (mulC b [n])) k = n * cv N (co (divC (mulC s b) (mulC b [n])).1) (co b) k := by
        rw [cv_congr (f' := co (divC (mulC s b) (mulC b [n])).1) (g := co (mulC b [n])) (g' := fun i => n * co b i) (fun _ _ => rfl) (fun i => mul_one_list hn), cv_mulr]
      rw [cv_sub, a1, ← co_mulC_le h2, e k, co_nil, ← cv_le h1 fun i hi => co_ge hi, a2]
      omega) (.inl (by simp; exact List.length_pos_iff.mpr hne))
    have := key.2 k
    have this : co s k - n * co (divC (mulC s b) (mulC b [n])).1 k = 0 := this
    exact ⟨co (divC (mulC s b) (mulC b [n])).1 k, by omega⟩
  · intro h
    have hq : ∀ k, co (trim ((List.range s.length).map fun k => co s k / n)) k = co s k / n := fun k => by
      rw [co_trim, co_map_range (n := s.length) fun i hi => by rw [co_ge hi]; exact Int.zero_ediv n]
    have := divC_prod (c := mulC s b) (b := mulC b [n]) (r := trim ((List.range s.length).map fun k => co s k / n)) ct_mulC ct_mulC hgne (ct_trim _) fun k => by
      have hl : (trim ((List.range s.length).map fun k => co s k / n)).length ≤ s.length := by
        refine Nat.le_trans (trim_len _) ?_
        rw [List.length_map, List.length_range]
        exact Nat.le_refl _
      rw [co_mulC, ← cv_le hl fun i hi => co_ge hi]
      rw [cv_congr (f := co (trim ((List.range s.length).map fun k => co s k / n))) (f' := fun k => co s k / n) (g := co (mulC b [n])) (g' := fun i => n * co b i) (fun i _ => hq i) (fun i => mul_one_list hn), cv_mulr, ← cv_mull]
      refine cv_congr (fun i _ => ?_) fun _ => rfl
      exact (Int.mul_ediv_cancel' (h i)).symm
    rw [this]
theorem mul_div {s b : List Int} (hs : Ct s) (hb : Ct b) (hne : b ≠ []) : divC (mulC s b) b = (s, []) := divC_prod ct_mulC hb hne hs fun k => co_mulC
/-! x to the low + step less x to the low -/
theorem sumTo_shift {h : Nat → Int} {N : Nat} : ∀ {M : Nat}, N ≤ M → sumTo M (fun k => if N ≤ k then h (k - N) else 0) = sumTo (M - N) h
  | 0, hM => by
    have : N = 0 := by omega
    subst this; rfl
  | M + 1, hM => by
    by_cases e : N = M + 1
    · subst e
      rw [Nat.sub_self]
      refine sumTo_zero fun i hi => ?_
      rw [if_neg (by omega)]
    · rw [show M + 1 - N = (M - N) + 1 by omega]
      show sumTo M _ + (if N ≤ M then h (M - N) else 0) = sumTo (M - N) h + h (M - N)
      rw [sumTo_shift (by omega), if_pos (by omega)]
theorem ann {f g w : Nat → Int} {d M : Nat} (hg : ∀ j, d ≤ j → g j = 0) (hw : ∀ i, sumTo d (fun j => g j * w (i + j)) = 0) : ∀ {N : Nat}, N + d ≤ M → sumTo M (fun k => cv N f g k * w k) = 0
  | 0, _ => sumTo_zero fun i _ => by
    show (0 : Int) * w i = 0
    rw [Int.zero_mul]
  | N + 1, h => by
    have e : sumTo M (fun k => cv (N + 1) f g k * w k) = sumTo M (fun k => cv N f g k * w k + f N * (if N ≤ k then (fun j => g j * w (N + j)) (k - N) else 0)) := sumTo_congr fun k _ => by
      show (cv N f g k + (if N ≤ k then f N * g (k - N) else 0)) * w k = _
      by_cases hk : N ≤ k
      · rw [if_pos hk, if_pos hk, Int.add_mul]
        show _ = cv N f g k * w k + f N * (g (k - N) * w (N + (k - N)))
        rw [show N + (k - N) = k by omega, Int.mul_assoc]
      · rw [if_neg hk, if_neg hk, Int.mul_zero, Int.add_zero, Int.add_zero]
    have sh := sumTo_shift (h := fun j => g j * w (N + j)) (N := N) (M := M) (by omega)
    rw [e, sumTo_add, ann hg hw (by omega), sumTo_mul, sh, sumTo_le (n := d) (by omega) fun i hi => by rw [hg i hi, Int.zero_mul], hw, Int.mul_zero]
    rfl
/-- a product by b, of finitely many numbers -/
def DvB (b : List Int) (c : Nat → Int) : Prop := ∃ (N : Nat) (f : Nat → Int), (∀ i, N ≤ i → f i = 0) ∧ ∀ k, c k = cv N f (co b) k
theorem DvB.add {b : List Int} {c c' : Nat → Int} (h : DvB b c) (h' : DvB b c') : DvB b (fun k => c k + c' k) := by
  obtain ⟨N, f, h1, h2⟩ := h
  obtain ⟨N', f', h1', h2'⟩ := h'
  refine ⟨max N N', fun i => f i - (fun i => - f' i) i, fun i hi => ?_, fun k => ?_⟩
  · show f i - - f' i = 0
    rw [h1 i (by omega), h1' i (by omega)]; rfl
  · have e1 : cv (max N N') f (co b) k = cv N f (co b) k := cv_le (by omega) h1
    have e2 : cv (max N N') (fun i => - f' i) (co b) k = cv N' (fun i => - f' i) (co b) k := cv_le (by omega) fun i hi => by show - f' i = 0; rw [h1' i hi]; rfl
    have e3 : cv N' (fun i => - f' i) (co b) k = - cv N' f' (co b) k := by
      have := cv_mull (N := N') (f := f') (g := co b) (k := k) (-1)
      rw [cv_congr (f' := fun i => -1 * f' i) (fun i _ => by omega) fun _ => rfl, this]
      omega
    show c k + c' k = _
    rw [cv_sub, e1, e2, e3, h2 k, h2' k]
    omega
theorem DvB.shift {b u : List Int} (a : Nat) : DvB b (fun k => if a ≤ k then cv u.length (co u) (co b) (k - a) else 0) := by
  refine ⟨a + u.length, fun i => if a ≤ i then co u (i - a) else 0, fun i hi => ?_, fun k => ?_⟩
  · show (if a ≤ i then co u (i - a) else 0) = 0
    rw [if_pos (by omega), co_ge (by omega)]
  · show _ = sumTo (a + u.length) fun i => if i ≤ k then (if a ≤ i then co u (i - a) else 0) * co b (k - i) else 0
    have e : sumTo (a + u.length) (fun i => if i ≤ k then (if a ≤ i then co u (i - a) else 0) * co b (k - i) else 0) = sumTo (a + u.length) (fun i => if a ≤ i then (fun j => if a + j ≤ k then co u j * co b (k - (a + j)) else 0) (i - a) else 0) := sumTo_congr fun i _ => by
      by_cases h : a ≤ i
      · rw [if_pos h, if_pos h]
        show _ = (if a + (i - a) ≤ k then co u (i - a) * co b (k - (a + (i - a))) else 0)
        rw [show a + (i - a) = i by omega]
      · rw [if_neg h, if_neg h, Int.zero_mul]
        split <;> rfl
    have sh := sumTo_shift (h := fun j => if a + j ≤ k then co u j * co b (k - (a + j)) else 0) (N := a) (M := a + u.length) (by omega)
    rw [e, sh, show a + u.length - a = u.length by omega]
    show (if a ≤ k then cv u.length (co u) (co b) (k - a) else 0) = _
    by_cases h : a ≤ k
    · rw [if_pos h]
      refine sumTo_congr fun j _ => ?_
      by_cases hj : j ≤ k - a
      · rw [if_pos hj, if_pos (by omega), show k - (a + j) = k - a - j by omega]
      · rw [if_neg hj, if_neg (by omega)]
    · rw [if_neg h]
      refine (sumTo_zero fun j _ => ?_).symm
      rw [if_neg (by omega)]
theorem DvB.divC {b c : List Int} (hc : Ct c) (hb : Ct b) (hne : b ≠ []) (h : DvB b (co c)) : (divC c b).2 = [] := by
  obtain ⟨N, f, h1, h2⟩ := h
  have e : ∀ i, co (trim ((List.range N).map f)) i = f i := fun i => by rw [co_trim, co_map_range h1]
  have hl : (trim ((List.range N).map f)).length ≤ N := by
    refine Nat.le_trans (trim_len _) ?_
    rw [List.length_map, List.length_range]
    exact Nat.le_refl _
  rw [divC_prod hc hb hne (ct_trim ((List.range N).map f)) fun k => by
    rw [← cv_le hl fun i hi => co_ge hi, h2 k]
    exact cv_congr (fun i _ => (e i).symm) fun _ => rfl]
def dl (a k : Nat) : Int := if k = a then 1 else 0
theorem pow_dvb {b u : List Int} {n : Nat} (hu : ∀ k, cv u.length (co u) (co b) k = dl n k - dl 0 k) (low : Nat) : ∀ m : Nat, DvB b (fun k => dl (low + n * m) k - dl low k)
  | 0 => ⟨0, fun _ => 0, fun _ _ => rfl, fun k => by
    show dl (low + n * 0) k - dl low k = 0
    rw [Nat.mul_zero, Nat.add_zero, Int.sub_self]⟩
  | m + 1 => by
    have h := (pow_dvb hu low m).add (DvB.shift (b := b) (u := u) (low + n * m))
    refine cast (congrArg (DvB b) (funext fun k => ?_)) h
    show (dl (low + n * m) k - dl low k) + (if low + n * m ≤ k then cv u.length (co u) (co b) (k - (low + n * m)) else 0) = dl (low + n * (m + 1)) k - dl low k
    rw [hu]
    unfold dl
    have : n * (m + 1) = n * m + n := Nat.mul_succ n m
    rw [this]
    repeat' split
    all_goals omega
theorem pow_div {b u : List Int} {n : Nat} (hb : Ct b) (hne : b ≠ []) (hu : ∀ k, cv u.length (co u) (co b) k = dl n k - dl 0 k) (w : Bool → Nat → Int) (hw : ∀ s i, sumTo b.length (fun j => co b j * w s (i + j)) = 0)
    (hd : ∀ a c, (∀ s, w s a = w s c) → a % n = c % n) {c : List Int} (hc : Ct c) {low step : Nat} (hco : ∀ k, co c k = dl (low + step) k - dl low k) : (divC c b).2 = [] ↔ step % n = 0 := by
  constructor
  · intro h
    have e := divC_some hc hb hne h
    have key : ∀ s, w s (low + step) = w s low := fun s => by
      have z := ann (f := co (divC c b).1) (g := co b) (w := w s) (d := b.length) (M := (divC c b).1.length + b.length + low + step + 1) (fun j hj => co_ge hj) (hw s) (N := (divC c b).1.length) (by omega)
      have z2 : sumTo ((divC c b).1.length + b.length + low + step + 1) (fun k => (dl (low + step) k * w s k) - (dl low k * w s k)) = 0 := by
        rw [← z]
        refine sumTo_congr fun k _ => ?_
        rw [← e k, hco k, Int.sub_mul]
      rw [sumTo_sub, sumTo_one (m := low + step) (by omega) fun i _ hi => by unfold dl; rw [if_neg hi, Int.zero_mul], sumTo_one (m := low) (by omega) fun i _ hi => by unfold dl; rw [if_neg hi, Int.zero_mul]] at z2
      unfold dl at z2
      rw [if_pos rfl, if_pos rfl] at z2
      omega
    have := hd _ _ key
    have h3 := Nat.sub_mod_eq_zero_of_mod_eq this
    rwa [show low + step - low = step by omega] at h3
  · intro h
    have hs : step = n * (step / n) := by
      have := Nat.div_add_mod step n
      omega
    have := pow_dvb hu low (step / n)
    rw [← hs] at this
    refine DvB.divC hc hb hne (cast (congrArg (DvB b) (funext fun k => ?_)) this)
    exact (hco k).symm
/-- two tables of a round of n -/
def tw (n : Nat) (t0 t1 : List Int) (s : Bool) (k : Nat) : Int := if s then t0.getD (k % n) 0 else t1.getD (k % n) 0
theorem tw_mod {n : Nat} {t0 t1 : List Int} {s : Bool} {i j : Nat} : tw n t0 t1 s (i + j) = tw n t0 t1 s (i % n + j) := by
  unfold tw
  rw [Nat.add_mod i j n, Nat.add_mod (i % n) j n, Nat.mod_mod]
theorem pow_tab {b u t0 t1 : List Int} {n : Nat} (hb : Ct b) (hne : b ≠ []) (hn : 0 < n) (hu : ∀ k, k < u.length + b.length + n + 1 → cv u.length (co u) (co b) k = dl n k - dl 0 k)
    (hw : ∀ s : Bool, ∀ r, r < n → sumTo b.length (fun j => co b j * tw n t0 t1 s (r + j)) = 0) (hd : ∀ a, a < n → ∀ c, c < n → (∀ s : Bool, tw n t0 t1 s a = tw n t0 t1 s c) → a = c)
    {c : List Int} (hc : Ct c) {low step : Nat} (hco : ∀ k, co c k = dl (low + step) k - dl low k) : (divC c b).2 = [] ↔ step % n = 0 := by
  refine pow_div hb hne (u := u) (fun k => ?_) (tw n t0 t1) (fun s i => ?_) (fun a c h => ?_) hc hco
  · by_cases hk : k < u.length + b.length + n + 1
    · exact hu k hk
    · rw [cv_beyond (by omega)]
      unfold dl
      rw [if_neg (by omega), if_neg (by omega)]; rfl
  · rw [sumTo_congr (g := fun j => co b j * tw n t0 t1 s (i % n + j)) fun j _ => by rw [tw_mod]]
    exact hw s _ (Nat.mod_lt i hn)
  · refine hd _ (Nat.mod_lt a hn) _ (Nat.mod_lt c hn) fun s => ?_
    have := h s
    unfold tw at this ⊢
    rw [Nat.mod_mod, Nat.mod_mod]
    exact this
section
variable {c : List Int} {low step : Nat} (hc : Ct c) (hco : ∀ k, co c k = dl (low + step) k - dl low k)
include hc hco
theorem pow3 : (divC c [1, 1, 1]).2 = [] ↔ step % 3 = 0 := pow_tab (b := [1, 1, 1]) (u := [-1, 1]) (t0 := [1, 0, -1]) (t1 := [0, -1, 1]) (show trim [1, 1, 1] = [1, 1, 1] from rfl) (by decide) (by decide) (by decide +kernel) (by decide +kernel) (by decide +kernel) hc hco
theorem pow6 : (divC c [1, -1, 1]).2 = [] ↔ step % 6 = 0 := pow_tab (b := [1, -1, 1]) (u := [-1, -1, 0, 1, 1]) (t0 := [1, 1, 0, -1, -1, 0]) (t1 := [1, 0, -1, -1, 0, 1]) (show trim [1, -1, 1] = [1, -1, 1] from rfl) (by decide) (by decide) (by decide +kernel) (by decide +kernel) (by decide +kernel) hc hco
theorem pow4 : (divC c [1, 0, 1]).2 = [] ↔ step % 4 = 0 := pow_tab (b := [1, 0, 1]) (u := [-1, 0, 1]) (t0 := [1, 1, -1, -1]) (t1 := [1, -1, -1, 1]) (show trim [1, 0, 1] = [1, 0, 1] from rfl) (by decide) (by decide) (by decide +kernel) (by decide +kernel) (by decide +kernel) hc hco
theorem pow1 : (divC c [-1, 1]).2 = [] ↔ step % 1 = 0 := pow_tab (b := [-1, 1]) (u := [1]) (t0 := [1]) (t1 := [1]) (show trim [-1, 1] = [-1, 1] from rfl) (by decide) (by decide) (by decide +kernel) (by decide +kernel) (by decide +kernel) hc hco
theorem pow2 : (divC c [1, 1]).2 = [] ↔ step % 2 = 0 := pow_tab (b := [1, 1]) (u := [-1, 1]) (t0 := [1, -1]) (t1 := [1, -1]) (show trim [1, 1] = [1, 1] from rfl) (by decide) (by decide) (by decide +kernel) (by decide +kernel) (by decide +kernel) hc hco
end
end Po

set_option Elab.async false
set_option linter.all false
set_option maxRecDepth 100000
set_option maxHeartbeats 1200000
/-! DL: what an expression is worth, as data; a frozen heap F within the heap H; lists that the def itself may change, apart. -/
namespace DL
open Evl (sq_of st_of sz_of sz_lt rMax2 ixN_nat)
open L2 PySem PySem.Spec PyProof.Rows

theorem same_new {H : Hp} {p : Addr} {o : HO} (h : H p = none) : Same H (upd H p o) := fun b x e => by
  rw [upd_ne (ne_of_none e h)]
  exact e
theorem same_upd_out {F H : Hp} {p : Addr} {o : HO} (e : Same F H) (h : F p = none) : Same F (upd H p o) := fun b x q => by
  rw [upd_ne (ne_of_none q h)]
  exact e b x q
theorem same_upd_both {F H : Hp} {p : Addr} {o : HO} (e : Same F H) : Same (upd F p o) (upd H p o) := fun b x q => by
  by_cases hb : b = p
  · subst hb; rw [upd_same] at q ⊢; exact q
  · rw [upd_ne hb] at q ⊢; exact e b x q
theorem same_rd {H H' : Hp} {a : Addr} {u : HO} (e : Same H H') (h : Rd H a u) : Rd H' a u := by
  rcases h with h | ⟨o, h⟩
  · exact Or.inl (e a _ h)
  · exact Or.inr ⟨o, e a _ h⟩
theorem same_l {K : PySem.W.Frag} {H H' : Hp} {a : Addr} {xs : List V} (e : Same H H') (h : SqL K H a xs) : SqL K H' a xs := by
  rcases h with h | h
  · exact Or.inl (same_rd e h)
  · exact Or.inr h
theorem same_t {K : PySem.W.Frag} {H H' : Hp} {a : Addr} {xs : List V} (e : Same H H') (h : SqT K H a xs) : SqT K H' a xs := by
  rcases h with h | h
  · exact Or.inl (same_rd e h)
  · exact Or.inr h
theorem fresh_back {H H' : Hp} {p : Addr} (e : Same H H') (h : H' p = none) : H p = none := e.free h

mutual
theorem dp_mono {K : PySem.W.Frag} {H H' : Hp} (e : Same H H') : ∀ {d : PyData} {v : V}, Dp K H v d → Dp K H' v d
  | .none, _, h => by cases h; exact .non
  | .bool b, _, h => by cases h; exact .bl b
  | .int i, _, h => by cases h; exact .int i
  | .str x, _, h => by cases h; exact .str x
  | .list ds, _, h => by
    cases h with
    | lst hs ha => exact .lst (same_l e hs) (dpAll_mono e ha)
  | .tuple ds, _, h => by
    cases h with
    | tup hs ha => exact .tup (same_t e hs) (dpAll_mono e ha)
  | .dict _, _, h => by cases h
theorem dpAll_mono {K : PySem.W.Frag} {H H' : Hp} (e : Same H H') : ∀ {ds : List PyData} {vs : List V}, DpAll K H vs ds → DpAll K H' vs ds
  | [], _, h => by cases h; exact .nil
  | d :: ds, _, h => by
    cases h with
    | cons h1 h2 => exact .cons (dp_mono e h1) (dpAll_mono e h2)
end
section
variable {K : PySem.W.Frag} {H F : Hp} {v : V} {vs us : List V} {d : PyData} {ds es : List PyData}
theorem dp_int {i : Int} (h : Dp K H v (.int i)) : v = .int i := by cases h; rfl
theorem dp_bool {b : Bool} (h : Dp K H v (.bool b)) : v = .bl b := by cases h; rfl
theorem dp_str {x : Str} (h : Dp K H v (.str x)) : v = .str x := by cases h; rfl
theorem dp_none (h : Dp K H v .none) : v = .non := by cases h; rfl
theorem dp_list (h : Dp K H v (.list ds)) : ∃ a xs, v = .ref a ∧ SqL K H a xs ∧ DpAll K H xs ds := by cases h with | lst hs ha => exact ⟨_, _, rfl, hs, ha⟩
theorem dp_tuple (h : Dp K H v (.tuple ds)) : ∃ a xs, v = .ref a ∧ SqT K H a xs ∧ DpAll K H xs ds := by cases h with | tup hs ha => exact ⟨_, _, rfl, hs, ha⟩
theorem dpAll_len : ∀ {ds : List PyData} {vs : List V}, DpAll K H vs ds → vs.length = ds.length
  | [], _, h => by cases h; rfl
  | d :: ds, _, h => by cases h with | cons h1 h2 => rw [List.length_cons, List.length_cons, dpAll_len h2]
theorem dpAll_get : ∀ {ds : List PyData} {vs : List V} {i : Nat} {d : PyData}, DpAll K H vs ds → ds[i]? = some d → ∃ v, vs[i]? = some v ∧ Dp K H v d
  | [], _, _, _, _, e => by simp at e
  | d :: ds, _, 0, d', h, e => by
    cases h with
    | cons h1 h2 =>
      have e1 : d = d' := by simpa using e
      subst e1
      exact ⟨_, rfl, h1⟩
  | d :: ds, _, i + 1, d', h, e => by
    cases h with
    | cons h1 h2 =>
      obtain ⟨v, h3, h4⟩ := dpAll_get (i := i) h2 (by simpa using e)
      exact ⟨v, by simpa using h3, h4⟩
theorem dpAll_at {i : Nat} (h : DpAll K H vs ds) (e : vs[i]? = some v) : ∃ d, ds[i]? = some d ∧ Dp K H v d := by
  have hl := dpAll_len h
  obtain ⟨hi, _⟩ := List.getElem?_eq_some_iff.mp e
  have hi' : i < ds.length := by omega
  obtain ⟨w, h3, h4⟩ := dpAll_get h (List.getElem?_eq_getElem hi')
  rw [h3] at e
  cases e
  exact ⟨_, List.getElem?_eq_getElem hi', h4⟩
theorem dpAll_app : ∀ {ds : List PyData} {vs : List V}, DpAll K H vs ds → DpAll K H us es → DpAll K H (vs ++ us) (ds ++ es)
  | [], _, h, h' => by cases h; exact h'
  | d :: ds, _, h, h' => by cases h with | cons h1 h2 => exact .cons h1 (dpAll_app h2 h')
theorem dpAll_take : ∀ {n : Nat} {ds : List PyData} {vs : List V}, DpAll K H vs ds → DpAll K H (vs.take n) (ds.take n)
  | 0, _, _, _ => by rw [List.take_zero, List.take_zero]; exact .nil
  | n + 1, [], _, h => by cases h; exact .nil
  | n + 1, d :: ds, _, h => by cases h with | cons h1 h2 => exact .cons h1 (dpAll_take h2)
theorem dpAll_drop : ∀ {n : Nat} {ds : List PyData} {vs : List V}, DpAll K H vs ds → DpAll K H (vs.drop n) (ds.drop n)
  | 0, _, _, h => h
  | n + 1, [], _, h => by cases h; exact .nil
  | n + 1, d :: ds, _, h => by
    cases h with
    | cons h1 h2 =>
      rw [List.drop_succ_cons, List.drop_succ_cons]
      exact dpAll_drop h2
theorem dpAll_set : ∀ {n : Nat} {ds : List PyData} {vs : List V}, DpAll K H vs ds → Dp K H v d → DpAll K H (vs.set n v) (ds.set n d)
  | _, [], _, h, _ => by cases h; exact .nil
  | 0, e :: ds, _, h, q => by cases h with | cons h1 h2 => exact .cons q h2
  | n + 1, e :: ds, _, h, q => by cases h with | cons h1 h2 => exact .cons h1 (dpAll_set h2 q)
theorem dpAll_dropLast (h : DpAll K H vs ds) : DpAll K H vs.dropLast ds.dropLast := by
  rw [List.dropLast_eq_take, List.dropLast_eq_take, dpAll_len h]
  exact dpAll_take h
theorem dpAll_ints : ∀ ns : List Int, DpAll K H (ns.map V.int) (ns.map PyData.int)
  | [] => .nil
  | n :: ns => .cons (.int n) (dpAll_ints ns)
theorem dpAll_ints' : ∀ {ns : List Int} {vs : List V}, DpAll K H vs (ns.map PyData.int) → vs = ns.map V.int
  | [], _, h => by cases h; rfl
  | n :: ns, _, h => by
    cases h with
    | cons h1 h2 => rw [dp_int h1, dpAll_ints' h2]; rfl
theorem dpAll_bools' : ∀ {ns : List Bool} {vs : List V}, DpAll K H vs (ns.map PyData.bool) → vs = ns.map V.bl
  | [], _, h => by cases h; rfl
  | n :: ns, _, h => by
    cases h with
    | cons h1 h2 => rw [dp_bool h1, dpAll_bools' h2]; rfl
end

/-- a tuple of ints, a list of ints -/
abbrev tupI (ns : List Int) : PyData := .tuple (ns.map PyData.int)
abbrev lstI (ns : List Int) : PyData := .list (ns.map PyData.int)

/-! ### steps: the frozen heap and the heap grow -/
structure Stp (F H F' H' : Hp) : Prop where
  hh : Same H H'
  ff : Same F F'
  fh : Same F' H'
  nw : ∀ p, F p = none → H p ≠ none → F' p = none
theorem some_of_same {H H' : Hp} {p : Addr} (e : Same H H') (h : H p ≠ none) : H' p ≠ none := fun z => h (e.free z)
theorem Stp.refl {F H : Hp} (e : Same F H) : Stp F H F H := ⟨.refl _, .refl _, e, fun _ h _ => h⟩
theorem Stp.trans {F H F1 H1 F2 H2 : Hp} (a : Stp F H F1 H1) (b : Stp F1 H1 F2 H2) : Stp F H F2 H2 :=
  ⟨a.hh.trans b.hh, a.ff.trans b.ff, b.fh, fun p h h' => b.nw p (a.nw p h h') (some_of_same a.hh h')⟩

theorem Stp.alloc {F H F1 H1 : Hp} {p : Addr} {o : HO} (a : Stp F H F1 H1) (h : H1 p = none) : Stp F H (upd F1 p o) (upd H1 p o) where
  hh := a.hh.trans (same_new h)
  ff := a.ff.trans (same_new (fresh_back a.fh h))
  fh := same_upd_both a.fh
  nw := fun q h1 h2 => by
    have hq : q ≠ p := fun e => h2 (by subst e; exact a.hh.free h)
    rw [upd_ne hq]
    exact a.nw q h1 h2
/-- a new object that stays outside the frozen heap -/
theorem Stp.allocO {F H F1 H1 : Hp} {p : Addr} {o : HO} (a : Stp F H F1 H1) (h : H1 p = none) : Stp F H F1 (upd H1 p o) where
  hh := a.hh.trans (same_new h)
  ff := a.ff
  fh := a.fh.trans (same_new h)
  nw := a.nw

/-! ### types: what is true of a value, kept as the heap grows -/
structure Ty where
  p : V → Hp → Prop
  m : ∀ {v : V} {F F' : Hp}, Same F F' → p v F → p v F'
def TD (K : PySem.W.Frag) (d : PyData) : Ty := ⟨fun v F => Dp K F v d, fun e h => dp_mono e h⟩
def TX (w : V) : Ty := ⟨fun v _ => v = w, fun _ h => h⟩
def T0 : Ty := ⟨fun _ _ => True, fun _ h => h⟩
/-- an object there -/
def TyO (P : Addr → Hp → Prop) (m : ∀ {a : Addr} {F F' : Hp}, Same F F' → P a F → P a F') : Ty := ⟨fun v F => ∃ a, v = .ref a ∧ P a F, fun e ⟨a, h1, h2⟩ => ⟨a, h1, m e h2⟩⟩

def All2 (F : Hp) : List V → List Ty → Prop
  | [], [] => True
  | v :: vs, T :: Ts => T.p v F ∧ All2 F vs Ts
  | _, _ => False
theorem All2.mono {F F' : Hp} (e : Same F F') : ∀ {vs : List V} {Ts : List Ty}, All2 F vs Ts → All2 F' vs Ts
  | [], [], _ => trivial
  | _ :: _, T :: _, h => ⟨T.m e h.1, All2.mono e h.2⟩
  | [], _ :: _, h => h.elim
  | _ :: _, [], h => h.elim
theorem All2.len {F : Hp} : ∀ {vs : List V} {Ts : List Ty}, All2 F vs Ts → vs.length = Ts.length
  | [], [], _ => rfl
  | _ :: _, _ :: _, h => congrArg (· + 1) (All2.len h.2)
  | [], _ :: _, h => h.elim
  | _ :: _, [], h => h.elim
theorem all2_td {K : PySem.W.Frag} {F : Hp} : ∀ {vs : List V} {ds : List PyData}, All2 F vs (ds.map (TD K)) ↔ DpAll K F vs ds
  | [], [] => ⟨fun _ => .nil, fun _ => trivial⟩
  | v :: vs, d :: ds => ⟨fun h => .cons h.1 (all2_td.mp h.2), fun h => by cases h with | cons h1 h2 => exact ⟨h1, all2_td.mpr h2⟩⟩
  | [], _ :: _ => ⟨fun h => h.elim, fun h => by cases h⟩
  | _ :: _, [] => ⟨fun h => h.elim, fun h => by cases h⟩

abbrev Sl := Option Ty
def SlOk (F : Hp) (o : Option V) : Sl → Prop
  | none => True
  | some T => ∃ v, o = some v ∧ T.p v F
def Env (F : Hp) : L2.St → List Sl → Prop
  | [], [] => True
  | o :: σ, s :: ss => SlOk F o s ∧ Env F σ ss
  | _, _ => False
theorem Env.mono {F F' : Hp} (e : Same F F') : ∀ {σ : L2.St} {ss : List Sl}, Env F σ ss → Env F' σ ss
  | [], [], _ => trivial
  | _ :: _, none :: _, h => ⟨trivial, Env.mono e h.2⟩
  | _ :: _, some T :: _, h => ⟨by obtain ⟨v, h1, h2⟩ := h.1; exact ⟨v, h1, T.m e h2⟩, Env.mono e h.2⟩
  | [], _ :: _, h => h.elim
  | _ :: _, [], h => h.elim
theorem Env.get {F : Hp} : ∀ {σ : L2.St} {ss : List Sl} {i : Nat} {T : Ty}, Env F σ ss → ss[i]? = some (some T) → ∃ v, σ[i]? = some (some v) ∧ T.p v F
  | [], [], _, _, _, e => by simp at e
  | o :: σ, s :: ss, 0, T, h, e => by
    have e1 : s = some T := by simpa using e
    subst e1
    obtain ⟨v, h1, h2⟩ := h.1
    exact ⟨v, by rw [h1]; rfl, h2⟩
  | o :: σ, s :: ss, i + 1, T, h, e => by
    obtain ⟨v, h1, h2⟩ := Env.get (i := i) h.2 (by simpa using e)
    exact ⟨v, by simpa using h1, h2⟩
  | [], _ :: _, _, _, h, _ => h.elim
  | _ :: _, [], _, _, h, _ => h.elim
theorem Env.set {F : Hp} {v : V} {T : Ty} (q : T.p v F) : ∀ {σ : L2.St} {ss : List Sl} {i : Nat}, Env F σ ss → Env F (σ.set i (some v)) (ss.set i (some T))
  | [], [], _, _ => trivial
  | o :: σ, s :: ss, 0, h => ⟨⟨v, rfl, q⟩, h.2⟩
  | o :: σ, s :: ss, i + 1, h => ⟨h.1, Env.set q h.2⟩
  | [], _ :: _, _, h => h.elim
  | _ :: _, [], _, h => h.elim
theorem Env.unset {F : Hp} {x : Option V} : ∀ {σ : L2.St} {ss : List Sl} {i : Nat}, Env F σ ss → Env F (σ.set i x) (ss.set i none)
  | [], [], _, _ => trivial
  | o :: σ, s :: ss, 0, h => ⟨trivial, h.2⟩
  | o :: σ, s :: ss, i + 1, h => ⟨h.1, Env.unset h.2⟩
  | [], _ :: _, _, h => h.elim
  | _ :: _, [], _, h => h.elim
theorem Env.len {F : Hp} : ∀ {σ : L2.St} {ss : List Sl}, Env F σ ss → σ.length = ss.length
  | [], [], _ => rfl
  | _ :: _, _ :: _, h => congrArg (· + 1) (Env.len h.2)
  | [], _ :: _, h => h.elim
  | _ :: _, [], h => h.elim
def wipeS (ss : List Sl) : List Nat → List Sl
  | [] => ss
  | v :: vs => (wipeS ss vs).set v none
theorem Env.wipe {F : Hp} {σ : L2.St} {ss : List Sl} (h : Env F σ ss) : ∀ vs : List Nat, Env F (wipe σ vs) (wipeS ss vs)
  | [] => h
  | _ :: vs => Env.unset (Env.wipe h vs)
theorem env_nones {F : Hp} : ∀ n : Nat, Env F (List.replicate n none) (List.replicate n none)
  | 0 => trivial
  | n + 1 => ⟨trivial, env_nones n⟩
theorem env_app {F : Hp} {σ : L2.St} {ss : List Sl} (h : Env F σ ss) : ∀ {vs : List V} {Ts : List Ty}, All2 F vs Ts → Env F (vs.map some ++ σ) (Ts.map some ++ ss)
  | [], [], _ => h
  | v :: vs, T :: Ts, q => ⟨⟨v, rfl, q.1⟩, env_app h q.2⟩
  | [], _ :: _, q => q.elim
  | _ :: _, [], q => q.elim
theorem env_start {F : Hp} {N : List Str} {vs : List V} {Ts : List Ty} (q : All2 F vs Ts) : Env F (L2.start N vs) (Ts.map some ++ List.replicate (N.length - Ts.length) none) := by
  unfold L2.start
  rw [q.len]
  exact env_app (env_nones _) q

/-! ### what an expression evaluates to -/
def Ev (te : TE) (σ : L2.St) (F : Hp) (T : Ty) : Prop := ∀ H, Same F H → ∀ Q : VK, (∀ v F2 H2, Stp F H F2 H2 → T.p v F2 → Q v H2) → te σ H Q
def EvT (tt : TT) (σ : L2.St) (F : Hp) (b : Bool) : Prop := ∀ H, Same F H → ∀ Q : Bool → Hp → Prop, (∀ F2 H2, Stp F H F2 H2 → Q b H2) → tt σ H Q
def EvA (ta : TA) (σ : L2.St) (F : Hp) (Ts : List Ty) : Prop := ∀ H, Same F H → ∀ Q : List V → Hp → Prop, (∀ vs F2 H2, Stp F H F2 H2 → All2 F2 vs Ts → Q vs H2) → ta σ H Q
def EvO (to : L2.TO) (σ : L2.St) (F : Hp) (o : Option Int) : Prop := ∀ H, Same F H → ∀ Q : Option Int → Hp → Prop, (∀ F2 H2, Stp F H F2 H2 → Q o H2) → to σ H Q
/-- a new list, of these values -/
def EvN (K : PySem.W.Frag) (te : TE) (σ : L2.St) (F : Hp) (ds : List PyData) : Prop := ∀ H, Same F H → ∀ Q : VK, (∀ p xs F2 H2, Stp F H F2 H2 → H2 p = none → DpAll K F2 xs ds → Q (.ref p) (upd H2 p (.lst xs))) → te σ H Q
def RV (r : R2) (T1 T2 : Ty) (F : Hp) (T3 : Ty) : Prop := ∀ x y F1 H, Same F F1 → Same F1 H → T1.p x F1 → T2.p y F1 → ∀ Q : VK, (∀ v F2 H2, Stp F1 H F2 H2 → T3.p v F2 → Q v H2) → r x y H Q
def RU (r : V → Hp → VK → Prop) (T1 : Ty) (F : Hp) (T3 : Ty) : Prop := ∀ x F1 H, Same F F1 → Same F1 H → T1.p x F1 → ∀ Q : VK, (∀ v F2 H2, Stp F1 H F2 H2 → T3.p v F2 → Q v H2) → r x H Q
def RC (r : List V → Hp → VK → Prop) (Ts : List Ty) (F : Hp) (T3 : Ty) : Prop := ∀ xs F1 H, Same F F1 → Same F1 H → All2 F1 xs Ts → ∀ Q : VK, (∀ v F2 H2, Stp F1 H F2 H2 → T3.p v F2 → Q v H2) → r xs H Q
def RS (r : V → Option Int → Option Int → Hp → VK → Prop) (T1 : Ty) (lo hi : Option Int) (F : Hp) (T3 : Ty) : Prop := ∀ x F1 H, Same F F1 → Same F1 H → T1.p x F1 → ∀ Q : VK, (∀ v F2 H2, Stp F1 H F2 H2 → T3.p v F2 → Q v H2) → r x lo hi H Q

/-- what both frozen heaps know -/
def joinH (F G : Hp) : Hp := fun a => match F a with | some o => some o | none => G a
theorem join_l {F G : Hp} : Same F (joinH F G) := fun a o h => by unfold joinH; rw [h]
theorem join_r {F G H : Hp} (h1 : Same F H) (h2 : Same G H) : Same G (joinH F G) := fun a o h => by
  unfold joinH
  cases e : F a with
  | none => exact h
  | some u =>
    have q1 := h1 a u e
    have q2 := h2 a o h
    rw [q1] at q2
    exact q2
theorem join_h {F G H : Hp} (h1 : Same F H) (h2 : Same G H) : Same (joinH F G) H := fun a o h => by
  unfold joinH at h
  cases e : F a with
  | none => rw [e] at h; exact h2 a o h
  | some u => rw [e] at h; cases h; exact h1 a o e
/-- from a base that knows more -/
theorem Stp.up {F F1 H G H2 : Hp} (e : Same F F1) (f : Same F1 H) (a : Stp F H G H2) : Stp F1 H (joinH F1 G) H2 ∧ Same G (joinH F1 G) := by
  have h1 : Same F1 H2 := f.trans a.hh
  refine ⟨⟨a.hh, join_l, join_h h1 a.fh, fun p q r => ?_⟩, join_r h1 a.fh⟩
  unfold joinH
  rw [q]
  exact a.nw p (e.free q) r
section
variable {K : PySem.W.Frag} {σ : L2.St} {F F' H : Hp} {ta tb te : TE} {t u : TT} {T T1 T2 T3 : Ty} {Ts : List Ty} {ss : List Sl} {r : R2}
theorem Ev.up (h : Ev te σ F T) (e : Same F F') : Ev te σ F' T := fun H f Q q =>
  h H (e.trans f) Q fun v F2 H2 s hv => by
    obtain ⟨s2, g⟩ := s.up e f
    exact q v _ H2 s2 (T.m g hv)
theorem EvT.up {b : Bool} (h : EvT t σ F b) (e : Same F F') : EvT t σ F' b := fun H f Q q =>
  h H (e.trans f) Q fun F2 H2 s => q _ H2 (s.up e f).1
theorem EvA.up {ta : TA} (h : EvA ta σ F Ts) (e : Same F F') : EvA ta σ F' Ts := fun H f Q q =>
  h H (e.trans f) Q fun v F2 H2 s hv => by
    obtain ⟨s2, g⟩ := s.up e f
    exact q v _ H2 s2 (hv.mono g)
theorem ev_var {i : Nat} (E : Env F σ ss) (h : ss[i]? = some (some T)) : Ev (tVar i) σ F T := fun H f Q q => by
  obtain ⟨v, h1, h2⟩ := E.get h
  exact ⟨v, h1, q v F H (.refl f) h2⟩
theorem ev_int {i : Int} : Ev (tC (.int i)) σ F (TD K (.int i)) := fun H f Q q => q _ F H (.refl f) (.int i)
theorem ev_bool {b : Bool} : Ev (tC (.bl b)) σ F (TD K (.bool b)) := fun H f Q q => q _ F H (.refl f) (.bl b)
theorem ev_none : Ev (tC .non) σ F (TD K .none) := fun H f Q q => q _ F H (.refl f) .non
theorem ev_str {x : Str} : Ev (tC (.str x)) σ F (TD K (.str x)) := fun H f Q q => q _ F H (.refl f) (.str x)
theorem ev_ty {n : String} : Ev (tC (.ty n)) σ F (TX (.ty n)) := fun H f Q q => q _ F H (.refl f) rfl
theorem ev_op (ha : Ev ta σ F T1) (hb : Ev tb σ F T2) (hr : RV r T1 T2 F T3) : Ev (tOp r ta tb) σ F T3 := fun H f Q q =>
  ha H f _ fun x F1 H1 s1 hx => (hb.up s1.ff) H1 s1.fh _ fun y F2 H2 s2 hy =>
    hr x y F2 H2 (s1.ff.trans s2.ff) s2.fh (T1.m s2.ff hx) hy Q fun v F3 H3 s3 hv => q v F3 H3 ((s1.trans s2).trans s3) hv
theorem ev_un {r : V → Hp → VK → Prop} (ha : Ev ta σ F T1) (hr : RU r T1 F T3) : Ev (tUn r ta) σ F T3 := fun H f Q q =>
  ha H f _ fun x F1 H1 s1 hx => hr x F1 H1 s1.ff s1.fh hx Q fun v F3 H3 s3 hv => q v F3 H3 (s1.trans s3) hv
theorem ev_cb {r : List V → Hp → VK → Prop} {ta : TA} (ha : EvA ta σ F Ts) (hr : RC r Ts F T3) : Ev (tCB r ta) σ F T3 := fun H f Q q =>
  ha H f _ fun x F1 H1 s1 hx => hr x F1 H1 s1.ff s1.fh hx Q fun v F3 H3 s3 hv => q v F3 H3 (s1.trans s3) hv
theorem ea_nil : EvA tNil σ F [] := fun H f Q q => q [] F H (.refl f) trivial
theorem ea_cons {ta : TE} {tr : TA} (ha : Ev ta σ F T) (hb : EvA tr σ F Ts) : EvA (tCons ta tr) σ F (T :: Ts) := fun H f Q q =>
  ha H f _ fun x F1 H1 s1 hx => (hb.up s1.ff) H1 s1.fh _ fun vs F2 H2 s2 hy => q (x :: vs) F2 H2 (s1.trans s2) ⟨T.m s2.ff hx, hy⟩
theorem ev_tup {ta : TA} {ds : List PyData} (ha : EvA ta σ F (ds.map (TD K))) (hl : ds.length ≤ 100000) : Ev (tTup ta) σ F (TD K (.tuple ds)) := fun H f Q q =>
  ha H f _ fun vs F1 H1 s1 hv => by
    have hd := all2_td.mp hv
    refine ⟨sz_of (by rw [dpAll_len hd]; exact hl), fun p hp => ?_⟩
    exact q (.ref p) _ _ (s1.alloc hp) (.tup (st_of upd_same) (dpAll_mono (same_new (fresh_back s1.fh hp)) hd))
theorem en_lst {ta : TA} {ds : List PyData} (ha : EvA ta σ F (ds.map (TD K))) (hl : ds.length ≤ 100000) : EvN K (tLst ta) σ F ds := fun H f Q q =>
  ha H f _ fun vs F1 H1 s1 hv => by
    have hd := all2_td.mp hv
    exact ⟨sz_of (by rw [dpAll_len hd]; exact hl), fun p hp => q p vs F1 H1 s1 hp hd⟩
/-- a new list, frozen at once -/
theorem ev_new {ds : List PyData} (h : EvN K te σ F ds) : Ev te σ F (TD K (.list ds)) := fun H f Q q =>
  h H f Q fun p xs F1 H1 s1 hp hd => q (.ref p) _ _ (s1.alloc hp) (.lst (sq_of upd_same) (dpAll_mono (same_new (fresh_back s1.fh hp)) hd))
theorem ev_lst {ta : TA} {ds : List PyData} (ha : EvA ta σ F (ds.map (TD K))) (hl : ds.length ≤ 100000) : Ev (tLst ta) σ F (TD K (.list ds)) := ev_new (en_lst ha hl)
theorem eo_none : EvO tNoPart σ F none := fun H f Q q => q F H (.refl f)
theorem eo_some {i : Int} (h : Ev te σ F (TD K (.int i))) : EvO (tPart te) σ F (some i) := fun H f Q q =>
  h H f _ fun v F1 H1 s hv => ⟨i, dp_int hv, q F1 H1 s⟩
theorem EvO.up {to : L2.TO} {o : Option Int} (h : EvO to σ F o) (e : Same F F') : EvO to σ F' o := fun H f Q q =>
  h H (e.trans f) Q fun F2 H2 s => q _ H2 (s.up e f).1
theorem ev_sl {r : V → Option Int → Option Int → Hp → VK → Prop} {tl th : L2.TO} {lo hi : Option Int} (h : Ev te σ F T1) (h1 : EvO tl σ F lo) (h2 : EvO th σ F hi) (hr : RS r T1 lo hi F T3) : Ev (tSl r te tl th) σ F T3 := fun H f Q q =>
  h H f _ fun x F1 H1 s1 hx => (h1.up s1.ff) H1 s1.fh _ fun F2 H2 s2 => (h2.up (s1.ff.trans s2.ff)) H2 s2.fh _ fun F3 H3 s3 =>
    hr x F3 H3 ((s1.ff.trans s2.ff).trans s3.ff) s3.fh (T1.m (s2.ff.trans s3.ff) hx) Q fun v F4 H4 s4 hv => q v F4 H4 (((s1.trans s2).trans s3).trans s4) hv
theorem ev_is (h : Ev te σ F T) (e : T = T1) : Ev te σ F T1 := e ▸ h
theorem ev_weak (h : Ev te σ F T) (e : ∀ v F', Same F F' → T.p v F' → T1.p v F') : Ev te σ F T1 := fun H f Q q => h H f Q fun v F2 H2 s hv => q v F2 H2 s (e v F2 s.ff hv)
/-! tests -/
theorem et_test {b : Bool} (h : Ev te σ F (TD K (.bool b))) : EvT (tTest te) σ F b := fun H f Q q => h H f _ fun v F1 H1 s hv => ⟨b, dp_bool hv, q F1 H1 s⟩
theorem et_B {b : Bool} (h : Ev te σ F (TD K (.bool b))) : EvT (tB te) σ F b := fun H f Q q => h H f _ fun v F1 H1 s hv => ⟨b, dp_bool hv, q F1 H1 s⟩
theorem et_yes : EvT tYes σ F true := fun H f Q q => q F H (.refl f)
theorem et_is {a b : Bool} (h : EvT t σ F a) (e : a = b) : EvT t σ F b := e ▸ h
theorem et_not {a : Bool} (h : EvT t σ F a) : EvT (tNot t) σ F (!a) := fun H f Q q => h H f _ fun F1 H1 s => q F1 H1 s
theorem et_and {a b : Bool} (h1 : EvT t σ F a) (h2 : a = true → EvT u σ F b) : EvT (tAnd t u) σ F (a && b) := fun H f Q q => h1 H f _ fun F1 H1 s => by
  cases a with
  | true =>
    show u σ H1 Q
    exact (h2 rfl).up s.ff H1 s.fh _ fun F2 H2 s2 => q F2 H2 (s.trans s2)
  | false =>
    show Q false H1
    exact q F1 H1 s
theorem et_or {a b : Bool} (h1 : EvT t σ F a) (h2 : a = false → EvT u σ F b) : EvT (tOr t u) σ F (a || b) := fun H f Q q => h1 H f _ fun F1 H1 s => by
  cases a with
  | true =>
    show Q true H1
    exact q F1 H1 s
  | false =>
    show u σ H1 Q
    exact (h2 rfl).up s.ff H1 s.fh _ fun F2 H2 s2 => q F2 H2 (s.trans s2)
theorem ev_andV {a b : Bool} (h1 : Ev ta σ F (TD K (.bool a))) (h2 : a = true → Ev tb σ F (TD K (.bool b))) : Ev (tAndV ta tb) σ F (TD K (.bool (a && b))) := fun H f Q q => h1 H f _ fun v F1 H1 s hv => ⟨a, dp_bool hv, by
  cases a with
  | true =>
    show tb σ H1 Q
    exact (h2 rfl).up s.ff H1 s.fh _ fun w F2 H2 s2 hw => q w F2 H2 (s.trans s2) hw
  | false =>
    show Q (.bl false) H1
    exact q _ F1 H1 s (.bl false)⟩
theorem ev_orV {a b : Bool} (h1 : Ev ta σ F (TD K (.bool a))) (h2 : a = false → Ev tb σ F (TD K (.bool b))) : Ev (tOrV ta tb) σ F (TD K (.bool (a || b))) := fun H f Q q => h1 H f _ fun v F1 H1 s hv => ⟨a, dp_bool hv, by
  cases a with
  | true =>
    show Q (.bl true) H1
    exact q _ F1 H1 s (.bl true)
  | false =>
    show tb σ H1 Q
    exact (h2 rfl).up s.ff H1 s.fh _ fun w F2 H2 s2 hw => q w F2 H2 (s.trans s2) hw⟩
theorem ev_notV {a : Bool} (h1 : Ev ta σ F (TD K (.bool a))) : Ev (tNotV ta) σ F (TD K (.bool (!a))) := fun H f Q q => h1 H f _ fun v F1 H1 s hv => ⟨a, dp_bool hv, q _ F1 H1 s (.bl _)⟩
theorem ev_if {b : Bool} (h : EvT t σ F b) (h1 : b = true → Ev ta σ F T) (h2 : b = false → Ev tb σ F T) : Ev (tIf t ta tb) σ F T := fun H f Q q => h H f _ fun F1 H1 s => by
  cases b with
  | true =>
    show ta σ H1 Q
    exact (h1 rfl).up s.ff H1 s.fh _ fun w F2 H2 s2 hw => q w F2 H2 (s.trans s2) hw
  | false =>
    show tb σ H1 Q
    exact (h2 rfl).up s.ff H1 s.fh _ fun w F2 H2 s2 hw => q w F2 H2 (s.trans s2) hw
end
end DL

set_option Elab.async false
set_option linter.all false
set_option maxRecDepth 100000
set_option maxHeartbeats 1200000
namespace DL
open Evl (sq_of st_of sz_of sz_lt rMax2 ixN_nat)
open L2 PySem PySem.Spec PyProof.Rows
section
variable {X : Cx}
/-- list + list, of any lists that are read -/
def rCatL (K : PySem.W.Frag) : R2 := fun x y H Q => ∃ l b xs zs, x = .ref l ∧ y = .ref b ∧ SqL K H l xs ∧ SqL K H b zs ∧ xs.length + zs.length ≤ sizeLine ∧ ∀ p, H p = none → Q (.ref p) (upd H p (.lst (xs ++ zs)))
theorem op_catL : OpR X (binaryOp .Add) (rCatL X.K) := by
  intro pn s σ H x y v u Q I rx ry hc0
  obtain ⟨l, b, xs, zs, rfl, rfl, hH, hB, hz, q⟩ := hc0
  cases rx
  cases ry
  obtain ⟨its, r, ⟨⟨cls, dd, data, sl⟩, n, ho, hc, _, hd⟩, _⟩ := I.list hH
  obtain ⟨its2, r2, ⟨⟨cls2, dd2, data2, sl2⟩, n2, ho2, hc2, _, hd2⟩, _⟩ := I.list hB
  simp only at hc hd hc2 hd2
  subst hc hd hc2 hd2
  have e : its.toArray ++ its2.toArray = (its ++ its2).toArray := by simp
  have hsz : its.length + its2.length ≤ sizeLine := by rw [← r.length, ← r2.length]; exact hz
  refine concat_meets ⟨_, ho, rfl⟩ ⟨_, ho2, rfl⟩ noFill_list_add seq_list_add PySem.F.slot_list_add PySem.F.entry_list_add (PySem.F.args_list_add_2 _ _) (list_addW l b its.toArray its2.toArray n n2 dd dd2 sl sl2 (by simpa using hsz)) ⟨ho, ho2, ?_⟩
  rw [e]
  exact ⟨.ref _, _, I.lnew (t' := s.toks) (r.append r2) (by rw [List.length_append]; exact hz), rfl, q _ I.fresh⟩
/-- xs[i], by getItem alone (for xs[i] op= e) -/
def rGetL (K : PySem.W.Frag) : V → V → Hp → VK → Prop := fun x y H Q => ∃ p xs i j v, x = .ref p ∧ y = .int i ∧ SqL K H p xs ∧ i = ((j : Nat) : Int) ∧ xs[j]? = some v ∧ Q v H
theorem get_list : PGet X (rGetL X.K) := by
  intro pn s σ H x y v u Q I rx ry hc0
  obtain ⟨p, xs, i, j, w, rfl, rfl, kq, rfl, he, q⟩ := hc0
  cases rx
  obtain ⟨t, rfl⟩ := ry
  obtain ⟨its, r, pl, _⟩ := I.list kq
  obtain ⟨w', ew, rw'⟩ := r.get he
  have hl := r.length
  have hn := line63
  have hj : j < xs.length := (List.getElem?_eq_some_iff.mp he).1
  exact wpAny_getItem_list pl.isList (by omega) (by omega) (by rw [Int.toNat_natCast]; simpa using ew) ⟨w, H, I, rw', q⟩

/-! ### operators of any types -/
def CMulA (i j : Int) : Prop := CMul i j ∨ CMulW i j
theorem CMulA.ok {i j : Int} (h : CMulA i j) : IntMulOk i j := by
  rcases h with h | h
  · exact h.ok
  · exact h.ok
theorem op_mulA : OpR X (binaryOp .Mult) (rI CMulA fun i j => .int (i * j)) := opI fun _ _ _ _ _ _ _ hc q => mul_int q hc.ok
def rAddS : R2 := fun x y H Q => ∃ i j, x = .str i ∧ y = .str j ∧ i.length + j.length ≤ sizeLine ∧ Q (.str (i ++ j)) H
def rAddA (K : PySem.W.Frag) : R2 := fun x y H Q => ((rI0 fun i j => .int (i + j)) x y H Q ∨ rCatA K x y H Q) ∨ (rCatL K x y H Q ∨ rAddS x y H Q)
theorem op_addA : OpR X (binaryOp .Add) (rAddA X.K) := OpR.or (OpR.or op_add op_catA) (OpR.or op_catL op_add_str)
def rMulA (K : PySem.W.Frag) : R2 := fun x y H Q => (rI CMulA fun i j => .int (i * j)) x y H Q ∨ rRep x y H Q
theorem op_mulAny : OpR X (binaryOp .Mult) (rMulA X.K) := OpR.or op_mulA op_rep
def CDivA (i j : Int) : Prop := CDivN i j
def rDivA : R2 := rI CDivN fun i j => .int (i.fdiv j)
def rModA : R2 := rI (fun _ j => j ≠ 0) fun i j => .int (i.fmod j)
def rPowA : R2 := rI CPow fun i j => .int (i ^ j.toNat)
def rSubA : R2 := rI0 fun i j => .int (i - j)
theorem op_divA : OpR X (binaryOp .FloorDiv) rDivA := op_fdivN
theorem op_modA : OpR X (binaryOp .Mod) rModA := op_modN
theorem op_powA : OpR X (binaryOp .Pow) rPowA := op_pow
theorem op_subA : OpR X (binaryOp .Sub) rSubA := op_sub
def rLtA : R2 := rI0 fun i j => .bl (decide (i < j))
def rLeA : R2 := rI0 fun i j => .bl (decide (i ≤ j))
def rGtA : R2 := rI0 fun i j => .bl (decide (j < i))
def rGeA : R2 := rI0 fun i j => .bl (decide (j ≤ i))
theorem op_ltA : OpR X (compareOp .Lt) rLtA := op_lt
theorem op_leA : OpR X (compareOp .LtE) rLeA := op_le
theorem op_gtA : OpR X (compareOp .Gt) rGtA := op_gt
theorem op_geA : OpR X (compareOp .GtE) rGeA := op_ge
def rIsNA : R2 := fun x y H Q => y = .non ∧ Q (.bl (decide (x = .non))) H
def rIsNotA : R2 := fun x y H Q => y = .non ∧ Q (.bl (!decide (x = .non))) H
theorem op_isNA : OpR X (compareOp .Is) rIsNA := op_isN
theorem op_isNotA : OpR X (compareOp .IsNot) rIsNotA := op_notN
theorem sl_any : SlR X (fun x lo hi H Q => rSlL X.K x lo hi H Q ∨ rSlA X.K x lo hi H Q) := SlR.or sl_list sl_tupA
def rSl (K : PySem.W.Frag) : V → Option Int → Option Int → Hp → VK → Prop := fun x lo hi H Q => rSlL K x lo hi H Q ∨ rSlA K x lo hi H Q
theorem sl_anyA : SlR X (rSl X.K) := sl_any
def rLen (K : PySem.W.Frag) : List V → Hp → VK → Prop := fun xs H Q => (∃ p ys, xs = [.ref p] ∧ (SqL K H p ys ∨ SqT K H p ys) ∧ Q (.int ys.length) H) ∨ (∃ z, xs = [.str z] ∧ z.length ≤ sizeLine ∧ Q (.int z.length) H)
theorem call_lenA : CallR X (.builtin "len") (rLen X.K) := CallR.or call_len_seq call_len_str
def rListOf (K : PySem.W.Frag) : List V → Hp → VK → Prop := fun xs H Q => ∃ p ys, xs = [.ref p] ∧ (SqL K H p ys ∨ SqT K H p ys) ∧ ∀ l, H l = none → Q (.ref l) (upd H l (.lst ys))
theorem call_listA : CallR X (.type "list") (rListOf X.K) := call_list_of
def rTupleOf (K : PySem.W.Frag) : List V → Hp → VK → Prop := fun xs H Q => ∃ p ys, xs = [.ref p] ∧ ((SqL K H p ys ∧ ∀ l, H l = none → Q (.ref l) (upd H l (.tup ys))) ∨ (SqT K H p ys ∧ Q (.ref p) H))
theorem call_tupleA : CallR X (.type "tuple") (rTupleOf X.K) := call_tuple_of
def rInt : List V → Hp → VK → Prop := fun xs H Q => (∃ i, xs = [.int i] ∧ Q (.int i) H) ∨ ∃ k, xs = [.bl k] ∧ Q (.int (if k then 1 else 0)) H
theorem call_intA : CallR X (.type "int") rInt := call_int1
def rAbs : List V → Hp → VK → Prop := fun xs H Q => ∃ i, xs = [.int i] ∧ Q (.int (if i < 0 then -i else i)) H
theorem call_absA : CallR X (.builtin "abs") rAbs := call_abs
theorem call_maxA (hc : X.calm = true) : CallR X (.builtin "max") rMax2 := call_max2 hc
end

section
variable {K : PySem.W.Frag} {F : Hp} {T T1 T2 T3 : Ty} {i j : Int} {d e : PyData} {ds es : List PyData}
theorem rv_int {r : R2} {z : V} {d : PyData} (hz : ∀ F, Dp K F z d) (h : ∀ H Q, Q z H → r (.int i) (.int j) H Q) : RV r (TD K (.int i)) (TD K (.int j)) F (TD K d) := fun x y F1 H f f1 hx hy Q q => by
  rw [dp_int hx, dp_int hy]
  exact h H Q (q z F1 H (.refl f1) (hz _))
theorem rv_add : RV (rAddA K) (TD K (.int i)) (TD K (.int j)) F (TD K (.int (i + j))) := rv_int (fun _ => .int _) fun H Q q => .inl (.inl ⟨i, j, rfl, rfl, q⟩)
theorem rv_sub : RV rSubA (TD K (.int i)) (TD K (.int j)) F (TD K (.int (i - j))) := rv_int (fun _ => .int _) fun H Q q => ⟨i, j, rfl, rfl, q⟩
theorem rv_mul (h : CMulA i j) : RV (rMulA K) (TD K (.int i)) (TD K (.int j)) F (TD K (.int (i * j))) := rv_int (fun _ => .int _) fun H Q q => .inl ⟨i, j, rfl, rfl, h, q⟩
theorem rv_div (h : j ≠ 0 ∧ j.natAbs < 1073741824) : RV rDivA (TD K (.int i)) (TD K (.int j)) F (TD K (.int (i.fdiv j))) := rv_int (fun _ => .int _) fun H Q q => ⟨i, j, rfl, rfl, h, q⟩
theorem rv_mod (h : j ≠ 0) : RV rModA (TD K (.int i)) (TD K (.int j)) F (TD K (.int (i.fmod j))) := rv_int (fun _ => .int _) fun H Q q => ⟨i, j, rfl, rfl, h, q⟩
theorem rv_pow (h : CPow i j) : RV rPowA (TD K (.int i)) (TD K (.int j)) F (TD K (.int (i ^ j.toNat))) := rv_int (fun _ => .int _) fun H Q q => ⟨i, j, rfl, rfl, h, q⟩
theorem rv_lt : RV rLtA (TD K (.int i)) (TD K (.int j)) F (TD K (.bool (decide (i < j)))) := rv_int (fun _ => .bl _) fun H Q q => ⟨i, j, rfl, rfl, q⟩
theorem rv_le : RV rLeA (TD K (.int i)) (TD K (.int j)) F (TD K (.bool (decide (i ≤ j)))) := rv_int (fun _ => .bl _) fun H Q q => ⟨i, j, rfl, rfl, q⟩
theorem rv_gt : RV rGtA (TD K (.int i)) (TD K (.int j)) F (TD K (.bool (decide (j < i)))) := rv_int (fun _ => .bl _) fun H Q q => ⟨i, j, rfl, rfl, q⟩
theorem rv_ge : RV rGeA (TD K (.int i)) (TD K (.int j)) F (TD K (.bool (decide (j ≤ i)))) := rv_int (fun _ => .bl _) fun H Q q => ⟨i, j, rfl, rfl, q⟩
def isNone : PyData → Bool
  | .none => true
  | _ => false
theorem dp_isNone {H : Hp} {v : V} (h : Dp K H v d) : decide (v = .non) = isNone d := by
  cases h <;> first | rfl | exact decide_eq_false (by intro z; cases z)
theorem rv_isN : RV rIsNA (TD K d) (TD K .none) F (TD K (.bool (isNone d))) := fun x y F1 H f f1 hx hy Q q =>
  ⟨dp_none hy, by rw [dp_isNone hx]; exact q _ F1 H (.refl f1) (.bl _)⟩
theorem rv_isNot : RV rIsNotA (TD K d) (TD K .none) F (TD K (.bool (!isNone d))) := fun x y F1 H f f1 hx hy Q q =>
  ⟨dp_none hy, by rw [dp_isNone hx]; exact q _ F1 H (.refl f1) (.bl _)⟩
/-- the data is of a shape that == takes -/
abbrev Sh (d : PyData) : Prop := SeqAt.shaped d = true
theorem rv_eq (h1 : Sh d) (h2 : Sh e) : RV (rEqD K) (TD K d) (TD K e) F (TD K (.bool (PyData.eqv d e))) := fun x y F1 H f f1 hx hy Q q =>
  ⟨d, e, dp_mono f1 hx, dp_mono f1 hy, h1, h2, q _ F1 H (.refl f1) (.bl _)⟩
theorem rv_ne (h1 : Sh d) (h2 : Sh e) : RV (rNeD K) (TD K d) (TD K e) F (TD K (.bool (!PyData.eqv d e))) := fun x y F1 H f f1 hx hy Q q =>
  ⟨d, e, dp_mono f1 hx, dp_mono f1 hy, h1, h2, q _ F1 H (.refl f1) (.bl _)⟩
theorem rv_catT (hl : ds.length + es.length ≤ 100000) : RV (rAddA K) (TD K (.tuple ds)) (TD K (.tuple es)) F (TD K (.tuple (ds ++ es))) := fun x y F1 H f f1 hx hy Q q => by
  obtain ⟨a, xs, rfl, h1, h2⟩ := dp_tuple hx
  obtain ⟨b, ys, rfl, h3, h4⟩ := dp_tuple hy
  refine .inl (.inr ⟨a, b, xs, ys, rfl, rfl, same_t f1 h1, same_t f1 h3, sz_of (by rw [dpAll_len h2, dpAll_len h4]; exact hl), fun e => ?_, fun _ e => ?_, fun _ _ p hp => ?_⟩)
  · subst e
    cases h2
    exact q _ F1 H (.refl f1) hy
  · subst e
    cases h4
    rw [List.append_nil] at q
    exact q _ F1 H (.refl f1) hx
  · have m := same_new (o := .tup (xs ++ ys)) (fresh_back f1 hp)
    exact q _ _ _ ((Stp.refl f1).alloc hp) (.tup (st_of upd_same) (dpAll_app (dpAll_mono m h2) (dpAll_mono m h4)))
/-- a new list: by an operator, by a call, by a slice -/
def RVN (K : PySem.W.Frag) (r : R2) (T1 T2 : Ty) (F : Hp) (ds : List PyData) : Prop := ∀ x y F1 H, Same F F1 → Same F1 H → T1.p x F1 → T2.p y F1 → ∀ Q : VK, (∀ p xs, H p = none → DpAll K F1 xs ds → Q (.ref p) (upd H p (.lst xs))) → r x y H Q
def RCN (K : PySem.W.Frag) (r : List V → Hp → VK → Prop) (Ts : List Ty) (F : Hp) (ds : List PyData) : Prop := ∀ vs F1 H, Same F F1 → Same F1 H → All2 F1 vs Ts → ∀ Q : VK, (∀ p xs, H p = none → DpAll K F1 xs ds → Q (.ref p) (upd H p (.lst xs))) → r vs H Q
def RSN (K : PySem.W.Frag) (r : V → Option Int → Option Int → Hp → VK → Prop) (T1 : Ty) (lo hi : Option Int) (F : Hp) (ds : List PyData) : Prop := ∀ x F1 H, Same F F1 → Same F1 H → T1.p x F1 → ∀ Q : VK, (∀ p xs, H p = none → DpAll K F1 xs ds → Q (.ref p) (upd H p (.lst xs))) → r x lo hi H Q
variable {σ : L2.St} {ta tb te : TE}
theorem en_op {r : R2} (ha : Ev ta σ F T1) (hb : Ev tb σ F T2) (hr : RVN K r T1 T2 F ds) : EvN K (tOp r ta tb) σ F ds := fun H f Q q =>
  ha H f _ fun x F1 H1 s1 hx => (hb.up s1.ff) H1 s1.fh _ fun y F2 H2 s2 hy =>
    hr x y F2 H2 (s1.ff.trans s2.ff) s2.fh (T1.m s2.ff hx) hy Q fun p xs hp hd => q p xs F2 H2 (s1.trans s2) hp hd
theorem en_cb {r : List V → Hp → VK → Prop} {ta : TA} {Ts : List Ty} (ha : EvA ta σ F Ts) (hr : RCN K r Ts F ds) : EvN K (tCB r ta) σ F ds := fun H f Q q =>
  ha H f _ fun x F1 H1 s1 hx => hr x F1 H1 s1.ff s1.fh hx Q fun p xs hp hd => q p xs F1 H1 s1 hp hd
theorem en_sl {r : V → Option Int → Option Int → Hp → VK → Prop} {tl th : L2.TO} {lo hi : Option Int} (h : Ev te σ F T1) (h1 : EvO tl σ F lo) (h2 : EvO th σ F hi) (hr : RSN K r T1 lo hi F ds) : EvN K (tSl r te tl th) σ F ds := fun H f Q q =>
  h H f _ fun x F1 H1 s1 hx => (h1.up s1.ff) H1 s1.fh _ fun F2 H2 s2 => (h2.up (s1.ff.trans s2.ff)) H2 s2.fh _ fun F3 H3 s3 =>
    hr x F3 H3 ((s1.ff.trans s2.ff).trans s3.ff) s3.fh (T1.m (s2.ff.trans s3.ff) hx) Q fun p xs hp hd => q p xs F3 H3 ((s1.trans s2).trans s3) hp hd
theorem rn_catL (hl : ds.length + es.length ≤ 100000) : RVN K (rAddA K) (TD K (.list ds)) (TD K (.list es)) F (ds ++ es) := fun x y F1 H f f1 hx hy Q q => by
  obtain ⟨a, xs, rfl, h1, h2⟩ := dp_list hx
  obtain ⟨b, ys, rfl, h3, h4⟩ := dp_list hy
  exact .inr (.inl ⟨a, b, xs, ys, rfl, rfl, same_l f1 h1, same_l f1 h3, sz_of (by rw [dpAll_len h2, dpAll_len h4]; exact hl), fun p hp => q p _ hp (dpAll_app h2 h4)⟩)
/-- a list just made, times an int -/
theorem dpAll_rep {H : Hp} {vs : List V} (h : DpAll K H vs ds) : ∀ n : Nat, DpAll K H (List.replicate n vs).flatten (List.replicate n ds).flatten
  | 0 => .nil
  | n + 1 => by
    simp only [List.replicate_succ, List.flatten_cons]
    exact dpAll_app h (dpAll_rep h n)
theorem en_rep {k : Int} (ha : EvN K ta σ F ds) (hb : Ev tb σ F (TD K (.int k))) (hk : -100000 ≤ k ∧ k ≤ 100000) (hl : ds.length * k.toNat ≤ 100000) : EvN K (tOp (rMulA K) ta tb) σ F (List.replicate k.toNat ds).flatten := fun H f Q q =>
  ha H f _ fun p xs F1 H1 s1 hp hd => by
    have s2 := s1.alloc (o := .lst xs) hp
    refine (hb.up s2.ff) _ s2.fh _ fun y F3 H3 s3 hy => ?_
    rw [dp_int hy]
    have e : H3 p = some (.lst xs) := s3.hh p _ upd_same
    refine .inr ⟨p, k, xs, rfl, rfl, e, by omega, by omega, sz_of (by rw [dpAll_len hd]; exact hl), fun r hr => ?_⟩
    exact q r _ F3 H3 (s2.trans s3) hr (dpAll_rep (dpAll_mono ((same_new (fresh_back s1.fh hp)).trans s3.ff) hd) _)
theorem rn_list_l : RCN K (rListOf K) [TD K (.list ds)] F ds := fun vs F1 H f f1 hv Q q => by
  match vs, hv with
  | [v], hv =>
    obtain ⟨a, xs, rfl, h1, h2⟩ := dp_list hv.1
    exact ⟨a, xs, rfl, .inl (same_l f1 h1), fun l hl => q l xs hl h2⟩
theorem rn_list_t : RCN K (rListOf K) [TD K (.tuple ds)] F ds := fun vs F1 H f f1 hv Q q => by
  match vs, hv with
  | [v], hv =>
    obtain ⟨a, xs, rfl, h1, h2⟩ := dp_tuple hv.1
    exact ⟨a, xs, rfl, .inr (same_t f1 h1), fun l hl => q l xs hl h2⟩
theorem rc_tuple_l : RC (rTupleOf K) [TD K (.list ds)] F (TD K (.tuple ds)) := fun vs F1 H f f1 hv Q q => by
  match vs, hv with
  | [v], hv =>
    obtain ⟨a, xs, rfl, h1, h2⟩ := dp_list hv.1
    exact ⟨a, xs, rfl, .inl ⟨same_l f1 h1, fun l hl => q _ _ _ ((Stp.refl f1).alloc hl) (.tup (st_of upd_same) (dpAll_mono (same_new (fresh_back f1 hl)) h2))⟩⟩
theorem rc_tuple_t : RC (rTupleOf K) [TD K (.tuple ds)] F (TD K (.tuple ds)) := fun vs F1 H f f1 hv Q q => by
  match vs, hv with
  | [v], hv =>
    obtain ⟨a, xs, rfl, h1, h2⟩ := dp_tuple hv.1
    exact ⟨a, xs, rfl, .inr ⟨same_t f1 h1, q _ _ _ (Stp.refl f1) hv.1⟩⟩
theorem rc_len_l : RC (rLen K) [TD K (.list ds)] F (TD K (.int ds.length)) := fun vs F1 H f f1 hv Q q => by
  match vs, hv with
  | [v], hv =>
    obtain ⟨a, xs, rfl, h1, h2⟩ := dp_list hv.1
    exact .inl ⟨a, xs, rfl, .inl (same_l f1 h1), by rw [dpAll_len h2]; exact q _ _ _ (Stp.refl f1) (.int _)⟩
theorem rc_len_t : RC (rLen K) [TD K (.tuple ds)] F (TD K (.int ds.length)) := fun vs F1 H f f1 hv Q q => by
  match vs, hv with
  | [v], hv =>
    obtain ⟨a, xs, rfl, h1, h2⟩ := dp_tuple hv.1
    exact .inl ⟨a, xs, rfl, .inr (same_t f1 h1), by rw [dpAll_len h2]; exact q _ _ _ (Stp.refl f1) (.int _)⟩
theorem rc_len_s {z : Str} (hz : z.length ≤ 100000) : RC (rLen K) [TD K (.str z)] F (TD K (.int z.length)) := fun vs F1 H f f1 hv Q q => by
  match vs, hv with
  | [v], hv => exact .inr ⟨z, by rw [dp_str hv.1], sz_of hz, q _ _ _ (Stp.refl f1) (.int _)⟩
theorem rc_int : RC rInt [TD K (.int i)] F (TD K (.int i)) := fun vs F1 H f f1 hv Q q => by
  match vs, hv with
  | [v], hv => exact .inl ⟨i, by rw [dp_int hv.1], q _ _ _ (Stp.refl f1) (.int _)⟩
theorem rc_intb {b : Bool} : RC rInt [TD K (.bool b)] F (TD K (.int (if b then 1 else 0))) := fun vs F1 H f f1 hv Q q => by
  match vs, hv with
  | [v], hv => exact .inr ⟨b, by rw [dp_bool hv.1], q _ _ _ (Stp.refl f1) (.int _)⟩
theorem rc_abs : RC rAbs [TD K (.int i)] F (TD K (.int (if i < 0 then -i else i))) := fun vs F1 H f f1 hv Q q => by
  match vs, hv with
  | [v], hv => exact ⟨i, by rw [dp_int hv.1], q _ _ _ (Stp.refl f1) (.int _)⟩
theorem rc_max : RC rMax2 [TD K (.int i), TD K (.int j)] F (TD K (.int (if j > i then j else i))) := fun vs F1 H f f1 hv Q q => by
  match vs, hv with
  | [v, w], hv => exact ⟨i, j, by rw [dp_int hv.1, dp_int hv.2.1], q _ _ _ (Stp.refl f1) (.int _)⟩
theorem rc_all {bs : List Bool} : RC (rAll K) [TD K (.list (bs.map .bool))] F (TD K (.bool (bs.all id))) := fun vs F1 H f f1 hv Q q => by
  match vs, hv with
  | [v], hv =>
    obtain ⟨a, xs, rfl, h1, h2⟩ := dp_list hv.1
    refine ⟨a, bs, rfl, ?_, q _ _ _ (Stp.refl f1) (.bl _)⟩
    rw [← dpAll_bools' h2]
    exact same_l f1 h1
theorem rc_sum {ns : List Int} : RC (rSum K) [TD K (.list (ns.map .int))] F (TD K (.int ns.sum)) := fun vs F1 H f f1 hv Q q => by
  match vs, hv with
  | [v], hv =>
    obtain ⟨a, xs, rfl, h1, h2⟩ := dp_list hv.1
    refine ⟨a, ns, rfl, ?_, q _ _ _ (Stp.refl f1) (.int _)⟩
    rw [← dpAll_ints' h2]
    exact same_l f1 h1
/-- an item -/
theorem atI_map {xs : List V} (h : DpAll K F xs ds) {i : Int} (e : atI ds i = some d) : ∃ v, atI xs i = some v ∧ Dp K F v d := by
  unfold atI at e ⊢
  rw [dpAll_len h]
  cases z : ixN ds.length i with
  | none => rw [z] at e; cases e
  | some k =>
    rw [z] at e
    obtain ⟨v, h1, h2⟩ := dpAll_get h (i := k) (d := d) e
    exact ⟨v, h1, h2⟩
theorem rv_ixL (e : atI ds i = some d) : RV (rIx K) (TD K (.list ds)) (TD K (.int i)) F (TD K d) := fun x y F1 H f f1 hx hy Q q => by
  obtain ⟨a, xs, rfl, h1, h2⟩ := dp_list hx
  obtain ⟨v, h3, h4⟩ := atI_map h2 e
  rw [dp_int hy]
  exact .inl ⟨a, xs, i, v, rfl, rfl, same_l f1 h1, h3, q v F1 H (.refl f1) h4⟩
theorem rv_ixT (e : atI ds i = some d) : RV (rIx K) (TD K (.tuple ds)) (TD K (.int i)) F (TD K d) := fun x y F1 H f f1 hx hy Q q => by
  obtain ⟨a, xs, rfl, h1, h2⟩ := dp_tuple hx
  obtain ⟨v, h3, h4⟩ := atI_map h2 e
  rw [dp_int hy]
  exact .inr (.inl ⟨a, xs, i, v, rfl, rfl, same_t f1 h1, h3, q v F1 H (.refl f1) h4⟩)
/-- slices -/
def cutD (xs : List PyData) (lo hi : Option Int) : List PyData := (xs.drop (HT.sIx xs.length 0 lo)).take (HT.sIx xs.length xs.length hi - HT.sIx xs.length 0 lo)
theorem dpAll_cut {H : Hp} {xs : List V} {lo hi : Option Int} (h : DpAll K H xs ds) : DpAll K H (cutV xs lo hi) (cutD ds lo hi) := by
  unfold cutV cutD
  rw [dpAll_len h]
  exact dpAll_take (dpAll_drop h)
theorem rn_slL {lo hi : Option Int} : RSN K (rSl K) (TD K (.list ds)) lo hi F (cutD ds lo hi) := fun x F1 H f f1 hx Q q => by
  obtain ⟨a, xs, rfl, h1, h2⟩ := dp_list hx
  exact .inl ⟨a, xs, rfl, same_l f1 h1, fun p hp => q p _ hp (dpAll_cut h2)⟩
end
end DL

set_option Elab.async false
set_option linter.all false
set_option maxRecDepth 100000
set_option maxHeartbeats 1200000
/-! enumerate(tuple), as enumerate(list) -/
namespace DL
open Evl (sq_of st_of sz_of sz_lt rMax2 ixN_nat)
open L2 PySem PySem.Spec PyProof.Rows
open Sem (wp)
open AutoSeq1 (wpAny_loadPart') -- own reading
abbrev enumO (a : Addr) : Obj := { cls := .type "enumerate", data := .fields #[.none, .bool false, .ref a, rawInt 0, .none, .none] }
theorem meets_enumerate_newT (l : Addr) (all0 : Array Value) (n : Nat) (dc0 : Option Addr) (sl : Array (Option Value)) :
    Meets (Builtin.«enumerate.__new__» ⟨[.type "enumerate", .ref l], []⟩) (fun _ R s => s.heap.get? l = some { cls := .type "tuple", dict := dc0, data := .seq all0 n, slots := sl } ∧
      R (.ok (.ret (.ref (s.heap.push { cls := .type "tuple_iterator", data := .fields #[.ref l, .int 0 0] }).objs.size)))
        { s with heap := (s.heap.push { cls := .type "tuple_iterator", data := .fields #[.ref l, .int 0 0] }).push (enumO s.heap.objs.size) }) :=
  .of_wp fun pg w Ar R s h => by
    obtain ⟨h0, g, d, k0, o0⟩ := s; obtain ⟨kl, h⟩ := h
    have sb0 := sub_enumerate
    have isT : Heap.IsTuple (Shared.heap ⟨h0, g, d, k0, o0⟩) l all0 := ⟨_, kl, rfl, n, rfl⟩
    wp_walk using wpAny_loadPart' kl
    refine wpAny_stack_any fun sn => wpAny_pure ?_
    split
    · rename_i c _ _ _ _ _
      cases hce : (c == Value.type "enumerate")
      · wp_walk using wpAny_loadPart' kl, wpAny_pyIter_tuple isT
        exact ⟨_, rfl, h⟩
      · wp_walk using wpAny_loadPart' kl, wpAny_pyIter_tuple isT
        exact ⟨_, rfl, h⟩
    · wp_walk using wpAny_loadPart' kl, wpAny_pyIter_tuple isT
      exact ⟨_, rfl, h⟩
section
variable {pg : Program} {w : World} {Ar : Around} {Ex : Value → Shared → Prop} {s : Shared}
theorem call_enumerate_tuple {l : Addr} {all0 : Array Value} {Q : Value → Shared → Prop} (isT : s.heap.IsTuple l all0)
    (h : ∀ g', IsEnum g' (s.heap.objs.size + 1) s.heap.objs.size 0 .none → g'.IsTupleIter s.heap.objs.size l 0 → g'.objs.size = s.heap.objs.size + 2 →
      (∀ b o, s.heap.get? b = some o → g'.get? b = some o) → Q (.ref (s.heap.objs.size + 1)) { s with heap := g' }) :
    wpAny (model pg w) Ar (call (.type "enumerate") [.ref l]) Q Ex s := by
  obtain ⟨⟨c, dc0, dt, sl⟩, kl, kc, n, kd⟩ := isT
  replace kc : c = .type "tuple" := kc
  replace kd : dt = .seq all0 n := kd
  subst kc kd
  refine callType_new F.called_enumerate (by decide) (F.typeCall_enumerate_1 _) (F.newCall_enumerate_1 _) (fun ob => F.args_object_init_2 ob _) F.entry_enumerate_new
    (meets_enumerate_newT l all0 n dc0 sl) ⟨kl, ?_⟩
  have sz0 : (s.heap.push { cls := .type "tuple_iterator", data := .fields #[.ref l, .int 0 0] }).objs.size = s.heap.objs.size + 1 := Heap.size_push ..
  show _ ∧ _
  rw [sz0]
  have ke : IsEnum ((s.heap.push { cls := .type "tuple_iterator", data := .fields #[.ref l, .int 0 0] }).push
      (enumO s.heap.objs.size)) (s.heap.objs.size + 1) s.heap.objs.size 0 .none := by
    have := Heap.get?_push_size (o := enumO s.heap.objs.size) (s.heap.push { cls := .type "tuple_iterator", data := .fields #[.ref l, .int 0 0] })
      rfl
    rw [sz0] at this; exact this
  refine ⟨⟨_, ke, rfl⟩, h _ ke ⟨_, Heap.get?_push_of_some _ (Heap.get?_push_size _ rfl), rfl, rfl⟩ (by rw [Heap.size_push, sz0]) fun b o x => Heap.get?_push_of_some _ (Heap.get?_push_of_some _ x)⟩
end
theorem wpAny_pyNext_enum_endT {pg : Program} {w : World} {Ar : Around} {Ex : Value → Shared → Prop} {s : Shared} {e it l : Addr} {i : Nat} {all0 : Array Value} {was : Value} {Q : Option Value → Shared → Prop} (hh : Ar.handled = none)
    (ke : IsEnum s.heap e it i was) (kit : s.heap.IsTupleIter it l i) (kl : s.heap.IsTuple l all0) (kx : all0[i]? = none)
    (kQ : ∀ g', Heap.ExtBut it s.heap g' → Q none { s with heap := g' }) : wpAny (model pg w) Ar (pyNext (.ref e)) Q Ex s := by
  have kT : s.TypeIs (.ref e) "enumerate" := ⟨_, ke, rfl⟩
  unfold pyNext
  refine wpAny_bind (wpAny_attempt (wpAny_callSpecial?_slot (name := Str.ofString "__next__") kT F.slot_enumerate_next
    (wpAny_call_entry F.slot_enumerate_next kT F.entry_enumerate_next ?_ (F.args_enumerate_next_1 _))))
  change wpAny _ _ (field (.ref e) 2 >>= _) _ _ _
  refine wpAny_bind (wpAny_field ke rfl (x := .ref it) rfl ?_)
  refine wpAny_bind (wpAny_nextOf_tuple_end hh kit kl kx fun g' x he' hx' => ?_)
  obtain ⟨o, ho, kc⟩ := hx'
  refine wpAny_bind (wpAny_isInstance (T := "StopIteration") (b := true) ⟨o, ho, kc⟩ isSubtype_stop ?_)
  exact wpAny_pure (kQ _ he')
def IteT (K : PySem.W.Frag) (a : Addr) : It :=
  ⟨fun i H => ∃ (xs : List V) (x : V), SqT K H a xs ∧ xs[i]? = some x, fun i H v H' => ∃ T x, v = .ref T ∧ H T = none ∧ H' = upd H T (.tup [.int (i : Nat), x]) ∧ ∀ xs, SqT K H a xs → xs[i]? = some x, fun i H => ∃ xs : List V, SqT K H a xs ∧ xs.length ≤ i⟩
theorem turn_enumT {P : Program} {w : World} {K : PySem.W.Frag} {elts : List Expr} {kk : Nat} {tpos : Pos} (a e it : Addr) :
    Turn P w K (.Tuple elts kk tpos) (IteT K a) [e, it] e (fun i h => (∃ was, IsEnum h e it ((i : Nat) : Int) was) ∧ h.IsTupleIter it a i ∧ e ≠ it ∧ a ≠ it ∧ a ≠ e) where
  mem := by simp
  obj := fun i h sn b kb => by
    obtain ⟨⟨was, ke⟩, ⟨o, ho, kc, kd⟩, _⟩ := sn
    have eb2 : b = e ∨ b = it := by simpa using kb
    rcases eb2 with c | c
    · rw [c]; exact ⟨_, ke, fun v q => nomatch q⟩
    · rw [c]; exact ⟨o, ho, fun v q => by rw [kd] at q; cases q⟩
  keep := fun i h g' sn k => let ⟨⟨was, ke⟩, hi, n1⟩ := sn; ⟨⟨was, k e (by simp) _ ke⟩, hi.at fun o q => k it (by simp) o q, n1⟩
  item := by
    intro X aP aw aK kc i pn s σ H Ex I fp sn kg
    subst aP aw aK
    obtain ⟨⟨was, ke⟩, kit, n1, n2, n3⟩ := sn
    obtain ⟨xs, x, kq, kx⟩ := kg
    obtain ⟨ys, ry, p, sz0⟩ := I.tuple kq
    obtain ⟨u, ku, kr⟩ := ry.get kx
    have le1 : e < s.heap.objs.size := Heap.lt_size ke
    have le2 : it < s.heap.objs.size := by obtain ⟨_, q, _⟩ := kit; exact Heap.lt_size q
    have Dr := Draws.tuple (prog := X.prog) (w := X.w) (A := X.A.in1) (I.ok.hd kc) it a n2 ys.toArray
    have hlt : i < ys.toArray.size := by
      rw [List.size_toArray]
      exact (List.getElem?_eq_some_iff.mp ku).1
    refine wpAny_pyNext_enum_itemD Dr ke ⟨kit, show s.heap.IsTuple a ys.toArray from p⟩ hlt n1 (by simp [n1, Ne.symm n3]) fun u' g' k0 hP' ho hst' kT ksz kk2 => ?_
    have hu' : u' = u := by
      have p1 : ys.toArray[i]? = some u' := hP'
      have q2 : ys.toArray[i]? = some u := by simpa using ku
      rw [p1] at q2
      exact Option.some.inj q2
    subst hu'
    have hit' := hst'.1
    refine ⟨_, rfl, wpAny_letOwnedTupleGo_enum (s := { s with heap := g', toks := k0 + 1 }) ho fun h'' he' sb => ?_⟩
    have hT2 : h''.get? s.heap.objs.size = some { cls := .type "tuple", data := .seq #[.int i k0, u'] } := (sb.2 _ (Nat.ne_of_gt le1)).trans kT
    have made : ObjOk X.prog X.w (upd H s.heap.objs.size (.tup [.int (i : Nat), x])) h'' s.heap.objs.size (.tup [.int (i : Nat), x]) :=
      ⟨by show 2 ≤ sizeLine; decide, [.int i k0, u'], .cons ⟨_, rfl⟩ (.cons kr .nil), ⟨_, hT2, rfl, _, rfl⟩⟩
    have J1 : Inv X pn σ (upd H s.heap.objs.size (.tup [.int (i : Nat), x])) { s with heap := h'', toks := k0 + 1 } :=
      I.turnedNew (ch := [e, it]) (fun b ob kb q => (sb.2 b (fun c => kb (by simp [c]))).trans (kk2 b ob (fun c => kb (by simp [c])) (fun c => kb (by simp [c])) q)) fp (Nat.le_refl _) made
    refine ⟨.ref s.heap.objs.size, _, J1, rfl, ⟨_, x, rfl, I.hok.fresh (Nat.le_refl _), rfl, fun ys hy => by rw [I.tuple_inj hy kq]; exact kx⟩, ⟨⟨u', ?_⟩, hit'.at fun o q => (sb.2 it (Ne.symm n1)).trans q, n1, n2, n3⟩, fun b kb => ?_⟩
    · have ei : ((i + 1 : Nat) : Int) = (i : Int) + 1 := by omega
      rw [ei]; exact he'
    · have lb : b < s.heap.objs.size := by
        have eb2 : b = e ∨ b = it := by simpa using kb
        rcases eb2 with c | c
        · rw [c]; exact le1
        · rw [c]; exact le2
      rw [upd_ne (Nat.ne_of_lt lb)]
      exact (fp b kb).1
  done := by
    intro X aP aw aK kc i pn s σ H Ex I fp sn kg
    subst aP aw aK
    obtain ⟨⟨was, ke⟩, kit, n1, n2, n3⟩ := sn
    obtain ⟨xs, kq, kx⟩ := kg
    obtain ⟨ys, ry, p, sz0⟩ := I.tuple kq
    obtain ⟨w0, w1, w2, w3, w4, w5⟩ := fp it (by simp)
    have kl := ry.length
    have Dr := Draws.tuple (prog := X.prog) (w := X.w) (A := X.A.in1) (I.ok.hd kc) it a n2 ys.toArray
    -- the end: i is the length
    refine wpAny_pyNext_enum_endT (I.ok.hd kc) ke kit (show s.heap.IsTuple a ys.toArray from p) (by simp; omega) fun g' eb => ⟨rfl, I.turned (t' := s.toks) (fun b o kb q => eb b o kb q) w0 w1 w3 w4 w5⟩
  self := fun Ar i s Q Ex sn h => let ⟨⟨_, ke⟩, _⟩ := sn; wpAny_pyIter_enum ke h
def iEnumT (K : PySem.W.Frag) (ta : TA) : TI := fun σ H R => ta σ H fun vs G1 => ∃ a xs, vs = [.ref a] ∧ SqT K G1 a xs ∧ R (IteT K a) G1
/-- one reading of a walk, or another -/
theorem piOr {X : Cx} {tg l : Expr} {w1 w2 : TI} (a : PI X tg l w1) (b : PI X tg l w2) : PI X tg l (fun σ H R => w1 σ H R ∨ w2 σ H R) :=
  ⟨fun pn s σ H R I h => h.elim (a.run pn s σ H R I) (b.run pn s σ H R I)⟩
theorem pi_enumT {X : Cx} {e : Expr} {ta : TA} {p pos tpos : Pos} {elts : List Expr} {kk : Nat} (kg : Gl X "enumerate") (km : X.mg "enumerate" = none) (ka : PA X [e] ta) (ks : starEach [e] X.env = [(false, eval e X.env)] := by rfl) :
    PI X (.Tuple elts kk tpos) (.Call (.Name "enumerate" p) [e] [] pos) (iEnumT X.K ta) := ⟨fun pn s σ H R I h => by
  refine Call_ (ld_blt I kg km boot_enumerate (PyProof.Rows.callWith_type1 (thn (ka.run pos pn s σ H _ I h) ?_) ks rfl))
  rintro us t1 ⟨vs, G1, J1, rr, a, xs, rfl, kq, q⟩
  cases rr with
  | cons r rs =>
    cases rs
    cases r
    obtain ⟨ys, ry, isT, _⟩ := J1.tuple kq
    have la : a < t1.heap.objs.size := let ⟨_, e, _⟩ := isT; Heap.lt_size e
    refine call_enumerate_tuple (show t1.heap.IsTuple a ys.toArray from isT) fun g ke kit _ kk2 => wpAny_pyIter_enum ke ?_
    exact ⟨t1.heap.objs.size + 1, [t1.heap.objs.size + 1, t1.heap.objs.size], _, _, G1, rfl, J1.kept (t' := t1.toks) kk2, turn_enumT a _ _,
      ⟨⟨.none, ke⟩, kit, Nat.succ_ne_self _, Nat.ne_of_lt la, Nat.ne_of_lt (Nat.lt_succ_of_lt la)⟩, fun b kb =>
        have le : t1.heap.objs.size ≤ b := by
          rcases List.mem_cons.mp kb with c | c
          · rw [c]; exact Nat.le_succ _
          · exact Nat.le_of_eq (List.mem_singleton.mp c).symm
        J1.fpOk le (J1.hok.fresh le), q⟩⟩
/-- enumerate of a list, of a tuple -/
def iEnumA (K : PySem.W.Frag) (ta : TA) : TI := fun σ H R => iEnum K ta σ H R ∨ iEnumT K ta σ H R
theorem pi_enumA {X : Cx} {e : Expr} {ta : TA} {p pos tpos : Pos} {elts : List Expr} {kk : Nat} (kg : Gl X "enumerate") (km : X.mg "enumerate" = none) (ka : PA X [e] ta) (ks : starEach [e] X.env = [(false, eval e X.env)] := by rfl) :
    PI X (.Tuple elts kk tpos) (.Call (.Name "enumerate" p) [e] [] pos) (iEnumA X.K ta) := piOr (pi_enum kg km ka ks) (pi_enumT kg km ka ks)
end DL

set_option Elab.async false
set_option linter.all false
set_option maxRecDepth 100000
set_option maxHeartbeats 1200000
/-! statements, loops, calls, over the frozen heap and the lists that a def owns -/
namespace DL
open Evl (sq_of st_of sz_of sz_lt rMax2 ixN_nat)
open L2 PySem PySem.Spec PyProof.Rows

/-- from the entry (F0, H0): the frozen heap grew, the heap is as it was but at M -/
structure Gr (M : List Addr) (F0 H0 F H : Hp) : Prop where
  ff : Same F0 F
  fh : Same F H
  hh : ∀ a o, a ∉ M → H0 a = some o → H a = some o
  nw : ∀ p, F0 p = none → H0 p ≠ none → F p = none
  al : ∀ p, H0 p ≠ none → H p ≠ none
theorem Gr.refl {M : List Addr} {F H : Hp} (e : Same F H) : Gr M F H F H := ⟨.refl _, e, fun _ _ _ h => h, fun _ h _ => h, fun _ h => h⟩
theorem Gr.step {M : List Addr} {F0 H0 F H F2 H2 : Hp} (g : Gr M F0 H0 F H) (s : Stp F H F2 H2) : Gr M F0 H0 F2 H2 :=
  ⟨g.ff.trans s.ff, s.fh, fun a o h h' => s.hh a o (g.hh a o h h'), fun p h h' => s.nw p (g.nw p h h') (g.al p h'), fun p h => some_of_same s.hh (g.al p h)⟩
theorem Gr.stp {F0 H0 F H : Hp} (g : Gr [] F0 H0 F H) : Stp F0 H0 F H := ⟨fun a o h => g.hh a o (List.not_mem_nil) h, g.ff, g.fh, g.nw⟩
/-- a call that changes at N (within M, or new since the entry) -/
theorem Gr.trans {M N : List Addr} {F0 H0 F H F2 H2 : Hp} (g : Gr M F0 H0 F H) (s : Gr N F H F2 H2) (hn : ∀ p ∈ N, p ∈ M ∨ H0 p = none) : Gr M F0 H0 F2 H2 :=
  ⟨g.ff.trans s.ff, s.fh, fun a o h h' => s.hh a o (fun hm => by
      rcases hn a hm with q | q
      · exact h q
      · rw [q] at h'; cases h') (g.hh a o h h'), fun p h h' => s.nw p (g.nw p h h') (g.al p h'), fun p h => s.al p (g.al p h)⟩

/-- what is true of the frozen heap, and stays so -/
structure Fact where
  p : Hp → Prop
  m : ∀ {F F' : Hp}, Same F F' → p F → p F'
def Fact.mark (Fw : Hp) : Fact := ⟨fun F => Same Fw F, fun e h => h.trans e⟩
abbrev Ow := List (Addr × HO)
structure S (M : List Addr) (W : List Fact) (F0 H0 F H : Hp) (σ : L2.St) (ss : List Sl) (O : Ow) : Prop where
  gr : Gr M F0 H0 F H
  env : Env F σ ss
  own : ∀ q ∈ O, F q.1 = none ∧ H q.1 = some q.2 ∧ (q.1 ∈ M ∨ H0 q.1 = none)
  nd : (O.map (·.1)).Nodup
  mrk : ∀ m ∈ W, m.p F
section
variable {K : PySem.W.Frag} {M N : List Addr} {W : List Fact} {F0 H0 F H F2 H2 F' : Hp} {σ : L2.St} {ss : List Sl} {O : Ow} {T T1 : Ty} {te ta tb : TE} {D : Ends} {ds es : List PyData}
theorem S.fh (s : S M W F0 H0 F H σ ss O) : Same F H := s.gr.fh
theorem S.step (s : S M W F0 H0 F H σ ss O) (st : Stp F H F2 H2) : S M W F0 H0 F2 H2 σ ss O where
  gr := s.gr.step st
  env := s.env.mono st.ff
  own := fun q hq => by
    obtain ⟨h1, h2, h3⟩ := s.own q hq
    exact ⟨st.nw _ h1 (by rw [h2]; exact fun z => by cases z), st.hh _ _ h2, h3⟩
  nd := s.nd
  mrk := fun m hm => m.m st.ff (s.mrk m hm)
theorem S.set {v : V} {i : Nat} (s : S M W F0 H0 F H σ ss O) (h : T.p v F) : S M W F0 H0 F H (σ.set i (some v)) (ss.set i (some T)) O := ⟨s.gr, Env.set h s.env, s.own, s.nd, s.mrk⟩
theorem S.wipe (s : S M W F0 H0 F H σ ss O) (vs : List Nat) : S M W F0 H0 F H (wipe σ vs) (wipeS ss vs) O := ⟨s.gr, s.env.wipe vs, s.own, s.nd, s.mrk⟩
/-- only the heap grows -/
theorem S.heap (s : S M W F0 H0 F H σ ss O) (h : Same H H2) : S M W F0 H0 F H2 σ ss O :=
  s.step ⟨h, .refl _, s.fh.trans h, fun _ h _ => h⟩
theorem S.envH (s : S M W F0 H0 F H σ ss O) : Env H σ ss := s.env.mono s.fh
theorem Env.re {F : Hp} {σ : L2.St} {ss : List Sl} {i : Nat} {T T' : Ty} (E : Env F σ ss) (h : ss[i]? = some (some T)) (k : ∀ v, T.p v F → T'.p v F) : Env F σ (ss.set i (some T')) := by
  obtain ⟨v, h1, h2⟩ := E.get h
  have := Env.set (i := i) (k v h2) E
  have e : σ.set i (some v) = σ := by
    obtain ⟨hi, h3⟩ := List.getElem?_eq_some_iff.mp h1
    rw [← h3]
    exact List.set_getElem_self hi
  rw [e] at this
  exact this
theorem S.re {i : Nat} (s : S M W F0 H0 F H σ ss O) (h : ss[i]? = some (some T)) (k : ∀ v, T.p v F → T1.p v F) : S M W F0 H0 F H σ (ss.set i (some T1)) O := ⟨s.gr, s.env.re h k, s.own, s.nd, s.mrk⟩
/-- an owned list, read where it stands -/
theorem S.mem {k : Nat} {p : Addr} {o : HO} (s : S M W F0 H0 F H σ ss O) (h : O[k]? = some (p, o)) : F p = none ∧ H p = some o ∧ (p ∈ M ∨ H0 p = none) :=
  s.own (p, o) (List.mem_of_getElem? h)
theorem S.look {i k : Nat} {p : Addr} {xs : List V} {ss' : List Sl} (s : S M W F0 H0 F H σ ss O) (E : Env H σ ss') (h : ss'[i]? = some (some (TX (.ref p)))) (ho : O[k]? = some (p, .lst xs)) (hd : DpAll K H xs ds) : Env H σ (ss'.set i (some (TD K (.list ds)))) :=
  E.re h fun v e => by
    have e' : v = .ref p := e
    subst e'
    exact .lst (sq_of (s.mem ho).2.1) hd
theorem S.lookI {i k : Nat} {p : Addr} {ns : List Int} {ss' : List Sl} (s : S M W F0 H0 F H σ ss O) (E : Env H σ ss') (h : ss'[i]? = some (some (TX (.ref p)))) (ho : O[k]? = some (p, .lst (ns.map V.int))) : Env H σ (ss'.set i (some (TD K (lstI ns)))) :=
  s.look E h ho (dpAll_ints ns)
theorem nodup_idx {O : Ow} {k : Nat} {p : Addr} {o : HO} (nd : (O.map (·.1)).Nodup) (h : O[k]? = some (p, o)) {j : Nat} {q : Addr × HO} (hj : O[j]? = some q) (hk : j ≠ k) : q.1 ≠ p := by
  intro e
  have h3 : (O.map (·.1))[j]? = some p := by rw [List.getElem?_map, hj]; exact congrArg some e
  have h4 : (O.map (·.1))[k]? = some p := by rw [List.getElem?_map, h]; rfl
  obtain ⟨h5, _⟩ := List.getElem?_eq_some_iff.mp h3
  exact hk ((List.getElem?_inj h5 nd).mp (h3.trans h4.symm))
theorem S.mut {k : Nat} {p : Addr} {o o' : HO} (s : S M W F0 H0 F H σ ss O) (h : O[k]? = some (p, o)) : S M W F0 H0 F (upd H p o') σ ss (O.set k (p, o')) where
  gr := by
    obtain ⟨h1, h2, h3⟩ := s.mem h
    refine ⟨s.gr.ff, same_upd_out s.fh h1, fun a u hm e => ?_, s.gr.nw, fun q hq => ?_⟩
    · rw [upd_ne]
      · exact s.gr.hh a u hm e
      · intro z
        subst z
        rcases h3 with h3 | h3
        · exact hm h3
        · rw [h3] at e; cases e
    · by_cases z : q = p
      · subst z; rw [upd_same]; exact fun z => by cases z
      · rw [upd_ne z]; exact s.gr.al q hq
  env := s.env
  own := fun q hq => by
    obtain ⟨j, hj⟩ := List.getElem?_of_mem hq
    rw [List.getElem?_set] at hj
    obtain ⟨h1, h2, h3⟩ := s.mem h
    split at hj
    · split at hj
      · cases hj
        exact ⟨h1, upd_same, h3⟩
      · cases hj
    · rename_i hne
      have hn := nodup_idx s.nd h hj (Ne.symm hne)
      obtain ⟨g1, g2, g3⟩ := s.own q (List.mem_of_getElem? hj)
      exact ⟨g1, by rw [upd_ne hn]; exact g2, g3⟩
  nd := by
    have e : (O.set k (p, o')).map (·.1) = O.map (·.1) := by
      rw [List.map_set]
      obtain ⟨h1, h2⟩ := List.getElem?_eq_some_iff.mp h
      have : p = (O.map (·.1))[k]'(by simpa using h1) := by simp [h2]
      rw [this]
      exact List.set_getElem_self _
    rw [e]
    exact s.nd
  mrk := s.mrk
/-- a new object that the def owns -/
theorem S.push {p : Addr} {o : HO} (s : S M W F0 H0 F H σ ss O) (h : H p = none) : S M W F0 H0 F (upd H p o) σ ss ((p, o) :: O) where
  gr := s.gr.step ((Stp.refl s.fh).allocO h)
  env := s.env
  own := fun q hq => by
    rcases List.mem_cons.mp hq with e | hq
    · subst e
      refine ⟨fresh_back s.fh h, upd_same, .inr ?_⟩
      cases e : H0 p with
      | none => rfl
      | some u => exact absurd h (s.gr.al p (by rw [e]; exact fun z => by cases z))
    · obtain ⟨g1, g2, g3⟩ := s.own q hq
      exact ⟨g1, by rw [upd_ne (ne_of_none g2 h)]; exact g2, g3⟩
  nd := by
    rw [List.map_cons, List.nodup_cons]
    refine ⟨fun hm => ?_, s.nd⟩
    obtain ⟨q, hq, e⟩ := List.mem_map.mp hm
    obtain ⟨_, g2, _⟩ := s.own q hq
    rw [e, h] at g2
    cases g2
  mrk := s.mrk
/-- an owned object that is given up: frozen from now on -/
theorem S.freeze {k : Nat} {p : Addr} {o : HO} (s : S M W F0 H0 F H σ ss O) (h : O[k]? = some (p, o)) (hp : H0 p = none) : S M W F0 H0 (upd F p o) H σ ss (O.eraseIdx k) where
  gr := by
    obtain ⟨h1, h2, h3⟩ := s.mem h
    refine ⟨s.gr.ff.trans (same_new h1), fun a u e => ?_, s.gr.hh, fun q h4 h5 => ?_, s.gr.al⟩
    · by_cases z : a = p
      · subst z; rw [upd_same] at e; cases e; exact h2
      · rw [upd_ne z] at e; exact s.fh a u e
    · have z : q ≠ p := fun z => h5 (by subst z; exact hp)
      rw [upd_ne z]
      exact s.gr.nw q h4 h5
  env := s.env.mono (same_new (s.mem h).1)
  own := fun q hq => by
    obtain ⟨j, hj⟩ := List.getElem?_of_mem hq
    rw [List.getElem?_eraseIdx] at hj
    have hn : q.1 ≠ p := by
      split at hj
      · exact nodup_idx s.nd h hj (by omega)
      · exact nodup_idx s.nd h hj (by omega)
    have hm : q ∈ O := by split at hj <;> exact List.mem_of_getElem? hj
    obtain ⟨g1, g2, g3⟩ := s.own q hm
    exact ⟨by rw [upd_ne hn]; exact g1, g2, g3⟩
  nd := by
    exact s.nd.sublist ((List.eraseIdx_sublist ..).map _)
  mrk := fun m hm => m.m (same_new (s.mem h).1) (s.mrk m hm)
theorem S.drop {k : Nat} (s : S M W F0 H0 F H σ ss O) : S M W F0 H0 F H σ ss (O.eraseIdx k) :=
  ⟨s.gr, s.env, fun q hq => s.own q (List.mem_of_mem_eraseIdx hq), by
    exact s.nd.sublist ((List.eraseIdx_sublist ..).map _), s.mrk⟩

/-- marks -/
theorem S.fact (s : S M W F0 H0 F H σ ss O) {f : Fact} (e : f.p F) : S M (f :: W) F0 H0 F H σ ss O := ⟨s.gr, s.env, s.own, s.nd, fun m hm => by
  rcases List.mem_cons.mp hm with e' | hm
  · subst e'; exact e
  · exact s.mrk m hm⟩
theorem S.unfact {f : Fact} (s : S M (f :: W) F0 H0 F H σ ss O) : S M W F0 H0 F H σ ss O := ⟨s.gr, s.env, s.own, s.nd, fun m hm => s.mrk m (List.mem_cons_of_mem _ hm)⟩
theorem S.mark (s : S M W F0 H0 F H σ ss O) {Fw : Hp} (e : Same Fw F) : S M (Fact.mark Fw :: W) F0 H0 F H σ ss O := ⟨s.gr, s.env, s.own, s.nd, fun m hm => by
  rcases List.mem_cons.mp hm with e' | hm
  · subst e'; exact e
  · exact s.mrk m hm⟩
theorem S.unmark {Fw : Hp} (s : S M (Fact.mark Fw :: W) F0 H0 F H σ ss O) : S M W F0 H0 F H σ ss O ∧ Same Fw F := ⟨⟨s.gr, s.env, s.own, s.nd, fun m hm => s.mrk m (List.mem_cons_of_mem _ hm)⟩, s.mrk (Fact.mark Fw) List.mem_cons_self⟩
/-! ### statements -/
theorem s_seq {t u : TS} (h : t { D with nx := u D } σ H) : tSeq t u D σ H := h
theorem s_asg {i : Nat} (s : S M W F0 H0 F H σ ss O) (h : Ev te σ F T) (k : ∀ v F H, S M W F0 H0 F H (σ.set i (some v)) (ss.set i (some T)) O → D.nx (σ.set i (some v)) H) : tAsg te (gName i) D σ H :=
  h H s.fh _ fun v F2 H2 st hv => k v F2 H2 ((s.step st).set hv)
/-- read at the heap as it stands, owned lists too; an int, a truth -/
theorem s_asgI {i : Nat} {n : Int} (s : S M W F0 H0 F H σ ss O) (h : Ev te σ H (TD K (.int n))) (k : ∀ H, S M W F0 H0 F H (σ.set i (some (.int n))) (ss.set i (some (TD K (.int n)))) O → D.nx (σ.set i (some (.int n))) H) : tAsg te (gName i) D σ H :=
  h H (.refl _) _ fun v F2 H2 st hv => by
    have e := dp_int hv
    subst e
    exact k H2 ((s.heap st.hh).set (.int n))
theorem s_own {i : Nat} (s : S M W F0 H0 F H σ ss O) (h : EvN K te σ F ds) (k : ∀ p xs F H, S M W F0 H0 F H (σ.set i (some (.ref p))) (ss.set i (some (TX (.ref p)))) ((p, .lst xs) :: O) → DpAll K F xs ds → H0 p = none → D.nx (σ.set i (some (.ref p))) H) : tAsg te (gName i) D σ H :=
  h H s.fh _ fun p xs F2 H2 st hp hd => by
    have s1 := (s.step st).push (o := .lst xs) hp
    have s2 : S M W F0 H0 F2 (upd H2 p (.lst xs)) (σ.set i (some (.ref p))) (ss.set i (some (TX (.ref p)))) ((p, .lst xs) :: O) := s1.set rfl
    refine k p xs F2 _ s2 hd ?_
    cases e : H0 p with
    | none => rfl
    | some u => exact absurd hp ((s.step st).gr.al p (by rw [e]; exact fun z => by cases z))
theorem s_ownI {i : Nat} {ns : List Int} (s : S M W F0 H0 F H σ ss O) (h : EvN K te σ F (ns.map .int)) (k : ∀ p F H, S M W F0 H0 F H (σ.set i (some (.ref p))) (ss.set i (some (TX (.ref p)))) ((p, .lst (ns.map V.int)) :: O) → H0 p = none → D.nx (σ.set i (some (.ref p))) H) : tAsg te (gName i) D σ H :=
  s_own s h fun p xs F H s' hd hp => by
    have e := dpAll_ints' hd
    subst e
    exact k p F H s' hp
theorem s_if {tt : TT} {t u : TS} {b : Bool} (s : S M W F0 H0 F H σ ss O) (h : EvT tt σ H b) (h1 : b = true → ∀ H, S M W F0 H0 F H σ ss O → t D σ H) (h2 : b = false → ∀ H, S M W F0 H0 F H σ ss O → u D σ H) : tIfS tt t u D σ H :=
  h H (.refl _) _ fun F2 H2 st => by
    cases b with
    | true =>
      show t D σ H2
      exact h1 rfl H2 (s.heap st.hh)
    | false =>
      show u D σ H2
      exact h2 rfl H2 (s.heap st.hh)
theorem s_ifT {tt : TT} {t u : TS} (s : S M W F0 H0 F H σ ss O) (h : EvT tt σ H true) (h1 : ∀ H, S M W F0 H0 F H σ ss O → t D σ H) : tIfS tt t u D σ H := s_if s h (fun _ => h1) (fun z => by cases z)
theorem s_ifF {tt : TT} {t u : TS} (s : S M W F0 H0 F H σ ss O) (h : EvT tt σ H false) (h1 : ∀ H, S M W F0 H0 F H σ ss O → u D σ H) : tIfS tt t u D σ H := s_if s h (fun z => by cases z) (fun _ => h1)
theorem s_next (h : D.nx σ H) : tNext D σ H := h
theorem s_ret (s : S M W F0 H0 F H σ ss O) (h : Ev te σ F T) (k : ∀ v F H, S M W F0 H0 F H σ ss O → T.p v F → D.rt v H) : tRet te D σ H :=
  h H s.fh _ fun v F2 H2 st hv => k v F2 H2 (s.step st) hv
/-- a truth, an int, reckoned at the heap as it stands -/
theorem s_retH (s : S M W F0 H0 F H σ ss O) (h : Ev te σ H T) (k : ∀ v F2 H2, S M W F0 H0 F H2 σ ss O → T.p v F2 → D.rt v H2) : tRet te D σ H :=
  h H (.refl _) _ fun v F2 H2 st hv => k v F2 H2 (s.heap st.hh) hv
theorem s_drop (s : S M W F0 H0 F H σ ss O) (h : Ev te σ F T) (k : ∀ H F, S M W F0 H0 F H σ ss O → D.nx σ H) : tDrop te D σ H :=
  h H s.fh _ fun v F2 H2 st hv => k H2 F2 (s.step st)

/-! a new tuple, of these values, made at the heap as it stands -/
def EvU (te : TE) (σ : L2.St) (F : Hp) (xs : List V) : Prop := ∀ H, Same F H → ∀ Q : VK, (∀ p F2 H2, Stp F H F2 H2 → H2 p = none → Q (.ref p) (upd H2 p (.tup xs))) → te σ H Q
def EvL (te : TE) (σ : L2.St) (F : Hp) (xs : List V) : Prop := ∀ H, Same F H → ∀ Q : VK, (∀ p F2 H2, Stp F H F2 H2 → H2 p = none → Q (.ref p) (upd H2 p (.lst xs))) → te σ H Q
/-- a list, a tuple, of just these values -/
def TL (K : PySem.W.Frag) (xs : List V) : Ty := ⟨fun v F => ∃ a, v = .ref a ∧ SqL K F a xs, fun e ⟨a, h1, h2⟩ => ⟨a, h1, same_l e h2⟩⟩
def TT' (K : PySem.W.Frag) (xs : List V) : Ty := ⟨fun v F => ∃ a, v = .ref a ∧ SqT K F a xs, fun e ⟨a, h1, h2⟩ => ⟨a, h1, same_t e h2⟩⟩
theorem evL_ty {xs : List V} (h : EvL te σ F xs) : Ev te σ F (TL K xs) := fun H f Q q => h H f Q fun p F2 H2 st hp => q (.ref p) _ _ (st.alloc hp) ⟨p, rfl, sq_of upd_same⟩
theorem S.lookL {i k : Nat} {p : Addr} {xs : List V} {ss' : List Sl} (s : S M W F0 H0 F H σ ss O) (E : Env H σ ss') (h : ss'[i]? = some (some (TX (.ref p)))) (ho : O[k]? = some (p, .lst xs)) : Env H σ (ss'.set i (some (TL K xs))) :=
  E.re h fun v e => ⟨p, e, sq_of (s.mem ho).2.1⟩
theorem el_sl {tl th : L2.TO} {lo hi : Option Int} {xs : List V} (h : Ev te σ F (TL K xs)) (h1 : EvO tl σ F lo) (h2 : EvO th σ F hi) : EvL (tSl (rSl K) te tl th) σ F (cutV xs lo hi) := fun H f Q q =>
  h H f _ fun x F1 H1 s1 hx => (h1.up s1.ff) H1 s1.fh _ fun F2 H2 s2 => (h2.up (s1.ff.trans s2.ff)) H2 s2.fh _ fun F3 H3 s3 => by
    obtain ⟨a, rfl, ha⟩ := hx
    exact .inl ⟨a, xs, rfl, same_l ((s2.ff.trans s3.ff).trans s3.fh) ha, fun p hp => q p F3 H3 ((s1.trans s2).trans s3) hp⟩
theorem eu_tuple {xs : List V} (h : Ev te σ F (TL K xs)) : EvU (tCB (rTupleOf K) (tCons te tNil)) σ F xs := fun H f Q q =>
  h H f _ fun x F1 H1 s1 hx => by
    obtain ⟨a, rfl, ha⟩ := hx
    exact ⟨a, xs, rfl, .inl ⟨same_l s1.fh ha, fun p hp => q p F1 H1 s1 hp⟩⟩
theorem el_list {xs : List V} (h : Ev te σ F (TL K xs)) : EvL (tCB (rListOf K) (tCons te tNil)) σ F xs := fun H f Q q =>
  h H f _ fun x F1 H1 s1 hx => by
    obtain ⟨a, rfl, ha⟩ := hx
    exact ⟨a, xs, rfl, .inl (same_l s1.fh ha), fun p hp => q p F1 H1 s1 hp⟩
theorem s_retU {xs : List V} (s : S M W F0 H0 F H σ ss O) (h : EvU te σ H xs) (hd : DpAll K F xs ds) (k : ∀ v F H, S M W F0 H0 F H σ ss O → Dp K F v (.tuple ds) → D.rt v H) : tRet te D σ H :=
  h H (.refl _) _ fun p F2 H2 st hp => by
    have s2 := s.heap st.hh
    have s3 := s2.step ((Stp.refl s2.fh).alloc (o := .tup xs) hp)
    exact k (.ref p) _ _ s3 (.tup (st_of upd_same) (dpAll_mono (same_new (fresh_back s2.fh hp)) hd))
theorem s_asgU {i : Nat} {xs : List V} (s : S M W F0 H0 F H σ ss O) (h : EvU te σ H xs) (hd : DpAll K F xs ds) (k : ∀ v F H, S M W F0 H0 F H (σ.set i (some v)) (ss.set i (some (TD K (.tuple ds)))) O → D.nx (σ.set i (some v)) H) : tAsg te (gName i) D σ H :=
  h H (.refl _) _ fun p F2 H2 st hp => by
    have s2 := s.heap st.hh
    have s3 := s2.step ((Stp.refl s2.fh).alloc (o := .tup xs) hp)
    exact k (.ref p) _ _ (s3.set (show (TD K (.tuple ds)).p _ _ from .tup (st_of upd_same) (dpAll_mono (same_new (fresh_back s2.fh hp)) hd)))

/-! owned lists changed -/
theorem s_append {i k : Nat} {p : Addr} {xs : List V} (s : S M W F0 H0 F H σ ss O) (hi : ss[i]? = some (some (TX (.ref p)))) (ho : O[k]? = some (p, .lst xs)) (h : Ev te σ F T) (hz : xs.length < 100000)
    (q : ∀ v F H, T.p v F → S M W F0 H0 F H σ ss (O.set k (p, .lst (xs ++ [v]))) → D.nx σ H) : tDrop (tBM K "list" rAppend (tVar i) (tCons te tNil)) D σ H := by
  obtain ⟨w, h1, h2⟩ := s.env.get hi
  have e : w = .ref p := h2
  subst e
  refine ⟨_, h1, .inl ⟨rfl, xs, sq_of (s.mem ho).2.1⟩, h H s.fh _ fun v F2 H2 st hv => ?_⟩
  have s2 := s.step st
  exact ⟨p, xs, v, rfl, rfl, (s2.mem ho).2.1, sz_lt hz, q v F2 _ hv (s2.mut ho)⟩
/-- the value an int, reckoned at the heap as it stands -/
theorem s_appendI {i k : Nat} {p : Addr} {xs : List V} {n : Int} (s : S M W F0 H0 F H σ ss O) (hi : ss[i]? = some (some (TX (.ref p)))) (ho : O[k]? = some (p, .lst xs)) (h : Ev te σ H (TD K (.int n))) (hz : xs.length < 100000)
    (q : ∀ H, S M W F0 H0 F H σ ss (O.set k (p, .lst (xs ++ [.int n]))) → D.nx σ H) : tDrop (tBM K "list" rAppend (tVar i) (tCons te tNil)) D σ H := by
  obtain ⟨w, h1, h2⟩ := s.env.get hi
  have e : w = .ref p := h2
  subst e
  refine ⟨_, h1, .inl ⟨rfl, xs, sq_of (s.mem ho).2.1⟩, h H (.refl _) _ fun v F2 H2 st hv => ?_⟩
  have s2 := s.heap st.hh
  have e := dp_int hv
  subst e
  exact ⟨p, xs, _, rfl, rfl, (s2.mem ho).2.1, sz_lt hz, q _ (s2.mut ho)⟩
theorem s_pop {i k : Nat} {p : Addr} {xs : List V} (s : S M W F0 H0 F H σ ss O) (hi : ss[i]? = some (some (TX (.ref p)))) (ho : O[k]? = some (p, .lst xs)) (hx : xs ≠ [])
    (q : ∀ H, S M W F0 H0 F H σ ss (O.set k (p, .lst xs.dropLast)) → D.nx σ H) : tDrop (tBM0 K "list" rPop (tVar i)) D σ H := by
  obtain ⟨w, h1, h2⟩ := s.env.get hi
  have e : w = .ref p := h2
  subst e
  have hl : 0 < xs.length := List.length_pos_iff.mpr hx
  exact ⟨_, h1, .inl ⟨rfl, xs, sq_of (s.mem ho).2.1⟩, p, xs, xs[xs.length - 1], rfl, rfl, (s.mem ho).2.1, List.getElem?_eq_getElem (by omega), q _ (s.mut ho)⟩
theorem s_setI {i k j : Nat} {p : Addr} {xs : List V} {n : Int} (s : S M W F0 H0 F H σ ss O) (hi : ss[i]? = some (some (TX (.ref p)))) (ho : O[k]? = some (p, .lst xs)) (h : Ev te σ H (TD K (.int n))) (hx : ∀ H', Same H H' → Ev ta σ H' (TD K (.int (j : Int)))) (hj : j < xs.length)
    (q : ∀ H, S M W F0 H0 F H σ ss (O.set k (p, .lst (xs.set j (.int n)))) → D.nx σ H) : tAsg te (gSub (tVar i) ta rSetL) D σ H := by
  refine h H (.refl _) _ fun v F2 H2 st hv => ?_
  have s2 := s.heap st.hh
  obtain ⟨w, h1, h2⟩ := s2.env.get hi
  have e : w = .ref p := h2
  subst e
  have e := dp_int hv
  subst e
  refine ⟨_, h1, hx H2 st.hh H2 (.refl _) _ fun u F3 H3 st3 hu => ?_⟩
  have s3 := s2.heap st3.hh
  exact ⟨p, xs, j, j, rfl, dp_int hu, (s3.mem ho).2.1, ixN_nat hj, q _ (s3.mut ho)⟩
theorem s_augI {i k j : Nat} {p : Addr} {xs : List V} {n m : Int} {f : Int → Int → Int} (s : S M W F0 H0 F H σ ss O) (hi : ss[i]? = some (some (TX (.ref p)))) (ho : O[k]? = some (p, .lst xs)) (hx : Ev ta σ H (TD K (.int (j : Int)))) (hj : xs[j]? = some (.int m)) (h : ∀ H', Same H H' → Ev te σ H' (TD K (.int n)))
    (q : ∀ H, S M W F0 H0 F H σ ss (O.set k (p, .lst (xs.set j (.int (f m n))))) → D.nx σ H) : tAugS (tVar i) ta te (rGetL K) (ipI f) rSetL D σ H := by
  obtain ⟨w, h1, h2⟩ := s.env.get hi
  have e : w = .ref p := h2
  subst e
  refine ⟨_, h1, hx H (.refl _) _ fun u F2 H2 st hu => ?_⟩
  have s2 := s.heap st.hh
  refine ⟨p, xs, j, j, .int m, rfl, dp_int hu, sq_of (s2.mem ho).2.1, rfl, hj, h H2 st.hh H2 (.refl _) _ fun v F3 H3 st3 hv => ?_⟩
  have s3 := s2.heap st3.hh
  exact ⟨m, n, rfl, dp_int hv, p, xs, j, j, rfl, dp_int hu, (s3.mem ho).2.1, ixN_nat (List.getElem?_eq_some_iff.mp hj).1, q _ (s3.mut ho)⟩
theorem s_augN {i : Nat} {n m : Int} {f : Int → Int → Int} (s : S M W F0 H0 F H σ ss O) (hi : ss[i]? = some (some (TD K (.int m)))) (h : Ev te σ H (TD K (.int n)))
    (q : ∀ H, S M W F0 H0 F H (σ.set i (some (.int (f m n)))) (ss.set i (some (TD K (.int (f m n))))) O → D.nx (σ.set i (some (.int (f m n)))) H) : tAug i te (ipI f) D σ H := by
  obtain ⟨w, h1, h2⟩ := s.env.get hi
  have e := dp_int h2
  subst e
  refine ⟨_, h1, h H (.refl _) _ fun v F2 H2 st hv => ?_⟩
  exact ⟨m, n, rfl, dp_int hv, q _ ((s.heap st.hh).set (show (TD K (.int (f m n))).p _ _ from .int _))⟩
end
end DL

set_option Elab.async false
set_option linter.all false
set_option maxRecDepth 100000
set_option maxHeartbeats 1200000
/-! what loops and comprehensions walk; calls -/
namespace DL
open Evl (sq_of st_of sz_of sz_lt rMax2 ixN_nat)
open L2 PySem PySem.Spec PyProof.Rows
def iSeq (K : PySem.W.Frag) (tl : TE) : TI := fun σ H R => iList K tl σ H R ∨ iTup K tl σ H R
theorem pi_seq {X : Cx} {tg l : Expr} {tl : TE} (hl : PE X l tl) : PI X tg l (iSeq X.K tl) := piOr (pi_list hl) (pi_tup hl)

/-- J walks the data ds, wherever F is frozen -/
structure WalkD (K : PySem.W.Frag) (J : It) (F : Hp) (ds : List PyData) : Prop where
  go : ∀ i H, Same F H → i < ds.length → J.go i H
  stop : ∀ H, Same F H → J.stop ds.length H
  yld : ∀ i H x H' F1, Same F F1 → Same F1 H → J.yld i H x H' → ∀ d, ds[i]? = some d → ∃ F2, Stp F1 H F2 H' ∧ Dp K F2 x d
def EvI (K : PySem.W.Frag) (wi : TI) (σ : L2.St) (F : Hp) (ds : List PyData) : Prop := ∀ H, Same F H → ∀ R, (∀ J F2 H2, Stp F H F2 H2 → WalkD K J F2 ds → R J H2) → wi σ H R
section
variable {K : PySem.W.Frag} {σ : L2.St} {F F' H : Hp} {te : TE} {ta : TA} {ds es : List PyData}
theorem walkD_list {a : Addr} {xs : List V} (h : SqL K F a xs) (hd : DpAll K F xs ds) : WalkD K (Itl K a) F ds where
  go := fun i H e hi => by
    obtain ⟨v, h1, _⟩ := dpAll_get hd (List.getElem?_eq_getElem hi)
    exact ⟨xs, v, same_l e h, h1⟩
  stop := fun H e => ⟨xs, same_l e h, by rw [dpAll_len hd]; exact Nat.le_refl _⟩
  yld := fun i H x H' F1 e f y d hi => by
    obtain ⟨rfl, y⟩ := y
    obtain ⟨v, h1, h2⟩ := dpAll_get hd hi
    have := y xs (same_l (e.trans f) h)
    rw [h1] at this
    cases this
    exact ⟨F1, .refl f, dp_mono e h2⟩
theorem walkD_tuple {a : Addr} {xs : List V} (h : SqT K F a xs) (hd : DpAll K F xs ds) : WalkD K (Itt K a) F ds where
  go := fun i H e hi => by
    obtain ⟨v, h1, _⟩ := dpAll_get hd (List.getElem?_eq_getElem hi)
    exact ⟨xs, v, same_t e h, h1⟩
  stop := fun H e => ⟨xs, same_t e h, by rw [dpAll_len hd]; exact Nat.le_refl _⟩
  yld := fun i H x H' F1 e f y d hi => by
    obtain ⟨rfl, y⟩ := y
    obtain ⟨v, h1, h2⟩ := dpAll_get hd hi
    have := y xs (same_t (e.trans f) h)
    rw [h1] at this
    cases this
    exact ⟨F1, .refl f, dp_mono e h2⟩
/-- range(lo, lo + n) as data -/
def rangeD (lo : Int) (n : Nat) : List PyData := (List.range n).map fun i => .int (lo + (i : Nat))
theorem walkD_range {lo : Int} {n : Nat} : WalkD K (Itr lo n) F (rangeD lo n) where
  go := fun i H e hi => by
    have h : i < n := by simpa [rangeD] using hi
    exact h
  stop := fun H e => by simp [rangeD, Itr]
  yld := fun i H x H' F1 e f y d hi => by
    obtain ⟨rfl, rfl⟩ := y
    obtain ⟨h1, h2⟩ := List.getElem?_eq_some_iff.mp hi
    have : d = .int (lo + (i : Nat)) := by rw [← h2]; simp [rangeD]
    subst this
    exact ⟨F1, .refl f, .int _⟩
/-- enumerate(..) as data -/
def enumD (ds : List PyData) : List PyData := ds.mapIdx fun i d => .tuple [.int (i : Nat), d]
theorem enumD_get {i : Nat} {d : PyData} (h : ds[i]? = some d) : (enumD ds)[i]? = some (.tuple [.int (i : Nat), d]) := by
  unfold enumD
  rw [List.getElem?_mapIdx, h]
  rfl
theorem enumD_len : (enumD ds).length = ds.length := by unfold enumD; exact List.length_mapIdx
theorem enumD_at {i : Nat} {e : PyData} (h : (enumD ds)[i]? = some e) : ∃ d, ds[i]? = some d ∧ e = .tuple [.int (i : Nat), d] := by
  have hi : i < ds.length := by
    obtain ⟨h1, _⟩ := List.getElem?_eq_some_iff.mp h
    rwa [enumD_len] at h1
  have h2 := List.getElem?_eq_getElem hi
  rw [enumD_get h2] at h
  exact ⟨_, h2, (Option.some.inj h).symm⟩
theorem walkD_enumL {a : Addr} {xs : List V} (h : SqL K F a xs) (hd : DpAll K F xs ds) : WalkD K (Ite K a) F (enumD ds) where
  go := fun i H e hi => by
    rw [enumD_len] at hi
    obtain ⟨v, h1, _⟩ := dpAll_get hd (List.getElem?_eq_getElem hi)
    exact ⟨xs, v, same_l e h, h1⟩
  stop := fun H e => ⟨xs, same_l e h, by rw [dpAll_len hd, enumD_len]; exact Nat.le_refl _⟩
  yld := fun i H x H' F1 e f y d hi => by
    obtain ⟨T, u, rfl, hT, rfl, y⟩ := y
    obtain ⟨d', h3, rfl⟩ := enumD_at hi
    obtain ⟨v, h1, h2⟩ := dpAll_get hd h3
    have := y xs (same_l (e.trans f) h)
    rw [h1] at this
    cases this
    exact ⟨_, (Stp.refl f).alloc hT, .tup (st_of upd_same) (.cons (.int _) (.cons (dp_mono (e.trans (same_new (fresh_back f hT))) h2) .nil))⟩
theorem walkD_enumT {a : Addr} {xs : List V} (h : SqT K F a xs) (hd : DpAll K F xs ds) : WalkD K (IteT K a) F (enumD ds) where
  go := fun i H e hi => by
    rw [enumD_len] at hi
    obtain ⟨v, h1, _⟩ := dpAll_get hd (List.getElem?_eq_getElem hi)
    exact ⟨xs, v, same_t e h, h1⟩
  stop := fun H e => ⟨xs, same_t e h, by rw [dpAll_len hd, enumD_len]; exact Nat.le_refl _⟩
  yld := fun i H x H' F1 e f y d hi => by
    obtain ⟨T, u, rfl, hT, rfl, y⟩ := y
    obtain ⟨d', h3, rfl⟩ := enumD_at hi
    obtain ⟨v, h1, h2⟩ := dpAll_get hd h3
    have := y xs (same_t (e.trans f) h)
    rw [h1] at this
    cases this
    exact ⟨_, (Stp.refl f).alloc hT, .tup (st_of upd_same) (.cons (.int _) (.cons (dp_mono (e.trans (same_new (fresh_back f hT))) h2) .nil))⟩
theorem ei_list (h : Ev te σ F (TD K (.list ds))) : EvI K (iSeq K te) σ F ds := fun H f R q =>
  .inl (h H f _ fun v F2 H2 s hv => by
    obtain ⟨a, xs, rfl, h1, h2⟩ := dp_list hv
    exact ⟨a, rfl, ⟨xs, same_l s.fh h1⟩, q _ F2 H2 s (walkD_list h1 h2)⟩)
theorem ei_tuple (h : Ev te σ F (TD K (.tuple ds))) : EvI K (iSeq K te) σ F ds := fun H f R q =>
  .inr (h H f _ fun v F2 H2 s hv => by
    obtain ⟨a, xs, rfl, h1, h2⟩ := dp_tuple hv
    exact ⟨a, rfl, ⟨xs, same_t s.fh h1⟩, q _ F2 H2 s (walkD_tuple h1 h2)⟩)
theorem ei_enumL (h : Ev te σ F (TD K (.list ds))) : EvI K (iEnumA K (tCons te tNil)) σ F (enumD ds) := fun H f R q =>
  .inl (h H f _ fun v F2 H2 s hv => by
    obtain ⟨a, xs, rfl, h1, h2⟩ := dp_list hv
    exact ⟨a, xs, rfl, same_l s.fh h1, q _ F2 H2 s (walkD_enumL h1 h2)⟩)
theorem ei_enumT (h : Ev te σ F (TD K (.tuple ds))) : EvI K (iEnumA K (tCons te tNil)) σ F (enumD ds) := fun H f R q =>
  .inr (h H f _ fun v F2 H2 s hv => by
    obtain ⟨a, xs, rfl, h1, h2⟩ := dp_tuple hv
    exact ⟨a, xs, rfl, same_t s.fh h1, q _ F2 H2 s (walkD_enumT h1 h2)⟩)
theorem ei_range1 {n : Int} (h : EvA ta σ F [TD K (.int n)]) (hn : -(2 ^ 62) ≤ n ∧ n < 2 ^ 62) : EvI K (iRng1 ta) σ F (rangeD 0 n.toNat) := fun H f R q =>
  h H f _ fun vs F2 H2 s hv => by
    match vs, hv with
    | [v], hv => exact ⟨n, by rw [dp_int hv.1], hn.1, hn.2, q _ F2 H2 s walkD_range⟩
theorem ei_range2 {lo n : Int} (h : EvA ta σ F [TD K (.int lo), TD K (.int n)]) (hl : -(2 ^ 62) ≤ lo ∧ lo < 2 ^ 62) (hn : -(2 ^ 62) ≤ n ∧ n < 2 ^ 62) : EvI K (iRng2 ta) σ F (rangeD lo (n - lo).toNat) := fun H f R q =>
  h H f _ fun vs F2 H2 s hv => by
    match vs, hv with
    | [v, w], hv => exact ⟨lo, n, by rw [dp_int hv.1, dp_int hv.2.1], ⟨hl.1, hl.2, hn.1, hn.2⟩, q _ F2 H2 s walkD_range⟩
theorem EvI.up {wi : TI} (h : EvI K wi σ F ds) (e : Same F F') : EvI K wi σ F' ds := fun H f R q =>
  h H (e.trans f) R fun J F2 H2 s hv => by
    obtain ⟨s2, g⟩ := s.up e f
    exact q J _ H2 s2 ⟨fun i H e' => hv.go i H (g.trans e'), fun H e' => hv.stop H (g.trans e'), fun i H x H' F1 e1 => hv.yld i H x H' F1 (g.trans e1)⟩

/-! ### for -/
variable {M : List Addr} {W : List Fact} {F0 H0 : Hp} {ss : List Sl} {O : Ow} {D : Ends}
/-- the state between two turns -/
def Bt (M : List Addr) (W : List Fact) (F0 H0 : Hp) (I : Nat → List Sl → Ow → Prop) (i : Nat) : L2.St → Hp → Prop := fun σ H => ∃ F ss O, I i ss O ∧ S M W F0 H0 F H σ ss O
theorem Bt.of {I : Nat → List Sl → Ow → Prop} {i : Nat} (hI : I i ss O) (s : S M W F0 H0 F H σ ss O) : Bt M W F0 H0 I i σ H := ⟨F, ss, O, hI, s⟩
theorem s_for {wi : TI} {g : TG} {tb : TS} (s : S M W F0 H0 F H σ ss O) (hw : EvI K wi σ F ds) (I : Nat → List Sl → Ow → Prop) (h0 : I 0 ss O)
    (hs : ∀ (Fw : Hp) i d x σ F H ss O, ds[i]? = some d → I i ss O → S M (Fact.mark Fw :: W) F0 H0 F H σ ss O → Dp K F x d → g x σ H fun σ2 H2 => tb { D with nx := Bt M (Fact.mark Fw :: W) F0 H0 I (i + 1), ct := Bt M (Fact.mark Fw :: W) F0 H0 I (i + 1), bk := D.nx } σ2 H2)
    (hd : ∀ σ F H ss O, I ds.length ss O → S M W F0 H0 F H σ ss O → D.nx σ H) : tFor wi g tb D σ H := by
  refine hw H s.fh _ fun J Fw H2 st w => ?_
  refine ⟨fun i m σ H => i + m = ds.length ∧ Bt M (Fact.mark Fw :: W) F0 H0 I i σ H, ⟨ds.length, by omega, Fw, ss, O, h0, (s.step st).mark (.refl _)⟩, ?_⟩
  rintro i m σ H ⟨em, F, ss, O, hI, s⟩
  obtain ⟨s', e⟩ := s.unmark
  by_cases hi : i < ds.length
  · refine .inr ⟨w.go i H (e.trans s.fh) hi, Bt M (Fact.mark Fw :: W) F0 H0 I (i + 1), fun σ' H' hN => ⟨m - 1, by omega, by omega, hN⟩, fun x H' hy => ?_⟩
    obtain ⟨F2, st2, hx⟩ := w.yld i H x H' F e s.fh hy _ (List.getElem?_eq_getElem hi)
    exact hs Fw i _ x σ F2 H' ss O (List.getElem?_eq_getElem hi) hI (s.step st2) hx
  · have : i = ds.length := by omega
    subst this
    exact .inl ⟨w.stop H (e.trans s.fh), hd σ F H ss O hI s'⟩
/-- targets -/
theorem g_tup2 {i j : Nat} {x : V} {d1 d2 : PyData} {Q : L2.St → Hp → Prop} (s : S M W F0 H0 F H σ ss O) (h : Dp K F x (.tuple [d1, d2])) (k : ∀ v w, S M W F0 H0 F H ((σ.set i (some v)).set j (some w)) ((ss.set i (some (TD K d1))).set j (some (TD K d2))) O → Q ((σ.set i (some v)).set j (some w)) H) :
    gTup K 2 (gCons (gName i) (gCons (gName j) gNil)) x σ H Q := by
  obtain ⟨a, xs, rfl, h1, h2⟩ := dp_tuple h
  cases h2 with
  | cons q1 h2 =>
    cases h2 with
    | cons q2 h2 =>
      cases h2
      exact ⟨a, _, rfl, same_t s.fh h1, rfl, _, _, rfl, _, _, rfl, rfl, k _ _ ((s.set (show (TD K d1).p _ _ from q1)).set (show (TD K d2).p _ _ from q2))⟩
theorem g_tup3 {i j l : Nat} {x : V} {d1 d2 d3 : PyData} {Q : L2.St → Hp → Prop} (s : S M W F0 H0 F H σ ss O) (h : Dp K F x (.tuple [d1, d2, d3])) (k : ∀ v w u, S M W F0 H0 F H (((σ.set i (some v)).set j (some w)).set l (some u)) (((ss.set i (some (TD K d1))).set j (some (TD K d2))).set l (some (TD K d3))) O → Q (((σ.set i (some v)).set j (some w)).set l (some u)) H) :
    gTup K 3 (gCons (gName i) (gCons (gName j) (gCons (gName l) gNil))) x σ H Q := by
  obtain ⟨a, xs, rfl, h1, h2⟩ := dp_tuple h
  cases h2 with
  | cons q1 h2 =>
    cases h2 with
    | cons q2 h2 =>
      cases h2 with
      | cons q3 h2 =>
        cases h2
        exact ⟨a, _, rfl, same_t s.fh h1, rfl, _, _, rfl, _, _, rfl, _, _, rfl, rfl, k _ _ _ (((s.set (show (TD K d1).p _ _ from q1)).set (show (TD K d2).p _ _ from q2)).set (show (TD K d3).p _ _ from q3))⟩
/-! ### while -/
def Wt (M : List Addr) (W : List Fact) (F0 H0 : Hp) (I : Nat → List Sl → Ow → Prop) (m : Nat) : L2.St → Hp → Prop := fun σ H => ∃ m', m' < m ∧ Bt M W F0 H0 I m' σ H
theorem Wt.of {I : Nat → List Sl → Ow → Prop} {m m' : Nat} (hm : m' < m) (hI : I m' ss O) (s : S M W F0 H0 F H σ ss O) : Wt M W F0 H0 I m σ H := ⟨m', hm, F, ss, O, hI, s⟩
theorem s_while {tc : TT} {tb : TS} (s : S M W F0 H0 F H σ ss O) (I : Nat → List Sl → Ow → Prop) (m0 : Nat) (h0 : I m0 ss O)
    (hs : ∀ m σ H1 F1 ss O, I m ss O → S M W F0 H0 F1 H1 σ ss O → ∃ b, EvT tc σ H1 b ∧ (b = true → ∀ H2, S M W F0 H0 F1 H2 σ ss O → tb { D with nx := Wt M W F0 H0 I m, ct := Wt M W F0 H0 I m, bk := D.nx } σ H2) ∧ (b = false → ∀ H2, S M W F0 H0 F1 H2 σ ss O → D.nx σ H2)) : tWhile tc tb D σ H := by
  refine ⟨fun m σ H => Bt M W F0 H0 I m σ H, ⟨m0, F, ss, O, h0, s⟩, ?_⟩
  rintro m σ H1 ⟨F1, ss, O, hI, s⟩
  obtain ⟨b, ht, k1, k2⟩ := hs m σ H1 F1 ss O hI s
  refine ht H1 (.refl _) _ fun F2 H2 st => ?_
  cases b with
  | true =>
    rw [if_pos rfl]
    exact ⟨_, fun σ' H' hN => hN, k1 rfl H2 (s.heap st.hh)⟩
  | false =>
    rw [if_neg Bool.false_ne_true]
    exact k2 rfl H2 (s.heap st.hh)

/-! ### a comprehension that changes nothing -/
theorem wipe_idem_set {σ : L2.St} {vs : List Nat} {j : Nat} {x : V} (h : j ∈ vs) : wipe ((wipe σ vs).set j (some x)) vs = wipe σ vs := by
  apply List.ext_getElem?
  intro n
  have key : ∀ (τ : L2.St) (n : Nat), (wipe τ vs)[n]? = if n ∈ vs then τ[n]?.map (fun _ => none) else τ[n]? := by
    intro τ n
    clear h
    induction vs generalizing n with
    | nil => simp [wipe]
    | cons v vs ih =>
      show ((wipe τ vs).set v none)[n]? = _
      rw [List.getElem?_set]
      by_cases e : v = n
      · subst e
        rw [if_pos rfl]
        simp only [wipe_length, List.mem_cons, true_or, if_true]
        by_cases hl : v < τ.length
        · rw [if_pos hl, List.getElem?_eq_getElem hl]; rfl
        · rw [if_neg hl, List.getElem?_eq_none (by omega)]; rfl
      · rw [if_neg e, ih]
        have : (n ∈ v :: vs) = (n ∈ vs) := by
          simp only [List.mem_cons, eq_iff_iff]
          exact ⟨fun h => h.resolve_left (fun z => e z.symm), .inr⟩
        simp only [this]
  rw [key, key]
  by_cases hn : n ∈ vs
  · rw [if_pos hn, if_pos hn, List.getElem?_set]
    split
    · rename_i e
      subst e
      split
      · rename_i hl
        rw [wipe_length] at hl
        rw [List.getElem?_eq_getElem hl]; rfl
      · rename_i hl
        rw [wipe_length] at hl
        rw [List.getElem?_eq_none (by omega)]
    · rw [key, if_pos hn]
      cases σ[n]? with
      | none => rfl
      | some _ => rfl
  · have hjn : j ≠ n := fun e => hn (by rw [← e]; exact h)
    rw [if_neg hn, if_neg hn, List.getElem?_set, if_neg hjn, key, if_neg hn]

def minus (H : Hp) (L : Addr) : Hp := fun a => if a = L then none else H a
theorem minus_at {H : Hp} {L : Addr} : minus H L L = none := by unfold minus; rw [if_pos rfl]
theorem minus_ne {H : Hp} {L a : Addr} (h : a ≠ L) : minus H L a = H a := by unfold minus; rw [if_neg h]
theorem minus_le {H : Hp} {L : Addr} : Same (minus H L) H := fun a o h => by
  by_cases e : a = L
  · subst e; rw [minus_at] at h; cases h
  · rw [minus_ne e] at h; exact h
theorem minus_upd {H : Hp} {L : Addr} {o : HO} : minus (upd H L o) L = minus H L := by
  funext a
  by_cases e : a = L
  · subst e; rw [minus_at, minus_at]
  · rw [minus_ne e, minus_ne e, upd_ne e]
theorem upd_minus {H : Hp} {L : Addr} {o : HO} (h : H L = some o) : upd (minus H L) L o = H := by
  funext a
  by_cases e : a = L
  · subst e; rw [upd_same, h]
  · rw [upd_ne e, minus_ne e]
theorem minus_new {H : Hp} {L : Addr} (h : H L = none) : minus H L = H := by
  funext a
  by_cases e : a = L
  · subst e; rw [minus_at, h]
  · rw [minus_ne e]
theorem stp_minus {Fw H2 F3 F4 H4 : Hp} {L : Addr} (a : Stp Fw H2 F3 (minus H L)) (b : Stp F3 H F4 H4) (hL : H L ≠ none) : Stp Fw H2 F4 (minus H4 L) := by
  have f3 : F3 L = none := a.fh.free minus_at
  have f4 : F4 L = none := b.nw L f3 hL
  refine ⟨fun c o h => ?_, a.ff.trans b.ff, fun c o h => ?_, fun p h1 h2 => ?_⟩
  · have h1 := a.hh c o h
    have e : c ≠ L := fun z => by subst z; rw [minus_at] at h1; cases h1
    rw [minus_ne e] at h1 ⊢
    exact b.hh c o h1
  · have e : c ≠ L := fun z => by subst z; rw [f4] at h; cases h
    rw [minus_ne e]
    exact b.fh c o h
  · exact b.nw p (a.nw p h1 h2) (some_of_same minus_le (some_of_same a.hh h2))
/-- each item at its turn: kept or not, and what is made of it -/
theorem en_lc {wi : TI} {tt : TT} {te : TE} {vs : List Nat} {j : Nat} (hj : j ∈ vs) (hw : EvI K wi σ F ds) (keep : Nat → Bool) (f : Nat → PyData) (hl : ds.length ≤ 100000)
    (ht : ∀ i d F' x, ds[i]? = some d → Same F F' → Dp K F' x d → EvT tt ((wipe σ vs).set j (some x)) F' (keep i))
    (he : ∀ i d F' x, ds[i]? = some d → keep i = true → Same F F' → Dp K F' x d → Ev te ((wipe σ vs).set j (some x)) F' (TD K (f i))) :
    EvN K (tLc wi (gName j) tt te vs) σ F (((List.range ds.length).filter keep).map f) := fun H fh Q q => by
  refine hw H fh _ fun J Fw H2 st w L hL => ?_
  refine ⟨fun i m H => i + m = ds.length ∧ ∃ F3 acc, Stp Fw H2 F3 (minus H L) ∧ H L = some (.lst acc) ∧ DpAll K F3 acc (((List.range i).filter keep).map f) ∧ acc.length ≤ i, ⟨ds.length, by omega, Fw, [], ?_, upd_same, .nil, Nat.le_refl _⟩, ?_⟩
  · rw [minus_upd, minus_new hL]
    exact .refl st.fh
  · rintro i m H ⟨em, F3, acc, s3, eL, hacc, hlen⟩
    have fH : Same F3 H := s3.fh.trans minus_le
    by_cases hi : i < ds.length
    · refine .inr ⟨w.go i H (s3.ff.trans fH) hi, fun H => ∃ F3 acc, Stp Fw H2 F3 (minus H L) ∧ H L = some (.lst acc) ∧ DpAll K F3 acc (((List.range (i + 1)).filter keep).map f) ∧ acc.length ≤ i + 1, fun H' hN => ⟨m - 1, by omega, by omega, hN⟩, fun x H' hy => ?_⟩
      have hd := List.getElem?_eq_getElem hi
      obtain ⟨F4, s4, hx⟩ := w.yld i H x H' F3 s3.ff fH hy _ hd
      have hLs : H L ≠ none := by rw [eL]; exact fun z => by cases z
      have s34 := stp_minus s3 s4 hLs
      have eL4 : H' L = some (.lst acc) := s4.hh _ _ eL
      refine ⟨wipe_idem_set hj, ?_⟩
      refine ht i _ F4 x hd (st.ff.trans s34.ff) hx H' s4.fh _ fun F5 H5 s5 => ?_
      have hLs4 : H' L ≠ none := by rw [eL4]; exact fun z => by cases z
      have s35 := stp_minus s34 s5 hLs4
      have eL5 : H5 L = some (.lst acc) := s5.hh _ _ eL4
      cases hk : keep i with
      | false =>
        rw [if_neg Bool.false_ne_true]
        refine ⟨F5, acc, s35, eL5, ?_, by omega⟩
        rw [List.range_succ, List.filter_append, List.filter_cons, hk, if_neg Bool.false_ne_true, List.filter_nil, List.append_nil]
        exact dpAll_mono (s4.ff.trans s5.ff) hacc
      | true =>
        rw [if_pos rfl]
        refine he i _ F5 x hd hk (st.ff.trans s35.ff) (dp_mono s5.ff hx) H5 s5.fh _ fun y F6 H6 s6 hy => ?_
        have hLs5 : H5 L ≠ none := by rw [eL5]; exact fun z => by cases z
        have s36 := stp_minus s35 s6 hLs5
        have eL6 : H6 L = some (.lst acc) := s6.hh _ _ eL5
        refine ⟨acc, eL6, sz_lt (by omega), F6, acc ++ [y], by rw [minus_upd]; exact s36, upd_same, ?_, by rw [List.length_append, List.length_singleton]; omega⟩
        rw [List.range_succ, List.filter_append, List.filter_cons, hk, if_pos rfl, List.filter_nil, List.map_append]
        exact dpAll_app (dpAll_mono ((s4.ff.trans s5.ff).trans s6.ff) hacc) (.cons hy .nil)
    · have : i = ds.length := by omega
      subst this
      refine .inl ⟨w.stop H (s3.ff.trans fH), ?_⟩
      have := q L acc F3 (minus H L) (st.trans s3) minus_at hacc
      rw [upd_minus eL] at this
      exact this
/-- a comprehension whose element may change what is owned -/
def Lt (M : List Addr) (W : List Fact) (F0 H0 : Hp) (σ : L2.St) (ss : List Sl) (L : Addr) (I : Nat → List V → Ow → Prop) (i : Nat) : Hp → Prop := fun H => ∃ F acc O, I i acc O ∧ S M W F0 H0 F H σ ss ((L, .lst acc) :: O)
theorem s_lc {wi : TI} {tt : TT} {te : TE} {vs : List Nat} {j : Nat} {Q : VK} (hj : j ∈ vs) (s : S M W F0 H0 F H σ ss O) (hw : EvI K wi σ F ds) (I : Nat → List V → Ow → Prop) (h0 : I 0 [] O)
    (hs : ∀ (L : Addr) (Fw : Hp) i d x F H acc O, ds[i]? = some d → I i acc O → S M (Fact.mark Fw :: W) F0 H0 F H ((wipe σ vs).set j (some x)) ((wipeS ss vs).set j (some (TD K d))) ((L, .lst acc) :: O) → Dp K F x d →
      tt ((wipe σ vs).set j (some x)) H fun b H3 => if b = true then te ((wipe σ vs).set j (some x)) H3 fun y H4 => ∃ acc, H4 L = some (.lst acc) ∧ acc.length < sizeLine ∧ Lt M (Fact.mark Fw :: W) F0 H0 (wipe σ vs) (wipeS ss vs) L I (i + 1) (upd H4 L (.lst (acc ++ [y]))) else Lt M (Fact.mark Fw :: W) F0 H0 (wipe σ vs) (wipeS ss vs) L I (i + 1) H3)
    (hd : ∀ (L : Addr) F H acc O, I ds.length acc O → S M W F0 H0 F H σ ss ((L, .lst acc) :: O) → H0 L = none → Q (.ref L) H) : tLc wi (gName j) tt te vs σ H Q := by
  refine hw H s.fh _ fun J Fw H2 st w L hL => ?_
  have s0 := s
  have s1 := (s.step st).wipe vs
  have hL0 : H0 L = none := by
    cases e : H0 L with
    | none => rfl
    | some u => exact absurd hL (s1.gr.al L (by rw [e]; exact fun z => by cases z))
  refine ⟨fun i m H => i + m = ds.length ∧ Lt M (Fact.mark Fw :: W) F0 H0 (wipe σ vs) (wipeS ss vs) L I i H, ⟨ds.length, by omega, Fw, [], O, h0, (s1.push hL).mark (.refl _)⟩, ?_⟩
  rintro i m H ⟨em, F, acc, O, hI, s⟩
  obtain ⟨s', e⟩ := s.unmark
  by_cases hi : i < ds.length
  · refine .inr ⟨w.go i H (e.trans s.fh) hi, Lt M (Fact.mark Fw :: W) F0 H0 (wipe σ vs) (wipeS ss vs) L I (i + 1), fun H' hN => ⟨m - 1, by omega, by omega, hN⟩, fun x H' hy => ?_⟩
    have hd' := List.getElem?_eq_getElem hi
    obtain ⟨F4, s4, hx⟩ := w.yld i H x H' F e s.fh hy _ hd'
    refine ⟨wipe_idem_set hj, ?_⟩
    exact hs L Fw i _ x F4 H' acc O hd' hI ((s.step s4).set hx) hx
  · have : i = ds.length := by omega
    subst this
    exact .inl ⟨w.stop H (e.trans s.fh), hd L F H acc O hI ⟨s'.gr, s0.env.mono (st.ff.trans e), s'.own, s'.nd, s'.mrk⟩ hL0⟩

/-! ### calls of defs that change nothing -/
/-- called with arguments of types Ts: a value of type T -/
def spP (R : List Ty → Ty → Prop) : Sp := fun vs H Q _ => ∃ F Ts T, Same F H ∧ All2 F vs Ts ∧ R Ts T ∧ ∀ v F2 H2, Stp F H F2 H2 → T.p v F2 → Q v H2
theorem ev_call {R : List Ty → Ty → Prop} {E : XK} {ta : TA} {Ts : List Ty} {T : Ty} (ha : EvA ta σ F Ts) (hR : R Ts T) : Ev (tCall (spP R) [] E ta) σ F T := fun H f Q q =>
  ha H f _ fun vs F2 H2 s hv => ⟨F2, Ts, T, s.fh, by rw [List.append_nil]; exact hv, hR, fun v F3 H3 s3 h => q v F3 H3 (s.trans s3) h⟩
end
end DL

set_option Elab.async false
set_option linter.all false
set_option maxRecDepth 100000
set_option maxHeartbeats 1200000
namespace DL
open Evl (sq_of st_of sz_of sz_lt rMax2 ixN_nat)
open L2 PySem PySem.Spec PyProof.Rows
/-! ### types of data -/
def tyD : PyData → String
  | .none => "NoneType"
  | .bool _ => "bool"
  | .int _ => "int"
  | .str _ => "str"
  | .list _ => "list"
  | .tuple _ => "tuple"
  | .dict _ => "dict"
section
variable {K : PySem.W.Frag} {H F : Hp} {v : V} {d e : PyData} {ds es : List PyData}
theorem dp_ty (h : Dp K H v d) : TyX K H v (.type (tyD d)) := by
  cases h with
  | non => exact .base .non
  | bl b => exact .base (.bl b)
  | int i => exact .base (.int i)
  | str x => exact .base (.str x)
  | lst hs _ =>
    rcases hs with (hs | ⟨o, hs⟩) | ⟨o, its, n, hk, hc, _⟩
    · exact .base (.lst hs)
    · exact .base (.frz hs)
    · exact .kList hk hc
  | tup hs _ =>
    rcases hs with (hs | ⟨o, hs⟩) | ⟨o, its, n, hk, hc, _⟩
    · exact .base (.tup hs)
    · exact .fTuple hs
    · exact .kTuple hk hc
/-- isinstance(d, n) -/
def isD (d : PyData) (n : String) : Bool := (kitB (tyD d) n).getD false
def okD (n : String) : Bool := ["NoneType", "bool", "int", "str", "list", "tuple", "dict"].all fun t => (kitB t n).isSome
theorem kit_is {n : String} (h : okD n = true) : PySem.W.kitOne K (.type (tyD d)) (.type n) = some (isD d n) := by
  unfold okD at h
  rw [List.all_eq_true] at h
  have h1 : (kitB (tyD d) n).isSome = true := by
    cases d <;> exact h _ (by simp [tyD])
  have h2 : kitB (tyD d) n = some (isD d n) := by
    unfold isD
    cases e : kitB (tyD d) n with
    | none => rw [e] at h1; cases h1
    | some b => rfl
  exact kit_ty h2
theorem rc_isi {n : String} (h : okD n = true) : RC (rIsi K) [TD K d, TX (.ty n)] F (TD K (.bool (isD d n))) := fun vs F1 H f f1 hv Q q => by
  match vs, hv with
  | [v, w], hv =>
    have e : w = .ty n := hv.2.1
    subst e
    exact ⟨v, .ty n, .type (tyD d), .type n, isD d n, rfl, .ty n, dp_ty (dp_mono f1 hv.1), kit_is h, q _ _ _ (Stp.refl f1) (.bl _)⟩
/-- a tuple of two classes, just made -/
def TCls (ns : List String) : Ty := ⟨fun v F => ∃ a, v = .ref a ∧ F a = some (.tup (ns.map .ty)), fun e ⟨a, h1, h2⟩ => ⟨a, h1, e _ _ h2⟩⟩
theorem all2_cls {vs : List V} : ∀ {ns : List String} {vs : List V}, All2 F vs (ns.map fun n => TX (.ty n)) → vs = ns.map .ty
  | [], [], _ => rfl
  | n :: ns, v :: vs, h => by
    have e : v = .ty n := h.1
    rw [e, all2_cls (vs := vs) (ns := ns) h.2]
    rfl
  | [], _ :: _, h => h.elim
  | _ :: _, [], h => h.elim
theorem ev_cls {σ : L2.St} {ta : TA} (ns : List String) (ha : EvA ta σ F (ns.map fun n => TX (.ty n))) (hl : ns.length ≤ 100000) : Ev (tTup ta) σ F (TCls ns) := fun H f Q q =>
  ha H f _ fun vs F1 H1 s1 hv => by
    have e := all2_cls (vs := vs) hv
    subst e
    refine ⟨sz_of (by rw [List.length_map]; exact hl), fun p hp => ?_⟩
    exact q (.ref p) _ _ (s1.alloc hp) ⟨p, rfl, upd_same⟩
def anyD (d : PyData) (ns : List String) : Bool := ns.any (isD d)
theorem kit_any : ∀ {ns : List String}, (ns.all okD) = true → PySem.W.kitAny K (.type (tyD d)) (ns.map Value.type) = some (anyD d ns)
  | [], _ => rfl
  | n :: ns, h => by
    rw [List.all_cons, Bool.and_eq_true] at h
    refine kitAny_cons (kit_is h.1) (fun e => ?_) (fun e => ?_)
    · rw [kit_any h.2]
      unfold anyD
      rw [List.any_cons, e, Bool.false_or]
    · unfold anyD
      rw [List.any_cons, e, Bool.true_or]
theorem paired_cls : ∀ ns : List String, Paired ClsV (ns.map V.ty) (ns.map Value.type)
  | [] => .nil
  | n :: ns => .cons (.ty n) (paired_cls ns)
theorem rc_isiT {ns : List String} (h : (ns.all okD) = true) : RC (rIsiT K) [TD K d, TCls ns] F (TD K (.bool (anyD d ns))) := fun vs F1 H f f1 hv Q q => by
  match vs, hv with
  | [v, w], hv =>
    obtain ⟨a, e, ha⟩ := hv.2.1
    subst e
    exact ⟨v, a, _, .type (tyD d), _, anyD d ns, rfl, f1 _ _ ha, paired_cls ns, dp_ty (dp_mono f1 hv.1), kit_any h, q _ _ _ (Stp.refl f1) (.bl _)⟩

/-! ### shapes -/
def Sn (n : Nat) (d : PyData) : Prop := d.canLay0 = true ∧ d.depth ≤ n
theorem Sn.sh {n : Nat} {d : PyData} (h : Sn n d) (hn : n ≤ 64) : Sh d := by
  unfold Sh SeqAt.shaped
  rw [h.1, Bool.true_and]
  exact decide_eq_true (Nat.le_trans h.2 hn)
theorem sn_all : ∀ {n : Nat} {ds : List PyData}, (∀ d ∈ ds, Sn n d) → PyData.canLayAll0 ds = true ∧ PyData.depthAll ds ≤ n
  | n, [], _ => ⟨rfl, Nat.zero_le _⟩
  | n, d :: ds, h => by
    have h1 := h d List.mem_cons_self
    have h2 := sn_all fun e he => h e (List.mem_cons_of_mem _ he)
    constructor
    · rw [PyData.canLayAll0, h1.1, h2.1]; rfl
    · rw [PyData.depthAll]
      exact Nat.max_le.mpr ⟨h1.2, h2.2⟩
theorem sn_tuple {n : Nat} {ds : List PyData} (h : ∀ d ∈ ds, Sn n d) : Sn (n + 1) (.tuple ds) := by
  obtain ⟨h1, h2⟩ := sn_all h
  exact ⟨by rw [PyData.canLay0]; exact h1, by rw [PyData.depth]; omega⟩
theorem sn_list {n : Nat} {ds : List PyData} (h : ∀ d ∈ ds, Sn n d) : Sn (n + 1) (.list ds) := by
  obtain ⟨h1, h2⟩ := sn_all h
  exact ⟨by rw [PyData.canLay0]; exact h1, by rw [PyData.depth]; omega⟩
theorem sn_int {n : Nat} {i : Int} : Sn n (.int i) := ⟨rfl, Nat.zero_le _⟩
theorem sn_bool {n : Nat} {b : Bool} : Sn n (.bool b) := ⟨rfl, Nat.zero_le _⟩
theorem sn_none {n : Nat} : Sn n .none := ⟨rfl, Nat.zero_le _⟩
theorem sn_str {n : Nat} {x : Str} (h : PyData.strOk x = true) : Sn n (.str x) := ⟨by rw [PyData.canLay0]; exact h, Nat.zero_le _⟩
theorem Sn.mono {n m : Nat} {d : PyData} (h : Sn n d) (k : n ≤ m) : Sn m d := ⟨h.1, Nat.le_trans h.2 k⟩
theorem sn_tupI {n : Nat} {ns : List Int} : Sn (n + 1) (tupI ns) := sn_tuple fun d hd => by
  obtain ⟨i, _, rfl⟩ := List.mem_map.mp hd
  exact sn_int
theorem sn_lstI {n : Nat} {ns : List Int} : Sn (n + 1) (lstI ns) := sn_list fun d hd => by
  obtain ⟨i, _, rfl⟩ := List.mem_map.mp hd
  exact sn_int
theorem sh_int {i : Int} : Sh (.int i) := (sn_int (n := 0)).sh (by decide)
theorem sh_bool {b : Bool} : Sh (.bool b) := (sn_bool (n := 0)).sh (by decide)
theorem sh_none : Sh .none := (sn_none (n := 0)).sh (by decide)
theorem sh_tupI {ns : List Int} : Sh (tupI ns) := (sn_tupI (n := 0)).sh (by decide)
theorem sh_lstI {ns : List Int} : Sh (lstI ns) := (sn_lstI (n := 0)).sh (by decide)
theorem sh_nilL : Sh (.list []) := sh_lstI (ns := [])
theorem sh_nilT : Sh (.tuple []) := sh_tupI (ns := [])

/-! ### when data are equal -/
theorem eqv_int {i j : Int} : PyData.eqv (.int i) (.int j) = decide (i = j) := by
  rw [PyData.eqv]
  exact Bool.beq_eq_decide_eq i j
theorem eqvAll_ints : ∀ {ns ms : List Int}, PyData.eqvAll (ns.map .int) (ms.map .int) = decide (ns = ms)
  | [], [] => rfl
  | [], _ :: _ => rfl
  | _ :: _, [] => rfl
  | n :: ns, m :: ms => by
    rw [List.map_cons, List.map_cons, PyData.eqvAll, eqv_int, eqvAll_ints]
    by_cases h1 : n = m
    · by_cases h2 : ns = ms
      · subst h1; subst h2; simp
      · simp [h1, h2]
    · simp [h1]
theorem eqv_tupI {ns ms : List Int} : PyData.eqv (tupI ns) (tupI ms) = decide (ns = ms) := by
  rw [PyData.eqv, eqvAll_ints]
theorem eqv_lstI {ns ms : List Int} : PyData.eqv (lstI ns) (lstI ms) = decide (ns = ms) := by
  rw [PyData.eqv, eqvAll_ints]
theorem eqv_self {n : Nat} {d : PyData} (h : Sn n d) : PyData.eqv d d = true := SeqAt.eqv_refl d h.1

/-! ### the beginning of a def's body -/
theorem S.start {N : List Str} {M : List Addr} {vs : List V} {Ts : List Ty} (e : Same F H) (q : All2 F vs Ts) : S M [] F H F H (L2.start N vs) (Ts.map some ++ List.replicate (N.length - Ts.length) none) [] :=
  ⟨.refl e, env_start q, fun _ h => (List.not_mem_nil h).elim, List.nodup_nil, fun _ h => (List.not_mem_nil h).elim⟩
theorem spP_len {R : List Ty → Ty → Prop} {vs : List V} {Q : VK} {E : XK} {n : Nat} (h : spP R vs H Q E) (k : ∀ Ts T, R Ts T → Ts.length = n) : vs.length = n := by
  obtain ⟨F, Ts, T, _, h2, h3, _⟩ := h
  rw [h2.len]
  exact k Ts T h3
/-- int or tuple or list of ints, as it may be passed -/
inductive SeqI : List Int → PyData → Prop
  | t (ns : List Int) : SeqI ns (tupI ns)
  | l (ns : List Int) : SeqI ns (lstI ns)
section
variable {σ : L2.St} {ss : List Sl} {te ta tb : TE} {T : Ty}
theorem ru_neg {i : Int} : RU (rU fun i => .int (-i)) (TD K (.int i)) F (TD K (.int (-i))) := fun x F1 H f f1 hx Q q =>
  ⟨i, dp_int hx, q _ F1 H (.refl f1) (.int _)⟩
theorem rc_len {ns : List Int} (h : SeqI ns d) : RC (rLen K) [TD K d] F (TD K (.int ns.length)) := by
  cases h with
  | t => have := rc_len_t (K := K) (F := F) (ds := ns.map .int); rwa [List.length_map] at this
  | l => have := rc_len_l (K := K) (F := F) (ds := ns.map .int); rwa [List.length_map] at this
theorem rv_ix {ns : List Int} {i n : Int} (h : SeqI ns d) (e : atI ns i = some n) : RV (rIx K) (TD K d) (TD K (.int i)) F (TD K (.int n)) := by
  have e' : atI (ns.map PyData.int) i = some (.int n) := by
    unfold atI at e ⊢
    rw [List.length_map]
    cases z : ixN ns.length i with
    | none => rw [z] at e; cases e
    | some k =>
      rw [z] at e
      have e2 : ns[k]? = some n := e
      show (ns.map PyData.int)[k]? = _
      rw [List.getElem?_map, e2]; rfl
  cases h with
  | t => exact rv_ixT e'
  | l => exact rv_ixL e'
theorem rn_list {ns : List Int} (h : SeqI ns d) : RCN K (rListOf K) [TD K d] F (ns.map .int) := by
  cases h with
  | t => exact rn_list_t
  | l => exact rn_list_l
theorem rc_tuple {ns : List Int} (h : SeqI ns d) : RC (rTupleOf K) [TD K d] F (TD K (tupI ns)) := by
  cases h with
  | t => exact rc_tuple_t
  | l => exact rc_tuple_l
theorem ei_enum {ns : List Int} (h : SeqI ns d) (he : Ev te σ F (TD K d)) : EvI K (iEnumA K (tCons te tNil)) σ F (enumD (ns.map .int)) := by
  cases h with
  | t => exact ei_enumT he
  | l => exact ei_enumL he
theorem ei_seq {ns : List Int} (h : SeqI ns d) (he : Ev te σ F (TD K d)) : EvI K (iSeq K te) σ F (ns.map .int) := by
  cases h with
  | t => exact ei_tuple he
  | l => exact ei_list he
end
end
end DL

set_option Elab.async false
set_option linter.all false
set_option maxRecDepth 100000
set_option maxHeartbeats 1200000
namespace DL
open Evl (sq_of st_of sz_of sz_lt rMax2 ixN_nat)
open L2 PySem PySem.Spec PyProof.Rows
section
variable {K : PySem.W.Frag} {σ : L2.St} {F H : Hp} {ta te : TE} {tA : TA} {ds es : List PyData} {d : PyData} {Ts : List Ty}
inductive Tds (K : PySem.W.Frag) : List Ty → List PyData → Prop
  | nil : Tds K [] []
  | cons {d : PyData} {Ts : List Ty} {ds : List PyData} : Tds K Ts ds → Tds K (TD K d :: Ts) (d :: ds)
theorem Tds.eq (h : Tds K Ts ds) : Ts = ds.map (TD K) := by
  induction h with
  | nil => rfl
  | cons _ ih => rw [ih]; rfl
theorem ev_tupT (ha : EvA tA σ F Ts) (h : Tds K Ts ds) (hl : ds.length ≤ 100000) : Ev (tTup tA) σ F (TD K (.tuple ds)) := by
  have e := h.eq
  subst e
  exact ev_tup ha hl
theorem en_lstT (ha : EvA tA σ F Ts) (h : Tds K Ts ds) (hl : ds.length ≤ 100000) : EvN K (tLst tA) σ F ds := by
  have e := h.eq
  subst e
  exact en_lst ha hl
theorem rs_slT {lo hi : Option Int} : RS (rSl K) (TD K (.tuple ds)) lo hi F (TD K (.tuple (cutD ds lo hi))) := fun x F1 H f f1 hx Q q => by
  obtain ⟨a, xs, rfl, h1, h2⟩ := dp_tuple hx
  refine .inr ⟨a, xs, rfl, same_t f1 h1, fun e => ?_, fun _ p hp => ?_⟩
  · have : cutD ds lo hi = ds := by
      unfold cutD
      rw [dpAll_len h2] at e
      rw [e.1, e.2, List.drop_zero, Nat.sub_zero, List.take_length]
    rw [this] at q
    exact q _ F1 H (.refl f1) hx
  · exact q _ _ _ ((Stp.refl f1).alloc hp) (.tup (st_of upd_same) (dpAll_mono (same_new (fresh_back f1 hp)) (dpAll_cut h2)))
/-- [f(x) for x in ..] -/
theorem en_map {wi : TI} {te : TE} {vs : List Nat} {j : Nat} (hj : j ∈ vs) (hw : EvI K wi σ F ds) (f : PyData → PyData) (hl : ds.length ≤ 100000)
    (he : ∀ d F' x, d ∈ ds → Same F F' → Dp K F' x d → Ev te ((wipe σ vs).set j (some x)) F' (TD K (f d))) : EvN K (tLc wi (gName j) tYes te vs) σ F (ds.map f) := by
  have h := en_lc (te := te) (tt := tYes) hj hw (fun _ => true) (fun i => f (ds.getD i .none)) hl (fun _ _ _ _ _ _ _ => et_yes) fun i d F' x hi _ e hx => by
    have e1 : ds.getD i .none = d := by rw [List.getD_eq_getElem?_getD, hi]; rfl
    rw [e1]
    exact he d F' x (List.mem_of_getElem? hi) e hx
  have e : ((List.range ds.length).filter fun _ => true).map (fun i => f (ds.getD i .none)) = ds.map f := by
    rw [List.filter_eq_self.mpr (fun _ _ => rfl)]
    apply List.ext_getElem?
    intro i
    rw [List.getElem?_map, List.getElem?_map]
    by_cases hi : i < ds.length
    · rw [List.getElem?_range hi, List.getElem?_eq_getElem hi]
      show some (f (ds.getD i .none)) = some (f ds[i])
      rw [List.getD_eq_getElem?_getD, List.getElem?_eq_getElem hi]; rfl
    · rw [List.getElem?_eq_none (by simp; omega), List.getElem?_eq_none (by omega)]; rfl
  rw [e] at h
  exact h
end
/-! ### whole numbers within data -/
def isIntD (d : PyData) : Bool := isD d "int" && !isD d "bool"
theorem isIntD_iff {d : PyData} : isIntD d = true ↔ ∃ i, d = .int i := by
  cases d with
  | int i => exact ⟨fun _ => ⟨i, rfl⟩, fun _ => by show ((kitB "int" "int").getD false && !(kitB "int" "bool").getD false) = true; decide +kernel⟩
  | none => exact ⟨fun h => absurd h (by show ¬ (isD .none "int" && !isD .none "bool") = true; decide +kernel), fun ⟨_, h⟩ => by cases h⟩
  | bool b => exact ⟨fun h => absurd h (by show ¬ ((kitB "bool" "int").getD false && !(kitB "bool" "bool").getD false) = true; decide +kernel), fun ⟨_, h⟩ => by cases h⟩
  | str b => exact ⟨fun h => absurd h (by show ¬ ((kitB "str" "int").getD false && !(kitB "str" "bool").getD false) = true; decide +kernel), fun ⟨_, h⟩ => by cases h⟩
  | list b => exact ⟨fun h => absurd h (by show ¬ ((kitB "list" "int").getD false && !(kitB "list" "bool").getD false) = true; decide +kernel), fun ⟨_, h⟩ => by cases h⟩
  | tuple b => exact ⟨fun h => absurd h (by show ¬ ((kitB "tuple" "int").getD false && !(kitB "tuple" "bool").getD false) = true; decide +kernel), fun ⟨_, h⟩ => by cases h⟩
  | dict b => exact ⟨fun h => absurd h (by show ¬ ((kitB "dict" "int").getD false && !(kitB "dict" "bool").getD false) = true; decide +kernel), fun ⟨_, h⟩ => by cases h⟩
def intD : PyData → Option Int
  | .int i => some i
  | _ => none
def intsD : List PyData → Option (List Int)
  | [] => some []
  | d :: ds => match intD d, intsD ds with
    | some i, some is => some (i :: is)
    | _, _ => none
def numsD : PyData → Option (List Int)
  | .list ds => intsD ds
  | .tuple ds => intsD ds
  | _ => none
theorem intsD_map : ∀ ns : List Int, intsD (ns.map .int) = some ns
  | [] => rfl
  | n :: ns => by rw [List.map_cons, intsD, intsD_map ns]; rfl
theorem intsD_some : ∀ {ds : List PyData} {ns : List Int}, intsD ds = some ns → ds = ns.map .int
  | [], ns, h => by cases h; rfl
  | d :: ds, ns, h => by
    cases d with
    | int i =>
      rw [intsD] at h
      cases e : intsD ds with
      | none => rw [e] at h; cases h
      | some is =>
        rw [e] at h
        cases h
        rw [intsD_some e]; rfl
    | _ => cases h
theorem intsD_all : ∀ ds : List PyData, ds.all isIntD = (intsD ds).isSome
  | [] => rfl
  | d :: ds => by
    rw [List.all_cons, intsD_all ds]
    cases e : isIntD d with
    | true =>
      obtain ⟨i, rfl⟩ := isIntD_iff.mp e
      rw [intsD]
      cases intsD ds <;> rfl
    | false =>
      cases d with
      | int i => rw [isIntD_iff.mpr ⟨i, rfl⟩] at e; cases e
      | _ => rfl
theorem numsD_some {d : PyData} {ns : List Int} (h : numsD d = some ns) : SeqI ns d := by
  cases d with
  | list ds => rw [intsD_some h]; exact .l ns
  | tuple ds => rw [intsD_some h]; exact .t ns
  | _ => cases h
theorem SeqI.nums {d : PyData} {ns : List Int} (h : SeqI ns d) : numsD d = some ns := by
  cases h with
  | t => exact intsD_map ns
  | l => exact intsD_map ns
instance (ns : List Int) : Decidable (Po.Ct ns) := inferInstanceAs (Decidable (Po.trim ns = ns))
/-- counts among data -/
def isCtD (d : PyData) : Bool := match numsD d with
  | some ns => decide (Po.Ct ns)
  | none => false
theorem isCtD_some {d : PyData} (h : isCtD d = true) : ∃ ns, SeqI ns d ∧ Po.Ct ns := by
  unfold isCtD at h
  cases e : numsD d with
  | none => rw [e] at h; cases h
  | some ns => rw [e] at h; exact ⟨ns, numsD_some e, of_decide_eq_true h⟩
theorem SeqI.ct {d : PyData} {ns : List Int} (h : SeqI ns d) : isCtD d = decide (Po.Ct ns) := by
  unfold isCtD
  rw [h.nums]
/-- is, is not: of None, of truths -/
def rIsAny : R2 := fun x y H Q => rIsNA x y H Q ∨ rIsB x y H Q
def rIsNotAny : R2 := fun x y H Q => rIsNotA x y H Q ∨ rNotB x y H Q
theorem op_isA {X : Cx} : OpR X (compareOp .Is) rIsAny := OpR.or op_isNA op_isBl
theorem op_isNotAA {X : Cx} : OpR X (compareOp .IsNot) rIsNotAny := OpR.or op_isNotA op_notBl
section
variable {K : PySem.W.Frag} {F : Hp} {d : PyData}
theorem rv_isNA : RV rIsAny (TD K d) (TD K .none) F (TD K (.bool (isNone d))) := fun x y F1 H f f1 hx hy Q q => .inl (rv_isN x y F1 H f f1 hx hy Q q)
theorem rv_isNotA : RV rIsNotAny (TD K d) (TD K .none) F (TD K (.bool (!isNone d))) := fun x y F1 H f f1 hx hy Q q => .inl (rv_isNot x y F1 H f f1 hx hy Q q)
theorem rv_isB {a b : Bool} : RV rIsAny (TD K (.bool a)) (TD K (.bool b)) F (TD K (.bool (decide (a = b)))) := fun x y F1 H f f1 hx hy Q q => .inr ⟨a, b, dp_bool hx, dp_bool hy, q _ F1 H (.refl f1) (.bl _)⟩
theorem rv_isNotB {a b : Bool} : RV rIsNotAny (TD K (.bool a)) (TD K (.bool b)) F (TD K (.bool (!decide (a = b)))) := fun x y F1 H f f1 hx hy Q q => .inr ⟨a, b, dp_bool hx, dp_bool hy, q _ F1 H (.refl f1) (.bl _)⟩
end
theorem S.startL {N : List Str} {M : List Addr} {vs : List V} {Ts : List Ty} {F H : Hp} (ss : List Sl) (e : Same F H) (q : All2 F vs Ts) (h : Ts.map some ++ List.replicate (N.length - Ts.length) none = ss := by rfl) : S M [] F H F H (L2.start N vs) ss [] := h ▸ S.start e q
end DL

set_option Elab.async false
set_option linter.all false
set_option maxRecDepth 100000
set_option maxHeartbeats 4200000
namespace DL
open Evl (sq_of st_of sz_of sz_lt rMax2 ixN_nat)
open L2 PySem PySem.Spec PyProof.Rows
open Sem (wp)
open AutoSeq1 (wpAny_loadPart') -- own reading
theorem tuple_mul1 (l : Addr) (all0 : Array Value) (n : Nat) (dc : Option Addr) (sl0 : Array (Option Value)) (k : Int) (t : Tok) (far : (decide (k < -(2 ^ 63)) || decide (k ≥ 2 ^ 63)) = false) (one : (all0.isEmpty || k == 1) = true) :
    Meets (Builtin.«tuple.__mul__» ⟨[.ref l, .int k t], []⟩) (fun _ R t0 => t0.heap.get? l = some { cls := .type "tuple", dict := dc, data := .seq all0 n, slots := sl0 } ∧ R (.ok (.ret (Value.ref l))) t0) :=
  .of_wp fun pg w Ar R t0 hc0 => by
    obtain ⟨h0, g0, d0, k0, o0⟩ := t0
    obtain ⟨kl, hc0⟩ := hc0
    have fi := AutoSeq1.idx_int
    wp_walk using wpAny_loadPart' kl
    repeat (first
      | (refine wpAny_ite_false (decide_eq_false (by rw [far]; exact Bool.false_ne_true)) ?_; wp_walk using wpAny_loadPart' kl)
      | (refine wpAny_ite_true (decide_eq_true one) ?_; wp_walk using wpAny_loadPart' kl))
    exact ⟨_, rfl, hc0⟩
theorem tuple_mul0 (l : Addr) (all0 : Array Value) (n : Nat) (dc : Option Addr) (sl0 : Array (Option Value)) (k : Int) (t : Tok) (far : (decide (k < -(2 ^ 63)) || decide (k ≥ 2 ^ 63)) = false) (one : (all0.isEmpty || k == 1) = false) (nil0 : (decide (k ≤ 0) || all0.isEmpty) = true) :
    Meets (Builtin.«tuple.__mul__» ⟨[.ref l, .int k t], []⟩) (fun _ R t0 => t0.heap.get? l = some { cls := .type "tuple", dict := dc, data := .seq all0 n, slots := sl0 } ∧
      R (.ok (.ret (Value.ref t0.heap.objs.size))) { t0 with heap := t0.heap.push { cls := Value.type "tuple", data := Data.seq #[] }, toks := t0.toks }) :=
  .of_wp fun pg w Ar R t0 hc0 => by
    obtain ⟨h0, g0, d0, k0, o0⟩ := t0
    obtain ⟨kl, hc0⟩ := hc0
    have fi := AutoSeq1.idx_int
    wp_walk using wpAny_loadPart' kl
    repeat (first
      | (refine wpAny_ite_false (decide_eq_false (by rw [far]; exact Bool.false_ne_true)) ?_; wp_walk using wpAny_loadPart' kl)
      | (refine wpAny_ite_false (decide_eq_false (by rw [one]; exact Bool.false_ne_true)) ?_; wp_walk using wpAny_loadPart' kl)
      | (refine wpAny_ite_true (decide_eq_true nil0) ?_; wp_walk using wpAny_loadPart' kl))
    exact ⟨_, rfl, hc0⟩

/-- tuple * int -/
def rRepTA (K : PySem.W.Frag) : R2 := fun x0 y H Q => ∃ l k xs, x0 = .ref l ∧ y = .int k ∧ SqT K H l xs ∧ -1000 ≤ k ∧ k ≤ 1000 ∧ xs.length ≤ 1000 ∧
  (xs = [] ∨ k = 1 → Q (.ref l) H) ∧ (xs ≠ [] → k ≠ 1 → ∀ p, H p = none → Q (.ref p) (upd H p (.tup (List.replicate k.toNat xs).flatten)))
section
variable {X : Cx}
theorem op_repTA : OpR X (binaryOp .Mult) (rRepTA X.K) := by
  intro pn s σ H x0 y v u0 Q J rx ry h
  obtain ⟨l, k, xs, rfl, rfl, isT, h1, h2, hz, q1, q2⟩ := h
  by_cases hbig : xs ≠ [] ∧ 2 ≤ k
  · exact op_repT pn s σ H _ _ v u0 Q J rx ry ⟨l, k, xs, rfl, rfl, isT, hbig.1, hbig.2, h2, hz, q2 hbig.1 (by omega)⟩
  · cases rx
    obtain ⟨t, rfl⟩ := ry
    obtain ⟨ys, rl, ⟨⟨cls, dc, data, sl0⟩, ko, hc, n, hd⟩, _⟩ := J.tuple isT
    simp only at hc hd
    subst hc hd
    have hle : ys.length = xs.length := rl.length.symm
    have hi : ys.toArray.isEmpty = xs.isEmpty := by
      cases ys with
      | nil =>
        cases xs with
        | nil => rfl
        | cons a b => cases hle
      | cons a b =>
        cases xs with
        | nil => cases hle
        | cons a b => rfl
    have far : (decide (k < -(2 ^ 63)) || decide (k ≥ 2 ^ 63)) = false := by
      rw [decide_eq_false (by omega), decide_eq_false (by omega)] <;> rfl
    by_cases hsame : xs = [] ∨ k = 1
    · have one : (ys.toArray.isEmpty || k == 1) = true := by
        rw [hi]
        rcases hsame with e | e
        · subst e; rfl
        · subst e; simp
      refine wpAny_binaryOp_repeat_ref (T := "tuple") (U := "int") (by decide) ⟨_, ko, rfl⟩ (fun s' => typeIs_int s' k t) noFill_tuple_mul F.fills_int_mul F.slot_int_rmul repeat_tuple F.slot_int_index.lookup
        (call_meets F.slot_int_rmul (typeIs_int s k t) F.entry_int_rmul (F.args_int_rmul_2 _ _) (int_rmul_tuple k t l ys.toArray n dc sl0)
          ⟨ko, rfl, ⟨_, ko, rfl⟩, call_meets F.slot_tuple_mul ⟨_, ko, rfl⟩ F.entry_tuple_mul (F.args_tuple_mul_2 _ _) (tuple_mul1 l ys.toArray n dc sl0 k t far one) ⟨ko, ?_⟩⟩)
      exact ⟨.ref l, H, J, rfl, q1 hsame⟩
    · have hne : xs ≠ [] := fun z => hsame (.inl z)
      have hk1 : k ≠ 1 := fun z => hsame (.inr z)
      have hk : k ≤ 0 := by
        have : ¬ 2 ≤ k := fun z => hbig ⟨hne, z⟩
        omega
      have hxe : xs.isEmpty = false := by
        cases xs with
        | nil => exact absurd rfl hne
        | cons a b => rfl
      have one : (ys.toArray.isEmpty || k == 1) = false := by
        rw [hi, hxe, Bool.false_or]
        exact beq_eq_false_iff_ne.mpr hk1
      have nil0 : (decide (k ≤ 0) || ys.toArray.isEmpty) = true := by
        rw [decide_eq_true hk]; rfl
      refine wpAny_binaryOp_repeat_ref (T := "tuple") (U := "int") (by decide) ⟨_, ko, rfl⟩ (fun s' => typeIs_int s' k t) noFill_tuple_mul F.fills_int_mul F.slot_int_rmul repeat_tuple F.slot_int_index.lookup
        (call_meets F.slot_int_rmul (typeIs_int s k t) F.entry_int_rmul (F.args_int_rmul_2 _ _) (int_rmul_tuple k t l ys.toArray n dc sl0)
          ⟨ko, rfl, ⟨_, ko, rfl⟩, call_meets F.slot_tuple_mul ⟨_, ko, rfl⟩ F.entry_tuple_mul (F.args_tuple_mul_2 _ _) (tuple_mul0 l ys.toArray n dc sl0 k t far one nil0) ⟨ko, ?_⟩⟩)
      have e0 : k.toNat = 0 := by omega
      have q := q2 hne hk1
      rw [e0] at q
      refine ⟨.ref s.heap.objs.size, _, J.laid (t' := s.toks) (o := .tup []) (fun b ob q => Heap.get?_push_of_some _ q) (Nat.le_refl _) ?_, rfl, q _ (J.hok.fresh (Nat.le_refl _))⟩
      exact ⟨Nat.zero_le _, [], .nil, IsTup.new _ _⟩
end
def rMulB (K : PySem.W.Frag) : R2 := fun x y H Q => rMulA K x y H Q ∨ rRepTA K x y H Q
theorem op_mulAll {X : Cx} : OpR X (binaryOp .Mult) (rMulB X.K) := OpR.or op_mulAny op_repTA
section
variable {K : PySem.W.Frag} {F : Hp} {σ : L2.St} {ta tb : TE} {i j k : Int} {ds : List PyData}
theorem rv_mulB (h : CMulA i j) : RV (rMulB K) (TD K (.int i)) (TD K (.int j)) F (TD K (.int (i * j))) := fun x y F1 H f f1 hx hy Q q => .inl (rv_mul h x y F1 H f f1 hx hy Q q)
theorem en_repB (ha : EvN K ta σ F ds) (hb : Ev tb σ F (TD K (.int k))) (hk : -100000 ≤ k ∧ k ≤ 100000) (hl : ds.length * k.toNat ≤ 100000) : EvN K (tOp (rMulB K) ta tb) σ F (List.replicate k.toNat ds).flatten := fun H f Q q =>
  ha H f _ fun p xs F1 H1 s1 hp hd => by
    have s2 := s1.alloc (o := .lst xs) hp
    refine (hb.up s2.ff) _ s2.fh _ fun y F3 H3 s3 hy => ?_
    rw [dp_int hy]
    have e : H3 p = some (.lst xs) := s3.hh p _ upd_same
    refine .inl (.inr ⟨p, k, xs, rfl, rfl, e, by omega, by omega, sz_of (by rw [dpAll_len hd]; exact hl), fun r hr => ?_⟩)
    exact q r _ F3 H3 (s2.trans s3) hr (dpAll_rep (dpAll_mono ((same_new (fresh_back s1.fh hp)).trans s3.ff) hd) _)
theorem rv_repT (hk : -1000 ≤ k ∧ k ≤ 1000) (hl : ds.length ≤ 1000) : RV (rMulB K) (TD K (.tuple ds)) (TD K (.int k)) F (TD K (.tuple (List.replicate k.toNat ds).flatten)) := fun x y F1 H f f1 hx hy Q q => by
  obtain ⟨a, xs, rfl, h1, h2⟩ := dp_tuple hx
  rw [dp_int hy]
  refine .inr ⟨a, k, xs, rfl, rfl, same_t f1 h1, hk.1, hk.2, by rw [dpAll_len h2]; exact hl, fun e => ?_, fun _ _ p hp => ?_⟩
  · refine q _ F1 H (.refl f1) ?_
    have e2 : (List.replicate k.toNat ds).flatten = ds := by
      rcases e with e | e
      · subst e
        cases h2
        simp
      · subst e
        simp
    rw [e2]
    exact hx
  · exact q _ _ _ ((Stp.refl f1).alloc hp) (.tup (st_of upd_same) (dpAll_rep (dpAll_mono (same_new (fresh_back f1 hp)) h2) _))
theorem en_is {te : TE} {es : List PyData} (h : EvN K te σ F ds) (e : ds = es) : EvN K te σ F es := e ▸ h
theorem rep_ints {n : Int} {k : Nat} : (List.replicate k [PyData.int n]).flatten = (List.replicate k n).map .int := by
  induction k with
  | zero => rfl
  | succ k ih => rw [List.replicate_succ, List.flatten_cons, ih]; rfl
variable {M : List Addr} {W : List Fact} {F0 H0 H : Hp} {ss : List Sl} {O : Ow}
/-- an owned list of ints given up: data from now on -/
theorem S.freezeI {j i : Nat} {p : Addr} {ns : List Int} (s : S M W F0 H0 F H σ ss O) (h : O[j]? = some (p, .lst (ns.map V.int))) (hp : H0 p = none) (hi : ss[i]? = some (some (TX (.ref p)))) :
    S M W F0 H0 (upd F p (.lst (ns.map V.int))) H σ (ss.set i (some (TD K (lstI ns)))) (O.eraseIdx j) :=
  (s.freeze h hp).re hi fun v e => by
    have e' : v = .ref p := e
    subst e'
    exact .lst (sq_of upd_same) (dpAll_ints ns)
end
end DL

set_option Elab.async false
set_option linter.all false
set_option maxRecDepth 100000
set_option maxHeartbeats 4200000
namespace DL
open Evl (sq_of st_of sz_of sz_lt rMax2 ixN_nat)
open PySem PySem.Spec L2
def smallD (d : PyData) : Prop := ∀ ds, d = .list ds ∨ d = .tuple ds → ds.length ≤ 100000
theorem SeqI.small {ns : List Int} {d : PyData} (h : SeqI ns d) (hl : ns.length ≤ 100000) : smallD d := fun ds e => by
  cases h with
  | t => rcases e with e | e <;> cases e; rw [List.length_map]; exact hl
  | l => rcases e with e | e <;> cases e; rw [List.length_map]; exact hl
theorem atI_lastI {ns : List Int} (h : ns ≠ []) : atI ns (-1) = some (Po.co ns (ns.length - 1)) := by
  have hl : 0 < ns.length := List.length_pos_iff.mpr h
  have e : ixN ns.length (-1) = some (ns.length - 1) := by
    unfold ixN
    rw [if_neg (by decide), if_pos (by omega)]
    congr 1
    omega
  unfold atI
  rw [e]
  exact Po.co_at (by omega)
theorem ct_iff {ns : List Int} : decide (Po.Ct ns) = (decide ((ns.length : Int) = 0) || !decide (Po.co ns (ns.length - 1) = 0)) := by
  by_cases h : ns = []
  · subst h; rfl
  · have h1 : ¬ ((ns.length : Int) = 0) := by
      have := List.length_pos_iff.mpr h
      omega
    rw [decide_eq_false h1, Bool.false_or]
    by_cases h2 : Po.co ns (ns.length - 1) = 0
    · rw [decide_eq_true h2, decide_eq_false (fun c => Po.ct_last c h h2)]; rfl
    · rw [decide_eq_false h2, decide_eq_true (Po.ct_of_last fun _ => h2)]; rfl
theorem cut_take {ns : List Int} {m : Nat} (h : m ≤ ns.length) : cutD (ns.map .int) none (some (m : Int)) = (ns.take m).map .int := by
  unfold cutD
  rw [HT.sIx_none, HT.sIx_nat, List.length_map, Nat.min_eq_left h, List.drop_zero, Nat.sub_zero, List.map_take]
theorem atI_pred {ns : List Int} {m : Nat} (h : m ≤ ns.length) (h0 : 0 < m) : atI ns ((m : Int) - 1) = some (Po.co ns (m - 1)) := by
  have e : (m : Int) - 1 = ((m - 1 : Nat) : Int) := by omega
  rw [e]
  exact atI_nat (Po.co_at (by omega))
theorem ints_set {ns : List Int} {i : Nat} {x : Int} : (ns.map V.int).set i (.int x) = (ns.set i x).map V.int := by rw [List.map_set]
theorem ints_get {ns : List Int} {i : Nat} (h : i < ns.length) : (ns.map V.int)[i]? = some (.int (Po.co ns i)) := by
  rw [List.getElem?_map, Po.co_at h]; rfl
theorem enum_ints {ns : List Int} {i : Nat} {e : PyData} (h : (enumD (ns.map .int))[i]? = some e) : i < ns.length ∧ e = .tuple [.int (i : Nat), .int (Po.co ns i)] := by
  obtain ⟨d, h1, rfl⟩ := enumD_at h
  rw [List.getElem?_map] at h1
  cases e : ns[i]? with
  | none => rw [e] at h1; cases h1
  | some x =>
    rw [e] at h1
    cases h1
    exact ⟨(List.getElem?_eq_some_iff.mp e).1, by rw [Po.co_some e]⟩
def optD : Option Int → PyData
  | some i => .int i
  | none => .none
def withinD (d : PyData) (lo hi : Option Int) : Bool := match d with
  | .int i => (lo.all fun l => decide (l ≤ i)) && (hi.all fun h => decide (i ≤ h))
  | _ => false

theorem inner_popped {ns : List Int} : (ns.map V.int).dropLast = ns.dropLast.map V.int := by rw [List.map_dropLast]
theorem ints_ne {ns : List Int} (h : ns ≠ []) : ns.map V.int ≠ [] := fun z => h (List.map_eq_nil_iff.mp z)
end DL

set_option Elab.async false
set_option linter.all false
set_option maxRecDepth 100000
set_option maxHeartbeats 1200000
/-! joining ways; the pen of a law: a list that draws change; ints within bounds -/
namespace DL
open Evl (sq_of st_of sz_of sz_lt rMax2 ixN_nat)
open L2 PySem PySem.Spec PyProof.Rows
/-- two ways that go on alike -/
theorem join {G : Prop} {N : L2.St → Hp → Prop} (A : L2.St → Hp → Prop) (h1 : (∀ σ H, A σ H → N σ H) → G) (h2 : ∀ σ H, A σ H → N σ H) : G := h1 h2
/-- an int of absolute value below B; from 0 below m; any int -/
def TB (B : Int) : Ty := ⟨fun v _ => ∃ i : Int, v = .int i ∧ -B < i ∧ i < B, fun _ h => h⟩
def TR (m : Int) : Ty := ⟨fun v _ => ∃ i : Int, v = .int i ∧ 0 ≤ i ∧ i < m, fun _ h => h⟩
def TZ : Ty := ⟨fun v _ => ∃ i : Int, v = .int i, fun _ h => h⟩
section
variable {K : PySem.W.Frag} {σ : L2.St} {F H : Hp} {te ta tb : TE} {i m n : Int} {B C D : Int}
theorem eb_of (h : Ev te σ F (TD K (.int i))) (hi : -B < i ∧ i < B) : Ev te σ F (TB B) := ev_weak h fun v F' _ hv => ⟨i, dp_int hv, hi⟩
theorem eb_r (h : Ev te σ F (TR m)) (hB : m ≤ B) (h0 : 0 < B) : Ev te σ F (TB B) := ev_weak h fun v F' _ ⟨i, e, h1, h2⟩ => ⟨i, e, by omega, by omega⟩
theorem eb_z (h : Ev te σ F (TB B)) : Ev te σ F TZ := ev_weak h fun v F' _ ⟨i, e, _⟩ => ⟨i, e⟩
theorem ez_r (h : Ev te σ F (TR m)) : Ev te σ F TZ := ev_weak h fun v F' _ ⟨i, e, _⟩ => ⟨i, e⟩
theorem ez_of (h : Ev te σ F (TD K (.int i))) : Ev te σ F TZ := ev_weak h fun v F' _ hv => ⟨i, dp_int hv⟩
theorem eb_add (h1 : Ev ta σ F (TB B)) (h2 : Ev tb σ F (TB C)) (hD : B + C ≤ D) : Ev (tOp (rAddA K) ta tb) σ F (TB D) := ev_op h1 h2 fun x y F1 H f f1 hx hy Q q => by
  obtain ⟨i, rfl, a1, a2⟩ := hx
  obtain ⟨j, rfl, b1, b2⟩ := hy
  exact .inl (.inl ⟨i, j, rfl, rfl, q _ F1 H (.refl f1) ⟨_, rfl, by omega, by omega⟩⟩)
theorem eb_mul (h1 : Ev ta σ F (TB B)) (h2 : Ev tb σ F (TB C)) (hB : B ≤ 2 ^ 64) (hD : B * C ≤ D) : Ev (tOp (rMulB K) ta tb) σ F (TB D) := ev_op h1 h2 fun x y F1 H f f1 hx hy Q q => by
  obtain ⟨i, rfl, a1, a2⟩ := hx
  obtain ⟨j, rfl, b1, b2⟩ := hy
  refine .inl (.inl ⟨i, j, rfl, rfl, .inl (.inl ⟨by omega, by omega⟩), q _ F1 H (.refl f1) ⟨_, rfl, ?_⟩⟩)
  have h : (i * j).natAbs < (B * C).natAbs := by
    rw [Int.natAbs_mul, Int.natAbs_mul]
    exact Nat.mul_lt_mul'' (by omega) (by omega)
  have h0 : 0 ≤ B * C := Int.mul_nonneg (by omega) (by omega)
  omega
theorem ez_pow (h1 : Ev ta σ F (TB B)) (h2 : Ev tb σ F (TD K (.int n))) (hB : B ≤ 2 ^ 64) (hn : 0 ≤ n ∧ n ≤ 1000000) : Ev (tOp rPowA ta tb) σ F TZ := ev_op h1 h2 fun x y F1 H f f1 hx hy Q q => by
  obtain ⟨i, rfl, a1, a2⟩ := hx
  rw [dp_int hy]
  exact ⟨i, n, rfl, rfl, ⟨hn.1, hn.2, by omega⟩, q _ F1 H (.refl f1) ⟨_, rfl⟩⟩
theorem fmod_bd {x m : Int} (h : 0 < m) : 0 ≤ x.fmod m ∧ x.fmod m < m := by
  rw [Int.fmod_eq_emod_of_nonneg x (by omega)]
  exact ⟨Int.emod_nonneg x (by omega), Int.emod_lt_of_pos x h⟩
theorem er_mod (h1 : Ev ta σ F TZ) (h2 : Ev tb σ F (TD K (.int m))) (hm : 0 < m) : Ev (tOp rModA ta tb) σ F (TR m) := ev_op h1 h2 fun x y F1 H f f1 hx hy Q q => by
  obtain ⟨i, rfl⟩ := hx
  rw [dp_int hy]
  have := fmod_bd (x := i) hm
  exact ⟨i, m, rfl, rfl, by omega, q _ F1 H (.refl f1) ⟨_, rfl, this.1, this.2⟩⟩
theorem ez_div (h1 : Ev ta σ F TZ) (h2 : Ev tb σ F (TD K (.int m))) (hm : m ≠ 0 ∧ m.natAbs < 1073741824) : Ev (tOp rDivA ta tb) σ F TZ := ev_op h1 h2 fun x y F1 H f f1 hx hy Q q => by
  obtain ⟨i, rfl⟩ := hx
  rw [dp_int hy]
  exact ⟨i, m, rfl, rfl, hm, q _ F1 H (.refl f1) ⟨_, rfl⟩⟩
theorem ez_int (h1 : Ev ta σ F TZ) : Ev (tCB rInt (tCons ta tNil)) σ F TZ := ev_cb (Ts := [TZ]) (ea_cons h1 ea_nil) fun vs F1 H f f1 hv Q q => by
  match vs, hv with
  | [v], hv =>
    obtain ⟨i, rfl⟩ := hv.1
    exact .inl ⟨i, rfl, q _ F1 H (.refl f1) ⟨_, rfl⟩⟩
theorem ez_var {ss : List Sl} {j : Nat} (E : Env F σ ss) (h : ss[j]? = some (some (TD K (.int i)))) : Ev (tVar j) σ F TZ := ez_of (ev_var E h)
/-- an item of a list of exact values -/
theorem rv_ixX {xs : List V} {v : V} {T3 : Ty} (e : atI xs i = some v) (hv : ∀ F', Same F F' → T3.p v F') : RV (rIx K) (TL K xs) (TD K (.int i)) F T3 := fun x y F1 H f f1 hx hy Q q => by
  obtain ⟨a, rfl, ha⟩ := hx
  rw [dp_int hy]
  exact .inl ⟨a, xs, i, v, rfl, rfl, same_l f1 ha, e, q v F1 H (.refl f1) (hv F1 f)⟩
variable {M : List Addr} {W : List Fact} {F0 H0 F2 H2 : Hp} {ss : List Sl} {O : Ow} {D' : Ends}
/-- behind a call that may have changed the owned object at p -/
theorem S.call {k : Nat} {p : Addr} {o o' : HO} (s : S M W F0 H0 F H σ ss O) (h : O[k]? = some (p, o)) (g : Gr [p] F H F2 H2) (hF : F2 p = none) (hH : H2 p = some o') : S M W F0 H0 F2 H2 σ ss (O.set k (p, o')) where
  gr := s.gr.trans g fun q hq => by
    have e : q = p := by simpa using hq
    subst e
    exact (s.mem h).2.2
  env := s.env.mono g.ff
  own := fun q hq => by
    obtain ⟨j, hj⟩ := List.getElem?_of_mem hq
    rw [List.getElem?_set] at hj
    split at hj
    · split at hj
      · cases hj
        exact ⟨hF, hH, (s.mem h).2.2⟩
      · cases hj
    · rename_i hne
      have hn := nodup_idx s.nd h hj (Ne.symm hne)
      obtain ⟨g1, g2, g3⟩ := s.own q (List.mem_of_getElem? hj)
      exact ⟨g.nw _ g1 (by rw [g2]; exact fun z => by cases z), g.hh _ _ (by simpa using hn) g2, g3⟩
  nd := by
    have e : (O.set k (p, o')).map (·.1) = O.map (·.1) := by
      rw [List.map_set]
      obtain ⟨h1, h2⟩ := List.getElem?_eq_some_iff.mp h
      have : p = (O.map (·.1))[k]'(by simpa using h1) := by simp [h2]
      rw [this]
      exact List.set_getElem_self _
    rw [e]
    exact s.nd
  mrk := fun m hm => m.m g.ff (s.mrk m hm)
/-- the pen: its cells at c, so many begun, what a great one has left -/
structure Pn (K : PySem.W.Frag) (F : Hp) (c : Addr) (cells : List Int) (t r n : Int) : Prop where
  cl : SqL K F c (cells.map V.int)
  ln : cells.length ≤ 60
  t0 : 0 ≤ t
  tn : t ≤ n
  r0 : 0 ≤ r
abbrev penO (c : Addr) (t r : Int) : HO := .lst [.ref c, .int t, .int r]
def fCell (K : PySem.W.Frag) (c : Addr) (cells : List Int) : Fact := ⟨fun F => SqL K F c (cells.map V.int) ∧ cells.length ≤ 60, fun e h => ⟨same_l e h.1, h.2⟩⟩
/-- a def that draws: called with the pen and more, it gives back what R tells, the pen begun at most k times more -/
def spPen (K : PySem.W.Frag) (k : Int) (R : List Ty → (V → Hp → Prop) → Prop) : Sp := fun vs H Q _ => ∃ F p c cells t r ws Ts P, vs = .ref p :: ws ∧ Same F H ∧ F p = none ∧ H p = some (penO c t r) ∧ (fCell K c cells).p F ∧ 0 ≤ t ∧ t + k ≤ 1000000 ∧ 0 ≤ r ∧ All2 F ws Ts ∧ R Ts P ∧
  ∀ v F2 H2 t' r', Gr [p] F H F2 H2 → F2 p = none → H2 p = some (penO c t' r') → 0 ≤ t' → t' ≤ t + k → 0 ≤ r' → P v F2 → Q v H2
theorem spPen_len {k : Int} {R : List Ty → (V → Hp → Prop) → Prop} {vs : List V} {Q : VK} {E : XK} {n : Nat} (h : spPen K k R vs H Q E) (hk : ∀ Ts P, R Ts P → Ts.length + 1 = n) : vs.length = n := by
  obtain ⟨F, p, c, cells, t, r, ws, Ts, P, rfl, _, _, _, _, _, _, _, h2, h3, _⟩ := h
  rw [List.length_cons, h2.len]
  exact hk Ts P h3
/-- such a call within a def that owns the pen -/
theorem c_pen {kk : Int} {R : List Ty → (V → Hp → Prop) → Prop} {j k : Nat} {p c : Addr} {cells : List Int} {t r : Int} {ta : TA} {E : XK} {Q : VK} {Ts : List Ty} {P : V → Hp → Prop} (s : S M W F0 H0 F H σ ss O)
    (hi : ss[j]? = some (some (TX (.ref p)))) (hk : O[k]? = some (p, penO c t r)) (hc : fCell K c cells ∈ W) (hb : 0 ≤ t ∧ t + kk ≤ 1000000 ∧ 0 ≤ r) (ha : EvA ta σ F Ts) (hR : R Ts P)
    (q : ∀ v F H t' r', S M W F0 H0 F H σ ss (O.set k (p, penO c t' r')) → 0 ≤ t' → t' ≤ t + kk → 0 ≤ r' → P v F → Q v H) : tCall (spPen K kk R) [] E (tCons (tVar j) ta) σ H Q := by
  obtain ⟨w, h1, h2⟩ := s.env.get hi
  have e : w = .ref p := h2
  subst e
  refine ⟨_, h1, ha H s.fh _ fun vs F2 H2 st hv => ?_⟩
  have s2 := s.step st
  obtain ⟨m1, m2, _⟩ := s2.mem hk
  refine ⟨F2, p, c, cells, t, r, vs, Ts, P, by rw [List.append_nil], s2.fh, m1, m2, s2.mrk _ hc, hb.1, hb.2.1, hb.2.2, hv, hR, fun v F3 H3 t' r' g hF hH a1 a2 a3 hp => ?_⟩
  exact q v F3 H3 t' r' (s2.call hk g hF hH) a1 a2 a3 hp
/-- the beginning of a def that draws: the pen is its first parameter -/
theorem S.startP {N : List Str} {vs : List V} {p c : Addr} {cells : List Int} {t r : Int} {Ts : List Ty} (ss : List Sl) (e : Same F H) (hF : F p = none) (hH : H p = some (penO c t r)) (hc : (fCell K c cells).p F) (q : All2 F vs Ts)
    (h : some (TX (.ref p)) :: (Ts.map some ++ List.replicate (N.length - (Ts.length + 1)) none) = ss := by rfl) : S [p] [fCell K c cells] F H F H (L2.start N (.ref p :: vs)) ss [(p, penO c t r)] where
  gr := .refl e
  env := by
    have := env_start (F := F) (N := N) (vs := .ref p :: vs) (Ts := TX (.ref p) :: Ts) ⟨rfl, q⟩
    rw [← h]
    exact this
  own := fun q hq => by
    have e : q = (p, penO c t r) := by simpa using hq
    subst e
    exact ⟨hF, hH, .inl List.mem_cons_self⟩
  nd := by simp
  mrk := fun m hm => by
    have e : m = fCell K c cells := by simpa using hm
    subst e
    exact hc
/-- what the def hands back: its result at the end -/
theorem S.gr1 {p : Addr} (s : S [p] W F0 H0 F H σ ss O) : Gr [p] F0 H0 F H := s.gr
theorem s_asgR (s : S M W F0 H0 F H σ ss O) {j : Nat} (h : Ev te σ F (TR m)) (k : ∀ i F H, 0 ≤ i → i < m → S M W F0 H0 F H (σ.set j (some (.int i))) (ss.set j (some (TD K (.int i)))) O → D'.nx (σ.set j (some (.int i))) H) : tAsg te (gName j) D' σ H :=
  h H s.fh _ fun v F2 H2 st ⟨i, e, h1, h2⟩ => by
    subst e
    exact k i F2 H2 h1 h2 ((s.step st).set (.int i))
theorem s_retR (s : S M W F0 H0 F H σ ss O) (h : Ev te σ F (TR m)) (k : ∀ i F H, 0 ≤ i → i < m → S M W F0 H0 F H σ ss O → D'.rt (.int i) H) : tRet te D' σ H :=
  h H s.fh _ fun v F2 H2 st ⟨i, e, h1, h2⟩ => by
    subst e
    exact k i F2 H2 h1 h2 (s.step st)
theorem s_asgZ (s : S M W F0 H0 F H σ ss O) {j : Nat} (h : Ev te σ F TZ) (k : ∀ i F H, S M W F0 H0 F H (σ.set j (some (.int i))) (ss.set j (some (TD K (.int i)))) O → D'.nx (σ.set j (some (.int i))) H) : tAsg te (gName j) D' σ H :=
  h H s.fh _ fun v F2 H2 st ⟨i, e⟩ => by
    subst e
    exact k i F2 H2 ((s.step st).set (.int i))
theorem cut_take2 {ns : List Int} {m : Nat} : cutD (ns.map .int) none (some (m : Int)) = (ns.take m).map .int := by
  unfold cutD
  rw [HT.sIx_none, HT.sIx_nat, List.length_map, List.drop_zero, Nat.sub_zero, ← List.map_take]
  by_cases h : m ≤ ns.length
  · rw [Nat.min_eq_left h]
  · rw [Nat.min_eq_right (by omega), List.take_length, List.take_of_length_le (by omega)]
end
/-- what law promises: a list of at most 63 ints is handed in, True comes out -/
def spLaw (K : PySem.W.Frag) : Sp := fun us H Q _ => ∃ (a : Addr) (ns : List Int), us = [.ref a] ∧ SqL K H a (ns.map V.int) ∧ ns.length ≤ 63 ∧ ∀ H', Q (.bl true) H'
end DL
theorem L2.FunD.toFun {K : PySem.W.Frag} {x qual : PySem.Str} {st : PySem.Stmt} {kws : List (PySem.Str × L2.V)} {f : PySem.Addr} {fd : PySem.FuncData} (F : L2.FunD K x qual (L2.defArgs st) (L2.defBody st) (L2.defScope st) [] kws f fd) : L2.Fun K x qual st f fd :=
  let ⟨_, _, _, kV, c1, c2, c3, c4, c5, c6, e1, e2, e3, w, _⟩ := F.ex
  match w with
  | .inl z => ⟨⟨_, _, kV, c1, c2, c3, c4, c5, c6, by rw [e1, z.2], e2, e3⟩, F.kp⟩
  | .inr z => absurd rfl z.1

set_option Elab.async false
set_option linter.all false
set_option maxRecDepth 100000
set_option maxHeartbeats 1200000
/-! readings taken value by value -/
namespace DL
open Evl (sq_of st_of sz_of sz_lt rMax2 ixN_nat)
open L2 PySem PySem.Spec PyProof.Rows
section
variable {K : PySem.W.Frag} {σ : L2.St} {F H F0 H0 F2 H2 : Hp} {te ta tb : TE} {M : List Addr} {W : List Fact} {ss : List Sl} {O : Ow} {D : Ends} {T : Ty} {Ts : List Ty} {Q : VK} {E : XK} {ds es : List PyData}
/-- what is known of a value -/
def fT (T : Ty) (v : V) : Fact := ⟨fun F => T.p v F, fun e h => T.m e h⟩
theorem S.keep {v : V} (s : S M W F0 H0 F H σ ss O) (h : T.p v F) : S M (fT T v :: W) F0 H0 F H σ ss O := s.fact (f := fT T v) h
theorem S.got {v : V} (s : S M W F0 H0 F H σ ss O) (h : fT T v ∈ W) : T.p v F := s.mrk _ h
theorem v_var {i : Nat} (s : S M W F0 H0 F H σ ss O) (h : ss[i]? = some (some T)) (q : ∀ v, T.p v F → Q v H) : ∃ v, σ[i]? = some (some v) ∧ Q v H := by
  obtain ⟨w, h1, h2⟩ := s.env.get h
  exact ⟨w, h1, q w h2⟩
theorem v_ev (s : S M W F0 H0 F H σ ss O) (h : Ev te σ F T) (q : ∀ v F H, S M W F0 H0 F H σ ss O → T.p v F → Q v H) : te σ H Q := h H s.fh Q fun v F2 H2 st hv => q v F2 H2 (s.step st) hv
theorem v_pen {kk : Int} {R : List Ty → (V → Hp → Prop) → Prop} {k : Nat} {p c : Addr} {cells : List Int} {t r : Int} {ws : List V} {P : V → Hp → Prop} (s : S M W F0 H0 F H σ ss O)
    (hk : O[k]? = some (p, penO c t r)) (hc : fCell K c cells ∈ W) (hb : 0 ≤ t ∧ t + kk ≤ 1000000 ∧ 0 ≤ r) (ha : All2 F ws Ts) (hR : R Ts P)
    (q : ∀ v F H t' r', S M W F0 H0 F H σ ss (O.set k (p, penO c t' r')) → 0 ≤ t' → t' ≤ t + kk → 0 ≤ r' → P v F → Q v H) : spPen K kk R (.ref p :: ws) H Q E := by
  obtain ⟨m1, m2, _⟩ := s.mem hk
  exact ⟨F, p, c, cells, t, r, ws, Ts, P, rfl, s.fh, m1, m2, s.mrk _ hc, hb.1, hb.2.1, hb.2.2, ha, hR, fun v F3 H3 t' r' g hF hH a1 a2 a3 hp => q v F3 H3 t' r' (s.call hk g hF hH) a1 a2 a3 hp⟩
theorem v_P {R : List Ty → Ty → Prop} {ws : List V} (s : S M W F0 H0 F H σ ss O) (ha : All2 F ws Ts) (hR : R Ts T) (q : ∀ v F H, S M W F0 H0 F H σ ss O → T.p v F → Q v H) : spP R ws H Q E :=
  ⟨F, Ts, T, s.fh, ha, hR, fun v F2 H2 st hv => q v F2 H2 (s.step st) hv⟩
theorem v_op {r : R2} {T1 T2 T3 : Ty} {x y : V} (s : S M W F0 H0 F H σ ss O) (hx : T1.p x F) (hy : T2.p y F) (hr : RV r T1 T2 F T3) (q : ∀ v F H, S M W F0 H0 F H σ ss O → T3.p v F → Q v H) : r x y H Q :=
  hr x y F H (.refl _) s.fh hx hy Q fun v F2 H2 st hv => q v F2 H2 (s.step st) hv
theorem v_cb {r : List V → Hp → VK → Prop} {ws : List V} (s : S M W F0 H0 F H σ ss O) (hx : All2 F ws Ts) (hr : RC r Ts F T) (q : ∀ v F H, S M W F0 H0 F H σ ss O → T.p v F → Q v H) : r ws H Q :=
  hr ws F H (.refl _) s.fh hx Q fun v F2 H2 st hv => q v F2 H2 (s.step st) hv
/-- a display of values known -/
theorem v_lst {ws : List V} (s : S M W F0 H0 F H σ ss O) (h : DpAll K F ws ds) (hl : ds.length ≤ 100000) (q : ∀ v F H, S M W F0 H0 F H σ ss O → Dp K F v (.list ds) → Q v H) : ws.length ≤ sizeLine ∧ ∀ p, H p = none → Q (.ref p) (upd H p (.lst ws)) :=
  ⟨sz_of (by rw [dpAll_len h]; exact hl), fun p hp => q _ _ _ (s.step ((Stp.refl s.fh).alloc hp)) (.lst (sq_of upd_same) (dpAll_mono (same_new (fresh_back s.fh hp)) h))⟩
theorem v_tup {ws : List V} (s : S M W F0 H0 F H σ ss O) (h : DpAll K F ws ds) (hl : ds.length ≤ 100000) (q : ∀ v F H, S M W F0 H0 F H σ ss O → Dp K F v (.tuple ds) → Q v H) : ws.length ≤ sizeLine ∧ ∀ p, H p = none → Q (.ref p) (upd H p (.tup ws)) :=
  ⟨sz_of (by rw [dpAll_len h]; exact hl), fun p hp => q _ _ _ (s.step ((Stp.refl s.fh).alloc hp)) (.tup (st_of upd_same) (dpAll_mono (same_new (fresh_back s.fh hp)) h))⟩
/-- to a slot -/
theorem v_set {i : Nat} {v : V} (s : S M W F0 H0 F H σ ss O) (hv : T.p v F) (q : S M W F0 H0 F H (σ.set i (some v)) (ss.set i (some T)) O → D.nx (σ.set i (some v)) H) : gName i v σ H D.nx := q (s.set hv)
/-- two new lists to two names -/
theorem s_par {i j : Nat} (s : S M W F0 H0 F H σ ss O) (h1 : EvN K ta σ F ds) (h2 : EvN K tb σ F es) (k : ∀ p q xs ys F H, S M W F0 H0 F H ((σ.set i (some (.ref p))).set j (some (.ref q))) ((ss.set i (some (TX (.ref p)))).set j (some (TX (.ref q)))) ((q, .lst ys) :: (p, .lst xs) :: O) → DpAll K F xs ds → DpAll K F ys es → H0 p = none → H0 q = none → D.nx ((σ.set i (some (.ref p))).set j (some (.ref q))) H) :
    tPar i j (tCons ta (tCons tb tNil)) D σ H :=
  h1 H s.fh _ fun p xs F1 H1 st hp hd => by
    have n0 : ∀ {F H : Hp} {σ ss O}, S M W F0 H0 F H σ ss O → ∀ q, H q = none → H0 q = none := fun s q hq => by
      cases e : H0 q with
      | none => rfl
      | some u => exact absurd hq (s.gr.al q (by rw [e]; exact fun z => by cases z))
    have s1 := s.step st
    have s2 := s1.push (o := .lst xs) hp
    have f1 : Same F F1 := st.ff
    refine h2 (upd H1 p (.lst xs)) (f1.trans s2.fh) _ fun q ys F2 H2 st2 hq hd2 => ?_
    obtain ⟨st3, g⟩ := st2.up f1 s2.fh
    have s3 := s2.step st3
    have s4 := s3.push (o := .lst ys) hq
    refine ⟨_, _, rfl, k p q xs ys _ _ ((s4.set (T := TX (.ref p)) (i := i) rfl).set (T := TX (.ref q)) (i := j) rfl) (dpAll_mono st3.ff hd) (dpAll_mono g hd2) (n0 s1 p hp) (n0 s3 q hq)⟩
/-- what follows the iterator of a comprehension -/
def LcGo (J : It) (g : TG) (tt : TT) (te : TE) (vs : List Nat) (σ : L2.St) (Q : VK) (H1 : Hp) : Prop := ∀ L, H1 L = none → ∃ St : Nat → Nat → Hp → Prop, (∃ k, St 0 k (upd H1 L (.lst []))) ∧ ∀ n k H, St n k H →
  (J.stop n H ∧ Q (.ref L) H) ∨ (J.go n H ∧ ∃ nxt : Hp → Prop, (∀ H', nxt H' → ∃ k', k' < k ∧ St (n + 1) k' H') ∧ ∀ x H', J.yld n H x H' → g x (wipe σ vs) H' fun σ2 H2 => wipe σ2 vs = wipe σ vs ∧ tt σ2 H2 fun b H3 =>
    if b = true then te σ2 H3 fun y H4 => ∃ got, H4 L = some (.lst got) ∧ got.length < sizeLine ∧ nxt (upd H4 L (.lst (got ++ [y]))) else nxt H3)
theorem s_lcJ {J : It} {tt : TT} {vs : List Nat} {j : Nat} (hj : j ∈ vs) (s : S M W F0 H0 F H σ ss O) (w : WalkD K J F ds) (I : Nat → List V → Ow → Prop) (h0 : I 0 [] O)
    (hs : ∀ (L : Addr) (Fw : Hp) i d x F H acc O, ds[i]? = some d → I i acc O → S M (Fact.mark Fw :: W) F0 H0 F H ((wipe σ vs).set j (some x)) ((wipeS ss vs).set j (some (TD K d))) ((L, .lst acc) :: O) → Dp K F x d →
      tt ((wipe σ vs).set j (some x)) H fun b H3 => if b = true then te ((wipe σ vs).set j (some x)) H3 fun y H4 => ∃ acc, H4 L = some (.lst acc) ∧ acc.length < sizeLine ∧ Lt M (Fact.mark Fw :: W) F0 H0 (wipe σ vs) (wipeS ss vs) L I (i + 1) (upd H4 L (.lst (acc ++ [y]))) else Lt M (Fact.mark Fw :: W) F0 H0 (wipe σ vs) (wipeS ss vs) L I (i + 1) H3)
    (hd : ∀ (L : Addr) F H acc O, I ds.length acc O → S M W F0 H0 F H σ ss ((L, .lst acc) :: O) → H0 L = none → Q (.ref L) H) : LcGo J (gName j) tt te vs σ Q H := by
  have := s_lc (te := te) (tt := tt) (Q := Q) (wi := fun _ H R => R J H) hj s (fun H2 e R q => q J F H2 (.refl e) w) I h0 hs hd
  exact this
theorem lc_go {wi : TI} {g : TG} {tt : TT} {vs : List Nat} (h : wi σ H fun J H1 => LcGo J g tt te vs σ Q H1) : tLc wi g tt te vs σ H Q := h
/-- the end of a turn of such a comprehension -/
theorem lt_end {L : Addr} {I : Nat → List V → Ow → Prop} {i : Nat} {vs : List Nat} {j : Nat} {x y : V} {σ' : L2.St} {ss' : List Sl} {acc : List V} (hj : j ∈ vs) (s : S M W F0 H0 F H ((wipe σ' vs).set j (some x)) ((wipeS ss' vs).set j (some T)) ((L, .lst acc) :: O)) (hl : acc.length < 100000) (hI : I (i + 1) (acc ++ [y]) O) :
    ∃ acc, H L = some (.lst acc) ∧ acc.length < sizeLine ∧ Lt M W F0 H0 (wipe σ' vs) (wipeS ss' vs) L I (i + 1) (upd H L (.lst (acc ++ [y]))) := by
  refine ⟨acc, (s.mem (k := 0) rfl).2.1, sz_lt hl, F, acc ++ [y], O, hI, ?_⟩
  have s2 := (s.mut (k := 0) (o' := .lst (acc ++ [y])) rfl).wipe vs
  rw [wipe_idem_set hj] at s2
  have e : ∀ (ss : List Sl) (T : Ty), wipeS ((wipeS ss vs).set j (some T)) vs = wipeS ss vs := fun ss T => by
    have key : ∀ (τ : List Sl) (n : Nat), (wipeS τ vs)[n]? = if n ∈ vs then τ[n]?.map (fun _ => none) else τ[n]? := by
      intro τ n
      clear hj s s2
      induction vs generalizing n with
      | nil => simp [wipeS]
      | cons v vs ih =>
        show ((wipeS τ vs).set v none)[n]? = _
        have len : (wipeS τ vs).length = τ.length := by
          clear ih
          induction vs with
          | nil => rfl
          | cons u us ih => show ((wipeS τ us).set u none).length = _; rw [List.length_set, ih]
        rw [List.getElem?_set]
        by_cases e : v = n
        · subst e
          rw [if_pos rfl]
          simp only [len, List.mem_cons, true_or, if_true]
          by_cases hl : v < τ.length
          · rw [if_pos hl, List.getElem?_eq_getElem hl]; rfl
          · rw [if_neg hl, List.getElem?_eq_none (by omega)]; rfl
        · rw [if_neg e, ih]
          have : (n ∈ v :: vs) = (n ∈ vs) := by
            simp only [List.mem_cons, eq_iff_iff]
            exact ⟨fun h => h.resolve_left (fun z => e z.symm), .inr⟩
          simp only [this]
    apply List.ext_getElem?
    intro n
    rw [key, key]
    by_cases hn : n ∈ vs
    · rw [if_pos hn, if_pos hn, List.getElem?_set]
      split
      · rename_i e
        subst e
        have kj := key ss j
        rw [if_pos hj] at kj
        split
        · rename_i hl
          rw [List.getElem?_eq_getElem hl] at kj
          cases z : ss[j]? with
          | none => rw [z] at kj; cases kj
          | some u => rfl
        · rename_i hl
          rw [List.getElem?_eq_none (by omega)] at kj
          cases z : ss[j]? with
          | none => rfl
          | some u => rw [z] at kj; cases kj
      · rw [key, if_pos hn]
        cases ss[n]? with
        | none => rfl
        | some _ => rfl
    · have hjn : j ≠ n := fun e => hn (by rw [← e]; exact hj)
      rw [if_neg hn, if_neg hn, List.getElem?_set, if_neg hjn, key, if_neg hn]
  rw [e] at s2
  exact s2
/-! readings opened one by one -/
theorem u_op {r : R2} (h : ta σ H fun x H1 => tb σ H1 fun y H2 => r x y H2 Q) : tOp r ta tb σ H Q := h
theorem u_cons {tr : TA} {QA : List V → Hp → Prop} (h : ta σ H fun x H1 => tr σ H1 fun xs H2 => QA (x :: xs) H2) : tCons ta tr σ H QA := h
theorem u_nil {QA : List V → Hp → Prop} (h : QA [] H) : tNil σ H QA := h
theorem u_call {sp : Sp} {tA : TA} (h : tA σ H fun vs H1 => sp (vs ++ []) H1 Q E) : tCall sp [] E tA σ H Q := h
theorem u_cb {r : List V → Hp → VK → Prop} {tA : TA} (h : tA σ H fun vs H1 => r vs H1 Q) : tCB r tA σ H Q := h
theorem u_tup {tA : TA} (h : tA σ H fun xs H1 => xs.length ≤ sizeLine ∧ ∀ p, H1 p = none → Q (.ref p) (upd H1 p (.tup xs))) : tTup tA σ H Q := h
theorem u_lst {tA : TA} (h : tA σ H fun xs H1 => xs.length ≤ sizeLine ∧ ∀ p, H1 p = none → Q (.ref p) (upd H1 p (.lst xs))) : tLst tA σ H Q := h
theorem u_ret (h : te σ H D.rt) : tRet te D σ H := h
theorem u_asg {g : TG} (h : te σ H fun x H1 => g x σ H1 D.nx) : tAsg te g D σ H := h
theorem u_int {i : Int} (h : Q (.int i) H) : tC (.int i) σ H Q := h
theorem u_yes {A B : Hp → Prop} (h : A H) : tYes σ H fun b H3 => if b = true then A H3 else B H3 := by
  show if true = true then A H else B H
  rw [if_pos rfl]
  exact h
theorem u_var {i : Nat} (s : S M W F0 H0 F H σ ss O) (h : ss[i]? = some (some T)) (q : ∀ v, T.p v F → Q v H) : tVar i σ H Q := v_var s h q
theorem u_range {tA : TA} {R : It → Hp → Prop} (h : tA σ H fun vs H1 => ∃ j : Int, vs = [.int j] ∧ -(2 ^ 62) ≤ j ∧ j < 2 ^ 62 ∧ R (Itr 0 j.toNat) H1) : iRng1 tA σ H R := h
theorem u_seq {t u : TS} (h : t { D with nx := u D } σ H) : tSeq t u D σ H := h
theorem S.newT {p : Addr} {vs : List V} (s : S M W F0 H0 F H σ ss O) (hp : H p = none) (h : DpAll K F vs ds) : S M W F0 H0 (upd F p (.tup vs)) (upd H p (.tup vs)) σ ss O ∧ Dp K (upd F p (.tup vs)) (.ref p) (.tuple ds) :=
  ⟨s.step ((Stp.refl s.fh).alloc hp), .tup (st_of upd_same) (dpAll_mono (same_new (fresh_back s.fh hp)) h)⟩
theorem S.newL {p : Addr} {vs : List V} (s : S M W F0 H0 F H σ ss O) (hp : H p = none) (h : DpAll K F vs ds) : S M W F0 H0 (upd F p (.lst vs)) (upd H p (.lst vs)) σ ss O ∧ Dp K (upd F p (.lst vs)) (.ref p) (.list ds) :=
  ⟨s.step ((Stp.refl s.fh).alloc hp), .lst (sq_of upd_same) (dpAll_mono (same_new (fresh_back s.fh hp)) h)⟩
theorem u_if {c : TT} {t u : TS} (h : c σ H fun b H1 => if b = true then t D σ H1 else u D σ H1) : tIfS c t u D σ H := h
theorem u_or {t u : TT} {Q : Bool → Hp → Prop} (h : t σ H fun c H1 => if c = true then Q true H1 else u σ H1 Q) : tOr t u σ H Q := h
theorem u_and {t u : TT} {Q : Bool → Hp → Prop} (h : t σ H fun c H1 => if c = true then u σ H1 Q else Q false H1) : tAnd t u σ H Q := h
theorem u_not {t : TT} {Q : Bool → Hp → Prop} (h : t σ H fun c H1 => Q (!c) H1) : tNot t σ H Q := h
theorem u_B {Q : Bool → Hp → Prop} (h : te σ H fun x H1 => ∃ c, x = .bl c ∧ Q c H1) : tB te σ H Q := h
theorem if_f {b : Bool} {A B : Prop} (e : b = false) (h : B) : if b = true then A else B := by subst e; exact iteF h
theorem if_t {b : Bool} {A B : Prop} (e : b = true) (h : A) : if b = true then A else B := by subst e; exact iteT h
end
/-! ### the same rules with K said outright: inside a comprehension a reading may not speak of its own place -/
theorem opK {X : Cx} {K : PySem.W.Frag} {o} (f : PySem.W.Frag → _) (hK : X.K = K) (h : OpR X o (f X.K)) : OpR X o (f K) := hK ▸ h
theorem callK {X : Cx} {K : PySem.W.Frag} {o} (f : PySem.W.Frag → _) (hK : X.K = K) (h : CallR X o (f X.K)) : CallR X o (f K) := hK ▸ h
theorem ixK {X : Cx} {K : PySem.W.Frag} (f : PySem.W.Frag → _) (hK : X.K = K) (h : IxR X (f X.K)) : IxR X (f K) := hK ▸ h
theorem slK {X : Cx} {K : PySem.W.Frag} (f : PySem.W.Frag → _) (hK : X.K = K) (h : SlR X (f X.K)) : SlR X (f K) := hK ▸ h
end DL

set_option Elab.async false
set_option linter.all false
set_option maxRecDepth 100000
set_option maxHeartbeats 4200000
namespace Lw
open PySem PySem.Spec PyProof.Rows L2 DL
/-! ### words: what an expression is worth, by its form (E: the slots) -/
set_option hygiene false in
local macro_rules | `(tactic| walk_at "sd") => `(tactic| first | assumption | exact Nat.le_of_ble_eq_true rfl | decide | omega | (simp; done))
set_option hygiene false in
local macro_rules | `(tactic| walk_at "sh") => `(tactic| first | exact sh_int | exact sh_bool | exact sh_none | exact sh_tupI | exact sh_lstI | exact sh_nilL | exact sh_nilT | assumption)
set_option hygiene false in
local macro_rules | `(tactic| walk_at "td") => `(tactic| repeat (first | (with_reducible exact Tds.nil) | (with_reducible apply Tds.cons)))
set_option hygiene false in
local macro_rules | `(tactic| walk_at "rv") => `(tactic| first
  | (with_reducible exact rv_add) | (with_reducible exact rv_sub)
  | ((with_reducible apply rv_mulB); walk_at "sd") | ((with_reducible apply rv_div); walk_at "sd") | ((with_reducible apply rv_mod); walk_at "sd") | ((with_reducible apply rv_pow); walk_at "sd")
  | (with_reducible exact rv_lt) | (with_reducible exact rv_le) | (with_reducible exact rv_gt) | (with_reducible exact rv_ge) | (with_reducible exact rv_isNA) | (with_reducible exact rv_isNotA) | (with_reducible exact rv_isB) | (with_reducible exact rv_isNotB)
  | ((with_reducible apply rv_eq) <;> walk_at "sh") | ((with_reducible apply rv_ne) <;> walk_at "sh")
  | ((with_reducible apply rv_catT); walk_at "sd") | ((with_reducible apply rv_repT); (walk_at "sd"); (walk_at "sd"))
  | ((with_reducible apply rv_ix (by assumption)); walk_at "sd") | ((with_reducible apply rv_ixL); first | rfl | walk_at "sd") | ((with_reducible apply rv_ixT); first | rfl | walk_at "sd"))
set_option hygiene false in
local macro_rules | `(tactic| walk_at "rc") => `(tactic| first
  | (with_reducible exact rc_int) | (with_reducible exact rc_intb) | (with_reducible exact rc_abs) | (with_reducible exact rc_max)
  | (with_reducible exact rc_len (by assumption)) | (with_reducible exact rc_len_l) | (with_reducible exact rc_len_t)
  | (with_reducible exact rc_tuple (by assumption)) | (with_reducible exact rc_tuple_l) | (with_reducible exact rc_tuple_t)
  | (with_reducible exact rc_all) | (with_reducible exact rc_sum)
  | ((with_reducible apply rc_isi); decide +kernel) | ((with_reducible apply rc_isiT); decide +kernel))
set_option hygiene false in
local macro_rules | `(tactic| walk_at "rr") => `(tactic| first | exact ⟨_, rfl, rfl⟩ | exact ⟨_, _, rfl, rfl⟩ | assumption)
set_option hygiene false in
local macro_rules | `(tactic| walk_at "ea") => `(tactic| first | (with_reducible exact ea_nil) | ((with_reducible apply ea_cons); (walk_at "ev"); (walk_at "ea")))
set_option hygiene false in
local macro_rules | `(tactic| walk_at "eo") => `(tactic| first | (with_reducible exact eo_none) | ((with_reducible apply eo_some); walk_at "ev"))
set_option hygiene false in
local macro_rules | `(tactic| walk_at "en") => `(tactic| first
  | ((with_reducible apply en_lstT); (walk_at "ea"); (walk_at "td"); (walk_at "sd"))
  | ((with_reducible apply en_repB); (walk_at "en"); (walk_at "ev"); (walk_at "sd"); (walk_at "sd"))
  | ((with_reducible apply en_op); (walk_at "ev"); (walk_at "ev"); ((with_reducible apply rn_catL); walk_at "sd"))
  | ((with_reducible apply en_cb); (walk_at "ea"); first | (with_reducible exact rn_list (by assumption)) | (with_reducible exact rn_list_l) | (with_reducible exact rn_list_t))
  | ((with_reducible apply en_sl); (walk_at "ev"); (walk_at "eo"); (walk_at "eo"); (with_reducible exact rn_slL)))
set_option hygiene false in
local macro_rules | `(tactic| walk_at "ev") => `(tactic| first
  | (with_reducible exact ev_int (K := K)) | (with_reducible exact ev_bool (K := K)) | (with_reducible exact ev_none (K := K)) | (with_reducible exact ev_str (K := K)) | (with_reducible exact ev_ty)
  | ((with_reducible apply ev_var E); rfl)
  | ((with_reducible apply ev_op); (walk_at "ev"); (walk_at "ev"); (walk_at "rv"))
  | ((with_reducible apply ev_un); (walk_at "ev"); (with_reducible exact ru_neg))
  | ((with_reducible apply ev_call); (walk_at "ea"); (walk_at "rr"))
  | ((with_reducible apply ev_cb); (walk_at "ea"); (walk_at "rc"))
  | ((with_reducible apply ev_andV); (walk_at "ev"); (intro ha; walk_at "ev"))
  | ((with_reducible apply ev_orV); (walk_at "ev"); (intro ho; walk_at "ev"))
  | ((with_reducible apply ev_notV); walk_at "ev")
  | ((with_reducible apply ev_tupT); (walk_at "ea"); (walk_at "td"); (walk_at "sd"))
  | ((with_reducible apply ev_sl); (walk_at "ev"); (walk_at "eo"); (walk_at "eo"); (with_reducible exact rs_slT))
  | ((with_reducible apply ev_new); walk_at "en"))
set_option hygiene false in
local macro_rules | `(tactic| walk_at "et") => `(tactic| first
  | ((with_reducible apply et_test (K := K)); walk_at "ev") | ((with_reducible apply et_B (K := K)); walk_at "ev")
  | ((with_reducible apply et_not); walk_at "et")
  | ((with_reducible apply et_and); (walk_at "et"); (intro ha; walk_at "et"))
  | ((with_reducible apply et_or); (walk_at "et"); (intro ho; walk_at "et"))
  | (with_reducible exact et_yes))
set_option hygiene false in
local macro_rules | `(tactic| walk_at "q") => `(tactic| ((try dsimp only); (refine s_seq ?_); (try dsimp only)))
set_option hygiene false in
local macro_rules | `(tactic| walk_at "mw") => `(tactic| repeat (first | exact List.mem_cons_self | apply List.mem_cons_of_mem))
open Evl (sq_of st_of sz_of sz_lt)
def topS (i : Nat) : Stmt := PySem.Challenge.pw_sevenasone_k04_divided_with_integers_alo.main.body.getD i (.Pass ⟨0, 0, 0, 0⟩)
abbrev s_is_integer : Stmt := topS 1
abbrev N_is_integer : List Str := ["value"]
theorem sc_is_integer : FnScope N_is_integer ["value"] (defScope s_is_integer) := ⟨rfl, rfl, rfl, by decide +kernel, rfl, by decide +kernel, by decide +kernel⟩
abbrev s_is_within : Stmt := topS 2
abbrev N_is_within : List Str := ["value", "least", "most"]
theorem sc_is_within : FnScope N_is_within ["value", "least", "most"] (defScope s_is_within) := ⟨rfl, rfl, rfl, by decide +kernel, rfl, by decide +kernel, by decide +kernel⟩
abbrev s_is_numbers : Stmt := topS 3
abbrev N_is_numbers : List Str := ["value", "number"]
theorem sc_is_numbers : FnScope N_is_numbers ["value"] (defScope s_is_numbers) := ⟨rfl, rfl, rfl, by decide +kernel, rfl, by decide +kernel, by decide +kernel⟩
abbrev s_is_counts : Stmt := topS 9
abbrev N_is_counts : List Str := ["value"]
theorem sc_is_counts : FnScope N_is_counts ["value"] (defScope s_is_counts) := ⟨rfl, rfl, rfl, by decide +kernel, rfl, by decide +kernel, by decide +kernel⟩
abbrev s__check_counts : Stmt := topS 10
abbrev N__check_counts : List Str := ["value", "name"]
theorem sc__check_counts : FnScope N__check_counts ["value", "name"] (defScope s__check_counts) := ⟨rfl, rfl, rfl, by decide +kernel, rfl, by decide +kernel, by decide +kernel⟩
abbrev s__without_end : Stmt := topS 11
abbrev N__without_end : List Str := ["row", "end"]
theorem sc__without_end : FnScope N__without_end ["row"] (defScope s__without_end) := ⟨rfl, rfl, rfl, by decide +kernel, rfl, by decide +kernel, by decide +kernel⟩
abbrev s__added : Stmt := topS 12
abbrev N__added : List Str := ["one", "other", "factor", "row", "place", "number"]
theorem sc__added : FnScope N__added ["one", "other", "factor"] (defScope s__added) := ⟨rfl, rfl, rfl, by decide +kernel, rfl, by decide +kernel, by decide +kernel⟩
abbrev s_plus : Stmt := topS 13
abbrev N_plus : List Str := ["one", "other"]
theorem sc_plus : FnScope N_plus ["one", "other"] (defScope s_plus) := ⟨rfl, rfl, rfl, by decide +kernel, rfl, by decide +kernel, by decide +kernel⟩
abbrev s_less : Stmt := topS 14
abbrev N_less : List Str := ["one", "other"]
theorem sc_less : FnScope N_less ["one", "other"] (defScope s_less) := ⟨rfl, rfl, rfl, by decide +kernel, rfl, by decide +kernel, by decide +kernel⟩
abbrev s_times : Stmt := topS 15
abbrev N_times : List Str := ["one", "other", "row", "place", "number", "further", "factor"]
theorem sc_times : FnScope N_times ["one", "other"] (defScope s_times) := ⟨rfl, rfl, rfl, by decide +kernel, rfl, by decide +kernel, by decide +kernel⟩
abbrev s_moved : Stmt := topS 16
abbrev N_moved : List Str := ["counts", "number"]
theorem sc_moved : FnScope N_moved ["counts", "number"] (defScope s_moved) := ⟨rfl, rfl, rfl, by decide +kernel, rfl, by decide +kernel, by decide +kernel⟩
abbrev s_divided : Stmt := topS 17
abbrev N_divided : List Str := ["counts", "by", "left", "quotient", "start", "factor", "place", "number"]
theorem sc_divided : FnScope N_divided ["counts", "by"] (defScope s_divided) := ⟨rfl, rfl, rfl, by decide +kernel, rfl, by decide +kernel, by decide +kernel⟩
abbrev s__law_pen : Stmt := topS 19
abbrev N__law_pen : List Str := ["script", "cell"]
theorem sc__law_pen : FnScope N__law_pen ["script"] (defScope s__law_pen) := ⟨rfl, rfl, rfl, by decide +kernel, rfl, by decide +kernel, by decide +kernel⟩
abbrev s__law_draw : Stmt := topS 20
abbrev N__law_draw : List Str := ["pen", "many", "rest", "turn", "cell", "mixed"]
theorem sc__law_draw : FnScope N__law_draw ["pen", "many"] (defScope s__law_draw) := ⟨rfl, rfl, rfl, by decide +kernel, rfl, by decide +kernel, by decide +kernel⟩
abbrev s__law_pick : Stmt := topS 21
abbrev N__law_pick : List Str := ["pen", "some"]
theorem sc__law_pick : FnScope N__law_pick ["pen", "some"] (defScope s__law_pick) := ⟨rfl, rfl, rfl, by decide +kernel, rfl, by decide +kernel, by decide +kernel⟩
abbrev s__law_cut : Stmt := topS 22
abbrev N__law_cut : List Str := ["row", "found"]
theorem sc__law_cut : FnScope N__law_cut ["row"] (defScope s__law_cut) := ⟨rfl, rfl, rfl, by decide +kernel, rfl, by decide +kernel, by decide +kernel⟩
abbrev s__law_counts : Stmt := topS 23
abbrev N__law_counts : List Str := ["pen", "most", "place"]
theorem sc__law_counts : FnScope N__law_counts ["pen", "most"] (defScope s__law_counts) := ⟨rfl, rfl, rfl, by decide +kernel, rfl, by decide +kernel, by decide +kernel⟩
abbrev s__law_solved : Stmt := topS 24
abbrev N__law_solved : List Str := ["counts", "by", "left", "found", "place", "number", "at", "its"]
theorem sc__law_solved : FnScope N__law_solved ["counts", "by"] (defScope s__law_solved) := ⟨rfl, rfl, rfl, by decide +kernel, rfl, by decide +kernel, by decide +kernel⟩
abbrev s__law_one_right : Stmt := topS 25
abbrev N__law_one_right : List Str := ["pen", "by", "some", "counts", "quotient", "left", "due"]
theorem sc__law_one_right : FnScope N__law_one_right ["pen"] (defScope s__law_one_right) := ⟨rfl, rfl, rfl, by decide +kernel, rfl, by decide +kernel, by decide +kernel⟩
abbrev s__law_shares_right : Stmt := topS 26
abbrev N__law_shares_right : List Str := ["pen", "by", "some", "number", "great", "due", "one"]
theorem sc__law_shares_right : FnScope N__law_shares_right ["pen"] (defScope s__law_shares_right) := ⟨rfl, rfl, rfl, by decide +kernel, rfl, by decide +kernel, by decide +kernel⟩
abbrev s__law_powers_right : Stmt := topS 27
abbrev N__law_powers_right : List Str := ["pen", "low", "step", "counts", "by", "number"]
theorem sc__law_powers_right : FnScope N__law_powers_right ["pen"] (defScope s__law_powers_right) := ⟨rfl, rfl, rfl, by decide +kernel, rfl, by decide +kernel, by decide +kernel⟩
abbrev s_law : Stmt := topS 28
abbrev N_law : List Str := ["script", "pen", "turn"]
theorem sc_law : FnScope N_law ["script"] (defScope s_law) := ⟨rfl, rfl, rfl, by decide +kernel, rfl, by decide +kernel, by decide +kernel⟩
structure Txt (K : PySem.W.Frag) (mg : Str → Option Value) where
  a_is_integer : Addr
  d_is_integer : FuncData
  F_is_integer : Fun K "is_integer" "is_integer" s_is_integer a_is_integer d_is_integer
  b_is_integer : Binds K d_is_integer ["value"] []
  g_is_integer : mg "is_integer" = some (.ref a_is_integer)
  a_is_within : Addr
  d_is_within : FuncData
  F_is_within : Fun K "is_within" "is_within" s_is_within a_is_within d_is_within
  b_is_within : Binds K d_is_within ["value", "least", "most"] []
  g_is_within : mg "is_within" = some (.ref a_is_within)
  a_is_numbers : Addr
  d_is_numbers : FuncData
  F_is_numbers : Fun K "is_numbers" "is_numbers" s_is_numbers a_is_numbers d_is_numbers
  b_is_numbers : Binds K d_is_numbers ["value"] []
  g_is_numbers : mg "is_numbers" = some (.ref a_is_numbers)
  a_is_counts : Addr
  d_is_counts : FuncData
  F_is_counts : Fun K "is_counts" "is_counts" s_is_counts a_is_counts d_is_counts
  b_is_counts : Binds K d_is_counts ["value"] []
  g_is_counts : mg "is_counts" = some (.ref a_is_counts)
  a__check_counts : Addr
  d__check_counts : FuncData
  F__check_counts : Fun K "_check_counts" "_check_counts" s__check_counts a__check_counts d__check_counts
  b__check_counts : Binds K d__check_counts ["value", "name"] []
  g__check_counts : mg "_check_counts" = some (.ref a__check_counts)
  a__without_end : Addr
  d__without_end : FuncData
  F__without_end : Fun K "_without_end" "_without_end" s__without_end a__without_end d__without_end
  b__without_end : Binds K d__without_end ["row"] []
  g__without_end : mg "_without_end" = some (.ref a__without_end)
  a__added : Addr
  d__added : FuncData
  F__added : Fun K "_added" "_added" s__added a__added d__added
  b__added : Binds K d__added ["one", "other", "factor"] []
  g__added : mg "_added" = some (.ref a__added)
  a_plus : Addr
  d_plus : FuncData
  F_plus : Fun K "plus" "plus" s_plus a_plus d_plus
  b_plus : Binds K d_plus ["one", "other"] []
  g_plus : mg "plus" = some (.ref a_plus)
  a_less : Addr
  d_less : FuncData
  F_less : Fun K "less" "less" s_less a_less d_less
  b_less : Binds K d_less ["one", "other"] []
  g_less : mg "less" = some (.ref a_less)
  a_times : Addr
  d_times : FuncData
  F_times : Fun K "times" "times" s_times a_times d_times
  b_times : Binds K d_times ["one", "other"] []
  g_times : mg "times" = some (.ref a_times)
  a_moved : Addr
  d_moved : FuncData
  F_moved : Fun K "moved" "moved" s_moved a_moved d_moved
  b_moved : Binds K d_moved ["counts", "number"] []
  g_moved : mg "moved" = some (.ref a_moved)
  a_divided : Addr
  d_divided : FuncData
  F_divided : Fun K "divided" "divided" s_divided a_divided d_divided
  b_divided : Binds K d_divided ["counts", "by"] []
  g_divided : mg "divided" = some (.ref a_divided)
  a__law_pen : Addr
  d__law_pen : FuncData
  F__law_pen : Fun K "_law_pen" "_law_pen" s__law_pen a__law_pen d__law_pen
  b__law_pen : Binds K d__law_pen ["script"] []
  g__law_pen : mg "_law_pen" = some (.ref a__law_pen)
  a__law_draw : Addr
  d__law_draw : FuncData
  F__law_draw : Fun K "_law_draw" "_law_draw" s__law_draw a__law_draw d__law_draw
  b__law_draw : Binds K d__law_draw ["pen", "many"] []
  g__law_draw : mg "_law_draw" = some (.ref a__law_draw)
  a__law_pick : Addr
  d__law_pick : FuncData
  F__law_pick : Fun K "_law_pick" "_law_pick" s__law_pick a__law_pick d__law_pick
  b__law_pick : Binds K d__law_pick ["pen", "some"] []
  g__law_pick : mg "_law_pick" = some (.ref a__law_pick)
  a__law_cut : Addr
  d__law_cut : FuncData
  F__law_cut : Fun K "_law_cut" "_law_cut" s__law_cut a__law_cut d__law_cut
  b__law_cut : Binds K d__law_cut ["row"] []
  g__law_cut : mg "_law_cut" = some (.ref a__law_cut)
  a__law_counts : Addr
  d__law_counts : FuncData
  F__law_counts : Fun K "_law_counts" "_law_counts" s__law_counts a__law_counts d__law_counts
  b__law_counts : Binds K d__law_counts ["pen", "most"] []
  g__law_counts : mg "_law_counts" = some (.ref a__law_counts)
  a__law_solved : Addr
  d__law_solved : FuncData
  F__law_solved : Fun K "_law_solved" "_law_solved" s__law_solved a__law_solved d__law_solved
  b__law_solved : Binds K d__law_solved ["counts", "by"] []
  g__law_solved : mg "_law_solved" = some (.ref a__law_solved)
  a__law_one_right : Addr
  d__law_one_right : FuncData
  F__law_one_right : Fun K "_law_one_right" "_law_one_right" s__law_one_right a__law_one_right d__law_one_right
  b__law_one_right : Binds K d__law_one_right ["pen"] []
  g__law_one_right : mg "_law_one_right" = some (.ref a__law_one_right)
  a__law_shares_right : Addr
  d__law_shares_right : FuncData
  F__law_shares_right : Fun K "_law_shares_right" "_law_shares_right" s__law_shares_right a__law_shares_right d__law_shares_right
  b__law_shares_right : Binds K d__law_shares_right ["pen"] []
  g__law_shares_right : mg "_law_shares_right" = some (.ref a__law_shares_right)
  a__law_powers_right : Addr
  d__law_powers_right : FuncData
  F__law_powers_right : Fun K "_law_powers_right" "_law_powers_right" s__law_powers_right a__law_powers_right d__law_powers_right
  b__law_powers_right : Binds K d__law_powers_right ["pen"] []
  g__law_powers_right : mg "_law_powers_right" = some (.ref a__law_powers_right)
  a_law : Addr
  d_law : FuncData
  F_law : Fun K "law" "law" s_law a_law d_law
  b_law : Binds K d_law ["script"] []
  g_law : mg "law" = some (.ref a_law)
  n_abs : mg "abs" = none
  n_all : mg "all" = none
  n_bool : mg "bool" = none
  n_enumerate : mg "enumerate" = none
  n_int : mg "int" = none
  n_isinstance : mg "isinstance" = none
  n_len : mg "len" = none
  n_list : mg "list" = none
  n_max : mg "max" = none
  n_range : mg "range" = none
  n_tuple : mg "tuple" = none
variable {P : Program} {w : World} {mg : Str → Option Value} {base : Heap} {K : PySem.W.Frag}
/-! ### is_integer -/
def R_is_integer (K : PySem.W.Frag) : List Ty → Ty → Prop := fun Ts T => ∃ d, Ts = [TD K d] ∧ T = TD K (.bool (isIntD d))
theorem ok_is_integer (T : Txt K mg) : FnOk P w K mg base CX0 1 T.a_is_integer T.d_is_integer ["value"] (spP (R_is_integer K)) := by
  skip
  refine T.F_is_integer.ok sc_is_integer (fun vs H Q E h => ?len) (fun cdv A outer s H vs Q E hr h => ?body)
  case len => exact spP_len h (by rintro _ _ ⟨d, rfl, rfl⟩; rfl)
  case body =>
    obtain ⟨F, Ts, T', e, q, ⟨d, rfl, rfl⟩, hQ⟩ := h
    have s := S.startL (N := N_is_integer) (M := []) [some (TD K d)] e q
    refine ⟨_, (pss_one (ps_ret (pe_and (pe_callB call_isi (by rfl) T.n_isinstance (by decide +kernel) (pa_cons (pv 0) (pa_cons (pe_bltn (v := .ty "int") (by rfl) T.n_int (by decide +kernel) rfl) pa_nil))) (pe_one (pe_not (pe_callB call_isi (by rfl) T.n_isinstance (by decide +kernel) (pa_cons (pv 0) (pa_cons (pe_bltn (v := .ty "bool") (by rfl) T.n_bool (by decide +kernel) rfl) pa_nil)))))))), ?_⟩
    try dsimp only [cxOf, Cx.nox, Cx.wish, Cx.blk]
    apply s_ret s
    · have E := s.env
      walk_at "ev"
    · exact fun v F H s hv => hQ v F H s.gr.stp hv
/-! ### is_within -/
def R_is_within (K : PySem.W.Frag) : List Ty → Ty → Prop := fun Ts T => ∃ d lo hi, Ts = [TD K d, TD K (optD lo), TD K (optD hi)] ∧ T = TD K (.bool (withinD d lo hi))
theorem ok_is_within (T : Txt K mg) : FnOk P w K mg base CX0 2 T.a_is_within T.d_is_within ["value", "least", "most"] (spP (R_is_within K)) := by
  have G_is_integer := ok_is_integer (P := P) (w := w) (base := base) T
  refine T.F_is_within.ok sc_is_within (fun vs H Q E h => ?len) (fun cdv A outer s H vs Q E hr h => ?body)
  case len => exact spP_len h (by rintro _ _ ⟨d, lo, hi, rfl, rfl⟩; rfl)
  case body =>
    obtain ⟨F, Ts, T', e, q, ⟨d, lo, hi, rfl, rfl⟩, hQ⟩ := h
    have s := S.startL (N := N_is_within) (M := []) [some (TD K d), some (TD K (optD lo)), some (TD K (optD hi))] e q
    refine ⟨_, (pss_cons (ps_if (pt_not (pt_val (pe_call G_is_integer (hr.mono (by decide)) (by rfl) T.g_is_integer T.F_is_integer.kp T.b_is_integer .nil pass0 (pa_cons (pv 0) pa_nil))))
      (pss_one (ps_ret pe_bl))
      pss_nil)
      (pss_one (ps_ret (pe_and (pe_or (pe_cmpR op_isA (pv 1) pe_non (nomark _)) (pe_one (pe_cmpR op_leA (pv 1) (pv 0) (nomark _)))) (pe_one (pe_or (pe_cmpR op_isA (pv 2) pe_non (nomark _)) (pe_one (pe_cmpR op_leA (pv 0) (pv 2) (nomark _))))))))), ?_⟩
    try dsimp only [cxOf, Cx.nox, Cx.wish, Cx.blk]
    walk_at "q"
    refine s_if (b := !isIntD d) s ?_ (fun hb H s => ?_) (fun hb H s => ?_)
    · have E := s.envH
      walk_at "et"
    · apply s_ret s
      · walk_at "ev"
      · intro v F H s hv
        refine hQ v F H s.gr.stp ?_
        have e : withinD d lo hi = false := by
          cases d with
          | int i => rw [isIntD_iff.mpr ⟨i, rfl⟩] at hb; cases hb
          | _ => rfl
        rw [e]
        exact hv
    · obtain ⟨i, rfl⟩ := isIntD_iff.mp (by simpa using hb)
      refine s_next ?_
      dsimp only
      refine s_ret (T := TD K (.bool (withinD (.int i) lo hi))) s ?_ fun v F H s hv => hQ v F H s.gr.stp hv
      have E := s.env
      refine ev_andV ?_ fun _ => ?_
      · cases lo with
        | none => exact ev_orV (a := true) (b := false) (ev_op (ev_var E rfl) ev_none rv_isNA) fun z => by cases z
        | some l => exact ev_orV (a := false) (b := decide (l ≤ i)) (ev_op (ev_var E rfl) ev_none rv_isNA) fun _ => ev_op (ev_var E rfl) (ev_var E rfl) rv_le
      · cases hi with
        | none => exact ev_orV (a := true) (b := false) (ev_op (ev_var E rfl) ev_none rv_isNA) fun z => by cases z
        | some l => exact ev_orV (a := false) (b := decide (i ≤ l)) (ev_op (ev_var E rfl) ev_none rv_isNA) fun _ => ev_op (ev_var E rfl) (ev_var E rfl) rv_le
/-! ### is_numbers -/
def R_is_numbers (K : PySem.W.Frag) : List Ty → Ty → Prop := fun Ts T => ∃ d, Ts = [TD K d] ∧ (∀ ds, d = .list ds ∨ d = .tuple ds → ds.length ≤ 100000) ∧ T = TD K (.bool (numsD d).isSome)
theorem ok_is_numbers (T : Txt K mg) : FnOk P w K mg base CX0 2 T.a_is_numbers T.d_is_numbers ["value"] (spP (R_is_numbers K)) := by
  have G_is_integer := ok_is_integer (P := P) (w := w) (base := base) T
  refine T.F_is_numbers.ok sc_is_numbers (fun vs H Q E h => ?len) (fun cdv A outer s H vs Q E hr h => ?body)
  case len => exact spP_len h (by rintro _ _ ⟨d, rfl, _, rfl⟩; rfl)
  case body =>
    obtain ⟨F, Ts, T', e, q, ⟨d, rfl, hl, rfl⟩, hQ⟩ := h
    have s := S.startL (N := N_is_numbers) (M := []) [some (TD K d), none] e q
    refine ⟨_, (pss_one (ps_ret (pe_and (pe_callB call_isiT (by rfl) T.n_isinstance (by decide +kernel) (pa_cons (pv 0) (pa_cons (pe_tup (pa_cons (pe_bltn (v := .ty "list") (by rfl) T.n_list (by decide +kernel) rfl) (pa_cons (pe_bltn (v := .ty "tuple") (by rfl) T.n_tuple (by decide +kernel) rfl) pa_nil))) pa_nil))) (pe_one (pe_callB (cr_all rfl) (by rfl) T.n_all (by decide +kernel) (pa_cons (pe_lc (own := [("number", 1)]) rfl sc_is_numbers.nd (pi_seq (pv 0)) (blkOk_by (own := [("number", 1)]) (N := N_is_numbers) (sc := defScope s_is_numbers) (by decide +kernel)) (fun _ _ _ _ _ => (pg_name (i := 1) sc_is_numbers.nd rfl (.inl rfl))) (fun _ _ _ _ _ => pts_nil) (fun _ _ _ _ _ => (pe_call G_is_integer (hr.mono (by decide)) (by rfl) T.g_is_integer T.F_is_integer.kp T.b_is_integer .nil pass0 (pa_cons (pv 1) pa_nil)))) pa_nil)))))), ?_⟩
    try dsimp only [cxOf, Cx.nox, Cx.wish, Cx.blk]
    have E := s.env
    have key : ∀ ds, (d = .list ds ∨ d = .tuple ds) → (numsD d).isSome = ds.all isIntD := fun ds h => by
      rcases h with rfl | rfl
      · exact (intsD_all ds).symm
      · exact (intsD_all ds).symm
    by_cases hc : ∃ ds, d = .list ds ∨ d = .tuple ds
    · obtain ⟨ds, hd⟩ := hc
      refine s_ret (T := TD K (.bool (numsD d).isSome)) s ?_ fun v F H s hv => hQ v F H s.gr.stp hv
      rw [key ds hd, show ds.all isIntD = (true && (ds.map isIntD).all id) by rw [Bool.true_and, List.all_map]; rfl]
      refine ev_andV ?_ fun _ => ?_
      · refine ev_is (T := TD K (.bool (anyD d ["list", "tuple"]))) ?_ ?_
        · refine ev_cb (Ts := [TD K d, TCls ["list", "tuple"]]) (ea_cons (ev_var E rfl) (ea_cons (ev_cls ["list", "tuple"] (ea_cons ev_ty (ea_cons ev_ty ea_nil)) (by decide)) ea_nil)) (rc_isiT (by decide +kernel))
        · rcases hd with rfl | rfl
          · exact congrArg (fun b => TD K (.bool b)) (by show (["list", "tuple"].any fun n => (kitB "list" n).getD false) = true; decide +kernel)
          · exact congrArg (fun b => TD K (.bool b)) (by show (["list", "tuple"].any fun n => (kitB "tuple" n).getD false) = true; decide +kernel)
      · refine ev_cb (ea_cons ?_ ea_nil) rc_all
        rw [List.map_map]
        refine ev_new (en_map (List.mem_singleton.mpr rfl) ?_ (PyData.bool ∘ isIntD) (hl ds hd) fun d' F' x hd' e' hx => ?_)
        · rcases hd with rfl | rfl
          · exact ei_list (ev_var E rfl)
          · exact ei_tuple (ev_var E rfl)
        · have E := Env.set (i := 1) (show (TD K d').p x F' from hx) ((E.mono e').wipe [1])
          walk_at "ev"
    · refine s_ret (T := TD K (.bool (numsD d).isSome)) s ?_ fun v F H s hv => hQ v F H s.gr.stp hv
      have e1 : (numsD d).isSome = (false && false) := by
        cases d with
        | list ds => exact absurd ⟨ds, .inl rfl⟩ hc
        | tuple ds => exact absurd ⟨ds, .inr rfl⟩ hc
        | _ => rfl
      rw [e1]
      refine ev_andV ?_ fun z => by cases z
      refine ev_is (T := TD K (.bool (anyD d ["list", "tuple"]))) ?_ ?_
      · refine ev_cb (Ts := [TD K d, TCls ["list", "tuple"]]) (ea_cons (ev_var E rfl) (ea_cons (ev_cls ["list", "tuple"] (ea_cons ev_ty (ea_cons ev_ty ea_nil)) (by decide)) ea_nil)) (rc_isiT (by decide +kernel))
      · refine congrArg (fun b => TD K (.bool b)) ?_
        cases d with
        | list ds => exact absurd ⟨ds, .inl rfl⟩ hc
        | tuple ds => exact absurd ⟨ds, .inr rfl⟩ hc
        | none => show (["list", "tuple"].any fun n => (kitB "NoneType" n).getD false) = false; decide +kernel
        | bool b => show (["list", "tuple"].any fun n => (kitB "bool" n).getD false) = false; decide +kernel
        | int b => show (["list", "tuple"].any fun n => (kitB "int" n).getD false) = false; decide +kernel
        | str b => show (["list", "tuple"].any fun n => (kitB "str" n).getD false) = false; decide +kernel
        | dict b => show (["list", "tuple"].any fun n => (kitB "dict" n).getD false) = false; decide +kernel
/-! ### is_counts -/
def R_is_counts (K : PySem.W.Frag) : List Ty → Ty → Prop := fun Ts T => ∃ d, Ts = [TD K d] ∧ smallD d ∧ T = TD K (.bool (isCtD d))
theorem ok_is_counts (T : Txt K mg) : FnOk P w K mg base CX0 3 T.a_is_counts T.d_is_counts ["value"] (spP (R_is_counts K)) := by
  have G_is_numbers := ok_is_numbers (P := P) (w := w) (base := base) T
  refine T.F_is_counts.ok sc_is_counts (fun vs H Q E h => ?len) (fun cdv A outer s H vs Q E hr h => ?body)
  case len => exact spP_len h (by rintro _ _ ⟨d, rfl, _, rfl⟩; rfl)
  case body =>
    obtain ⟨F, Ts, T', e, q, ⟨d, rfl, hl, rfl⟩, hQ⟩ := h
    have s := S.startL (N := N_is_counts) (M := []) [some (TD K d)] e q
    refine ⟨_, (pss_one (ps_ret (pe_and (pe_call G_is_numbers (hr.mono (by decide)) (by rfl) T.g_is_numbers T.F_is_numbers.kp T.b_is_numbers .nil pass0 (pa_cons (pv 0) pa_nil)) (pe_one (pe_or (pe_cmpR (op_eqD hr.units) (pe_callB call_lenA (by rfl) T.n_len (by decide +kernel) (pa_cons (pv 0) pa_nil)) pe_int (nomark _)) (pe_one (pe_cmpR (op_neD hr.units) (pe_ix ix_seq (pv 0) (pe_un un_neg pe_int) (fun _ _ => rfl)) pe_int (nomark _)))))))), ?_⟩
    try dsimp only [cxOf, Cx.nox, Cx.wish, Cx.blk]
    have E := s.env
    refine s_ret (T := TD K (.bool (isCtD d))) s ?_ fun v F H s hv => hQ v F H s.gr.stp hv
    cases en : numsD d with
    | none =>
      have e1 : isCtD d = (false && false) := by unfold isCtD; rw [en]; rfl
      rw [e1]
      refine ev_andV ?_ fun z => by cases z
      exact ev_is (ev_call (ea_cons (ev_var E rfl) ea_nil) ⟨d, rfl, hl, rfl⟩) (by rw [en]; rfl)
    | some ns =>
      have hs := numsD_some en
      have e1 : isCtD d = (true && (decide ((ns.length : Int) = 0) || !decide (Po.co ns (ns.length - 1) = 0))) := by
        rw [hs.ct, ct_iff, Bool.true_and]
      rw [e1]
      refine ev_andV (ev_is (ev_call (ea_cons (ev_var E rfl) ea_nil) ⟨d, rfl, hl, rfl⟩) (by rw [en]; rfl)) fun _ => ?_
      refine ev_orV ?_ fun ho => ?_
      · rw [← eqv_int]
        walk_at "ev"
      · have hne : ns ≠ [] := fun z => by subst z; cases ho
        have hx := atI_lastI hne
        rw [← eqv_int]
        walk_at "ev"
/-! ### _check_counts -/
def R__check_counts (K : PySem.W.Frag) : List Ty → Ty → Prop := fun Ts T => ∃ d n, Ts = [TD K d, TD K (.str n)] ∧ smallD d ∧ isCtD d = true ∧ T = TD K .none
theorem ok__check_counts (T : Txt K mg) : FnOk P w K mg base CX0 4 T.a__check_counts T.d__check_counts ["value", "name"] (spP (R__check_counts K)) := by
  have G_is_counts := ok_is_counts (P := P) (w := w) (base := base) T
  refine T.F__check_counts.ok sc__check_counts (fun vs H Q E h => ?len) (fun cdv A outer s H vs Q E hr h => ?body)
  case len => exact spP_len h (by rintro _ _ ⟨d, n, rfl, _, _, rfl⟩; rfl)
  case body =>
    obtain ⟨F, Ts, T', e, q, ⟨d, n, rfl, hl, hc, rfl⟩, hQ⟩ := h
    have s := S.startL (N := N__check_counts) (M := []) [some (TD K d), some (TD K (.str n))] e q
    refine ⟨_, (pss_one (ps_if (pt_not (pt_val (pe_call G_is_counts (hr.mono (by decide)) (by rfl) T.g_is_counts T.F_is_counts.kp T.b_is_counts .nil pass0 (pa_cons (pv 0) pa_nil))))
      (pss_one ps_never)
      pss_nil)), ?_⟩
    try dsimp only [cxOf, Cx.nox, Cx.wish, Cx.blk]
    refine s_ifF s ?_ fun H s => ?_
    · have E := s.envH
      rw [show false = !isCtD d by rw [hc]; rfl]
      exact et_not (et_B (ev_call (ea_cons (ev_var E rfl) ea_nil) ⟨d, rfl, hl, rfl⟩))
    · exact hQ _ F H s.gr.stp .non
/-! ### _without_end -/
def R__without_end (K : PySem.W.Frag) : List Ty → Ty → Prop := fun Ts T => ∃ d ns, Ts = [TD K d] ∧ SeqI ns d ∧ ns.length ≤ 100000 ∧ T = TD K (tupI (Po.trim ns))
theorem ok__without_end (T : Txt K mg) : FnOk P w K mg base CX0 1 T.a__without_end T.d__without_end ["row"] (spP (R__without_end K)) := by
  skip
  refine T.F__without_end.ok sc__without_end (fun vs H Q E h => ?len) (fun cdv A outer s H vs Q E hr h => ?body)
  case len => exact spP_len h (by rintro _ _ ⟨d, n, rfl, _, _, rfl⟩; rfl)
  case body =>
    obtain ⟨F, Ts, T', e, q, ⟨d, ns, rfl, hd, hl, rfl⟩, hQ⟩ := h
    have s := S.startL (N := N__without_end) (M := []) [some (TD K d), none] e q
    refine ⟨_, (pss_cons (ps_set (i := 1) sc__without_end.nd rfl (.inl rfl) (pe_callB call_lenA (by rfl) T.n_len (by decide +kernel) (pa_cons (pv 0) pa_nil)))
      (pss_cons (ps_while PassesOwn.never (PW.pt (pw_and (pt_cmpR op_gtA (pv 1) pe_int (nomark _)) (pw_and1 (pt_cmpR (op_eqD hr.units) (pe_ix ix_seq (pv 0) (pe_op op_subA (pv 1) pe_int) (fun _ _ => rfl)) pe_int (nomark _)))))
      (pss_one (ps_aug (i := 1) sc__without_end.nd rfl (.inl rfl) pe_int ip_sub)))
      (pss_one (ps_ret (pe_callTy call_tupleA (by rfl) T.n_tuple (by decide +kernel) (pa_cons (pe_slice sl_anyA (pv 0) po_none (po_some (pv 1))) pa_nil)))))), ?_⟩
    try dsimp only [cxOf, Cx.nox, Cx.wish, Cx.blk]
    walk_at "q"
    refine s_asg (T := TD K (.int ns.length)) s ?_ fun v F H s => ?_
    · have E := s.env
      walk_at "ev"
    walk_at "q"
    refine s_while s (fun m ss O => ss = [some (TD K d), some (TD K (.int (m : Nat)))] ∧ O = [] ∧ m ≤ ns.length ∧ ∀ k, m ≤ k → Po.co ns k = 0) ns.length ⟨rfl, rfl, Nat.le_refl _, fun k hk => Po.co_ge hk⟩ fun m σ H1 F1 ss O hI s => ?_
    obtain ⟨rfl, rfl, hm, hz⟩ := hI
    have E := s.envH
    refine ⟨decide ((0 : Int) < m) && decide (Po.co ns (m - 1) = 0), ?_, fun hb H2 s => ?_, fun hb H2 s => ?_⟩
    · refine et_and ?_ fun ha => ?_
      · walk_at "et"
      · have h0 : 0 < m := by have := of_decide_eq_true ha; omega
        have hx := atI_pred hm h0
        rw [← eqv_int]
        walk_at "et"
    · rw [Bool.and_eq_true, decide_eq_true_eq, decide_eq_true_eq] at hb
      refine s_augN (n := 1) (m := m) s rfl (by walk_at "ev") fun H s => ?_
      have em : (m : Int) - 1 = ((m - 1 : Nat) : Int) := by omega
      refine Wt.of (m' := m - 1) (by omega) ⟨?_, rfl, by omega, fun k hk => ?_⟩ s
      · rw [em]; rfl
      · by_cases e : m - 1 = k
        · rw [← e]; exact hb.2
        · exact hz k (by omega)
    · have E := s.env
      have hc : m = 0 ∨ Po.co ns (m - 1) ≠ 0 := by
        by_cases h0 : m = 0
        · exact .inl h0
        · refine .inr fun z => ?_
          rw [decide_eq_true (show (0 : Int) < m by omega), decide_eq_true z] at hb
          cases hb
      dsimp only
      refine s_ret (T := TD K (tupI (Po.trim ns))) s ?_ fun v F H s hv => hQ v F H s.gr.stp hv
      rw [Po.trim_take hz hc]
      have key : ∀ d, SeqI ns d → d = (tupI ns) ∨ d = lstI ns := fun d h => by cases h; exact .inl rfl; exact .inr rfl
      unfold tupI
      rw [← cut_take hm]
      rcases key d hd with rfl | rfl
      · walk_at "ev"
      · walk_at "ev"
/-! ### _added -/
def R__added (K : PySem.W.Frag) : List Ty → Ty → Prop := fun Ts T => ∃ a b d e f, Ts = [TD K d, TD K e, TD K (.int f)] ∧ SeqI a d ∧ SeqI b e ∧ a.length ≤ 10000 ∧ b.length ≤ 10000 ∧ (∀ k, CMulA f (Po.co b k)) ∧ T = TD K (tupI (Po.addC a b f))
theorem ok__added (T : Txt K mg) : FnOk P w K mg base CX0 2 T.a__added T.d__added ["one", "other", "factor"] (spP (R__added K)) := by
  have G__without_end := ok__without_end (P := P) (w := w) (base := base) T
  refine T.F__added.ok sc__added (fun vs H Q E h => ?len) (fun cdv A outer s H vs Q E hr h => ?body)
  case len => exact spP_len h (by rintro _ _ ⟨_, _, _, _, _, rfl, _⟩; rfl)
  case body =>
    obtain ⟨F, Ts, T', e, q, ⟨a, b, d, d2, f, rfl, ha, hb, la, lb, hm, rfl⟩, hQ⟩ := h
    have s := S.startL (N := N__added) (M := []) [some (TD K d), some (TD K d2), some (TD K (.int f)), none, none, none] e q
    refine ⟨_, (pss_cons (ps_set (i := 3) sc__added.nd rfl (.inl rfl) (pe_op op_addA (pe_callTy call_listA (by rfl) T.n_list (by decide +kernel) (pa_cons (pv 0) pa_nil)) (pe_op op_mulAll (pe_lst (pa_cons pe_int pa_nil)) (pe_op op_subA (pe_callB call_lenA (by rfl) T.n_len (by decide +kernel) (pa_cons (pv 1) pa_nil)) (pe_callB call_lenA (by rfl) T.n_len (by decide +kernel) (pa_cons (pv 0) pa_nil))))))
      (pss_cons (ps_for PassesOwn.never rfl (pi_enumA (by rfl) T.n_enumerate (pa_cons (pv 1) pa_nil)) (pg_tup rfl (pgs_cons (pg_name (i := 4) sc__added.nd rfl (.inl rfl)) (pgs_cons (pg_name (i := 5) sc__added.nd rfl (.inl rfl)) pgs_nil)))
      (pss_one (ps_augS (pv 3) (pv 4) get_list (pe_op op_mulAll (pv 2) (pv 5)) ip_add set_list)))
      (pss_one (ps_ret (pe_call G__without_end (hr.mono (by decide)) (by rfl) T.g__without_end T.F__without_end.kp T.b__without_end .nil pass0 (pa_cons (pv 3) pa_nil)))))), ?_⟩
    try dsimp only [cxOf, Cx.nox, Cx.wish, Cx.blk]
    walk_at "q"
    refine s_ownI (K := K) (ns := a ++ List.replicate ((b.length : Int) - (a.length : Int)).toNat 0) s ?_ fun p F H s hp => ?_
    · have E := s.env
      refine en_is (ds := a.map .int ++ (List.replicate ((b.length : Int) - (a.length : Int)).toNat [PyData.int 0]).flatten) ?_ (by rw [rep_ints, List.map_append])
      refine en_op (ev_new (en_cb (ea_cons (ev_var E rfl) ea_nil) (rn_list ha))) (ev_new (en_repB (en_lstT (ea_cons ev_int ea_nil) (.cons .nil) (by decide)) ?_ (by omega) (by simp; omega))) (rn_catL (by rw [rep_ints, List.length_map, List.length_map, List.length_replicate]; omega))
      walk_at "ev"
    walk_at "q"
    refine s_for s (ei_enum hb (ev_var s.env rfl)) (fun i ss O => ∃ x1 x2 row, ss = [some (TD K d), some (TD K d2), some (TD K (.int f)), some (TX (.ref p)), x1, x2] ∧ O = [(p, .lst (row.map V.int))] ∧ row.length = max a.length b.length ∧ ∀ k, Po.co row k = Po.co a k + if k < i then f * Po.co b k else 0)
      ⟨_, _, _, rfl, rfl, by rw [List.length_append, List.length_replicate]; omega, fun k => ?_⟩ (fun Fw i dd x σ F H ss O hdd hI s hx => ?_) (fun σ F H ss O hI s => ?_)
    · rw [if_neg (Nat.not_lt_zero _), Po.co_app]
      split
      · omega
      · rw [Po.co_rep, Po.co_ge (a := a) (by omega)]; rfl
    · obtain ⟨x1, x2, row, rfl, rfl, lr, hr⟩ := hI
      obtain ⟨hi, rfl⟩ := enum_ints hdd
      refine g_tup2 s hx fun v w s => ?_
      refine s_augI (j := i) (m := Po.co row i) (n := f * Po.co b i) (k := 0) s rfl rfl (ev_var s.envH rfl) (ints_get (by omega)) (fun H' e' => ?_) fun H s => ?_
      · have E := s.envH.mono e'
        have := hm i
        walk_at "ev"
      · dsimp only
        refine Bt.of ⟨_, _, row.set i (Po.co row i + f * Po.co b i), rfl, by rw [← ints_set]; rfl, by rw [List.length_set]; exact lr, fun k => ?_⟩ s
        rw [Po.co_set (by omega), hr k]
        by_cases e : i = k
        · subst e
          rw [if_pos rfl, if_pos (by omega), hr i, if_neg (by omega)]
          omega
        · rw [if_neg e]
          by_cases h1 : k < i
          · rw [if_pos h1, if_pos (by omega)]
          · rw [if_neg h1, if_neg (by omega)]
    · obtain ⟨x1, x2, row, rfl, rfl, lr, hr⟩ := hI
      have s := s.freezeI (j := 0) (K := K) (ns := row) (i := 3) rfl hp rfl
      dsimp only
      refine s_ret (T := TD K (tupI (Po.addC a b f))) s ?_ ?_
      · have E := s.env
        refine ev_call (ea_cons (ev_var E rfl) ea_nil) ⟨_, row, rfl, .l row, by omega, ?_⟩
        rw [show Po.addC a b f = Po.trim row from ?_]
        rw [show Po.addC a b f = Po.trim (Po.addC a b f) from (Po.ct_addC).symm]
        refine Po.trim_eq fun k => ?_
        rw [Po.co_addC, hr k, enumD_len, List.length_map]
        split
        · rfl
        · rw [Po.co_ge (a := b) (by omega), Int.mul_zero]
      · exact fun v F H s hv => hQ v F H s.gr.stp hv
/-! ### plus -/
def R_plus (K : PySem.W.Frag) : List Ty → Ty → Prop := fun Ts T => ∃ a b d e, Ts = [TD K d, TD K e] ∧ SeqI a d ∧ SeqI b e ∧ Po.Ct a ∧ Po.Ct b ∧ a.length ≤ 10000 ∧ b.length ≤ 10000 ∧ T = TD K (tupI (Po.addC a b (1)))
theorem ok_plus (T : Txt K mg) : FnOk P w K mg base CX0 5 T.a_plus T.d_plus ["one", "other"] (spP (R_plus K)) := by
  have G__check_counts := ok__check_counts (P := P) (w := w) (base := base) T
  have G__added := ok__added (P := P) (w := w) (base := base) T
  refine T.F_plus.ok sc_plus (fun vs H Q E h => ?len) (fun cdv A outer s H vs Q E hr h => ?body)
  case len => exact spP_len h (by rintro _ _ ⟨_, _, _, _, rfl, _⟩; rfl)
  case body =>
    obtain ⟨F, Ts, T', e, q, ⟨a, b, d, d2, rfl, ha, hb, ca, cb, la, lb, rfl⟩, hQ⟩ := h
    have s := S.startL (N := N_plus) (M := []) [some (TD K d), some (TD K d2)] e q
    refine ⟨_, (pss_cons (ps_expr (pe_call G__check_counts (hr.mono (by decide)) (by rfl) T.g__check_counts T.F__check_counts.kp T.b__check_counts .nil pass0 (pa_cons (pv 0) (pa_cons pe_str pa_nil))))
      (pss_cons (ps_expr (pe_call G__check_counts (hr.mono (by decide)) (by rfl) T.g__check_counts T.F__check_counts.kp T.b__check_counts .nil pass0 (pa_cons (pv 1) (pa_cons pe_str pa_nil))))
      (pss_one (ps_ret (pe_call G__added (hr.mono (by decide)) (by rfl) T.g__added T.F__added.kp T.b__added .nil pass0 (pa_cons (pv 0) (pa_cons (pv 1) (pa_cons pe_int pa_nil)))))))), ?_⟩
    try dsimp only [cxOf, Cx.nox, Cx.wish, Cx.blk]
    walk_at "q"
    refine s_drop s (ev_call (ea_cons (ev_var s.env rfl) (ea_cons ev_str ea_nil)) ⟨d, _, rfl, ha.small (by omega), by rw [ha.ct]; exact decide_eq_true ca, rfl⟩) fun H F s => ?_
    walk_at "q"
    refine s_drop s (ev_call (ea_cons (ev_var s.env rfl) (ea_cons ev_str ea_nil)) ⟨d2, _, rfl, hb.small (by omega), by rw [hb.ct]; exact decide_eq_true cb, rfl⟩) fun H F s => ?_
    dsimp only
    refine s_ret (T := TD K (tupI (Po.addC a b (1)))) s ?_ ?_
    · have E := s.env
      refine ev_call (ea_cons (ev_var E rfl) (ea_cons (ev_var E rfl) (ea_cons ?_ ea_nil))) ⟨a, b, d, d2, (1), rfl, ha, hb, la, lb, fun k => .inl (.inl (by decide)), rfl⟩
      walk_at "ev"
    · exact fun v F H s hv => hQ v F H s.gr.stp hv
/-! ### less -/
def R_less (K : PySem.W.Frag) : List Ty → Ty → Prop := fun Ts T => ∃ a b d e, Ts = [TD K d, TD K e] ∧ SeqI a d ∧ SeqI b e ∧ Po.Ct a ∧ Po.Ct b ∧ a.length ≤ 10000 ∧ b.length ≤ 10000 ∧ T = TD K (tupI (Po.addC a b (-1)))
theorem ok_less (T : Txt K mg) : FnOk P w K mg base CX0 5 T.a_less T.d_less ["one", "other"] (spP (R_less K)) := by
  have G__check_counts := ok__check_counts (P := P) (w := w) (base := base) T
  have G__added := ok__added (P := P) (w := w) (base := base) T
  refine T.F_less.ok sc_less (fun vs H Q E h => ?len) (fun cdv A outer s H vs Q E hr h => ?body)
  case len => exact spP_len h (by rintro _ _ ⟨_, _, _, _, rfl, _⟩; rfl)
  case body =>
    obtain ⟨F, Ts, T', e, q, ⟨a, b, d, d2, rfl, ha, hb, ca, cb, la, lb, rfl⟩, hQ⟩ := h
    have s := S.startL (N := N_less) (M := []) [some (TD K d), some (TD K d2)] e q
    refine ⟨_, (pss_cons (ps_expr (pe_call G__check_counts (hr.mono (by decide)) (by rfl) T.g__check_counts T.F__check_counts.kp T.b__check_counts .nil pass0 (pa_cons (pv 0) (pa_cons pe_str pa_nil))))
      (pss_cons (ps_expr (pe_call G__check_counts (hr.mono (by decide)) (by rfl) T.g__check_counts T.F__check_counts.kp T.b__check_counts .nil pass0 (pa_cons (pv 1) (pa_cons pe_str pa_nil))))
      (pss_one (ps_ret (pe_call G__added (hr.mono (by decide)) (by rfl) T.g__added T.F__added.kp T.b__added .nil pass0 (pa_cons (pv 0) (pa_cons (pv 1) (pa_cons (pe_un un_neg pe_int) pa_nil)))))))), ?_⟩
    try dsimp only [cxOf, Cx.nox, Cx.wish, Cx.blk]
    walk_at "q"
    refine s_drop s (ev_call (ea_cons (ev_var s.env rfl) (ea_cons ev_str ea_nil)) ⟨d, _, rfl, ha.small (by omega), by rw [ha.ct]; exact decide_eq_true ca, rfl⟩) fun H F s => ?_
    walk_at "q"
    refine s_drop s (ev_call (ea_cons (ev_var s.env rfl) (ea_cons ev_str ea_nil)) ⟨d2, _, rfl, hb.small (by omega), by rw [hb.ct]; exact decide_eq_true cb, rfl⟩) fun H F s => ?_
    dsimp only
    refine s_ret (T := TD K (tupI (Po.addC a b (-1)))) s ?_ ?_
    · have E := s.env
      refine ev_call (ea_cons (ev_var E rfl) (ea_cons (ev_var E rfl) (ea_cons ?_ ea_nil))) ⟨a, b, d, d2, (-1), rfl, ha, hb, la, lb, fun k => .inl (.inl (by decide)), rfl⟩
      walk_at "ev"
    · exact fun v F H s hv => hQ v F H s.gr.stp hv
/-! ### times -/
def R_times (K : PySem.W.Frag) : List Ty → Ty → Prop := fun Ts T => ∃ a b d e, Ts = [TD K d, TD K e] ∧ SeqI a d ∧ SeqI b e ∧ Po.Ct a ∧ Po.Ct b ∧ a.length ≤ 10000 ∧ b.length ≤ 10000 ∧ (∀ i j, CMulA (Po.co a i) (Po.co b j)) ∧ T = TD K (tupI (Po.mulC a b))
theorem ok_times (T : Txt K mg) : FnOk P w K mg base CX0 5 T.a_times T.d_times ["one", "other"] (spP (R_times K)) := by
  have G__check_counts := ok__check_counts (P := P) (w := w) (base := base) T
  have G__without_end := ok__without_end (P := P) (w := w) (base := base) T
  refine T.F_times.ok sc_times (fun vs H Q E h => ?len) (fun cdv A outer s H vs Q E hr h => ?body)
  case len => exact spP_len h (by rintro _ _ ⟨_, _, _, _, rfl, _⟩; rfl)
  case body =>
    obtain ⟨F, Ts, T', e, q, ⟨a, b, d, d2, rfl, ha, hb, ca, cb, la, lb, hm, rfl⟩, hQ⟩ := h
    have s := S.startL (N := N_times) (M := []) [some (TD K d), some (TD K d2), none, none, none, none, none] e q
    refine ⟨_, (pss_cons (ps_expr (pe_call G__check_counts (hr.mono (by decide)) (by rfl) T.g__check_counts T.F__check_counts.kp T.b__check_counts .nil pass0 (pa_cons (pv 0) (pa_cons pe_str pa_nil))))
      (pss_cons (ps_expr (pe_call G__check_counts (hr.mono (by decide)) (by rfl) T.g__check_counts T.F__check_counts.kp T.b__check_counts .nil pass0 (pa_cons (pv 1) (pa_cons pe_str pa_nil))))
      (pss_cons (ps_set (i := 2) sc_times.nd rfl (.inl rfl) (pe_op op_mulAll (pe_lst (pa_cons pe_int pa_nil)) (pe_op op_addA (pe_callB call_lenA (by rfl) T.n_len (by decide +kernel) (pa_cons (pv 0) pa_nil)) (pe_callB call_lenA (by rfl) T.n_len (by decide +kernel) (pa_cons (pv 1) pa_nil)))))
      (pss_cons (ps_for PassesOwn.never rfl (pi_enumA (by rfl) T.n_enumerate (pa_cons (pv 0) pa_nil)) (pg_tup rfl (pgs_cons (pg_name (i := 3) sc_times.nd rfl (.inl rfl)) (pgs_cons (pg_name (i := 4) sc_times.nd rfl (.inl rfl)) pgs_nil)))
      (pss_one (ps_for PassesOwn.never rfl (pi_enumA (by rfl) T.n_enumerate (pa_cons (pv 1) pa_nil)) (pg_tup rfl (pgs_cons (pg_name (i := 5) sc_times.nd rfl (.inl rfl)) (pgs_cons (pg_name (i := 6) sc_times.nd rfl (.inl rfl)) pgs_nil)))
      (pss_one (ps_augS (pv 2) (pe_op op_addA (pv 3) (pv 5)) get_list (pe_op op_mulAll (pv 4) (pv 6)) ip_add set_list)))))
      (pss_one (ps_ret (pe_call G__without_end (hr.mono (by decide)) (by rfl) T.g__without_end T.F__without_end.kp T.b__without_end .nil pass0 (pa_cons (pv 2) pa_nil)))))))), ?_⟩
    try dsimp only [cxOf, Cx.nox, Cx.wish, Cx.blk]
    walk_at "q"
    refine s_drop s (ev_call (ea_cons (ev_var s.env rfl) (ea_cons ev_str ea_nil)) ⟨d, _, rfl, ha.small (by omega), by rw [ha.ct]; exact decide_eq_true ca, rfl⟩) fun H F s => ?_
    walk_at "q"
    refine s_drop s (ev_call (ea_cons (ev_var s.env rfl) (ea_cons ev_str ea_nil)) ⟨d2, _, rfl, hb.small (by omega), by rw [hb.ct]; exact decide_eq_true cb, rfl⟩) fun H F s => ?_
    walk_at "q"
    refine s_ownI (K := K) (ns := List.replicate ((a.length : Int) + (b.length : Int)).toNat 0) s ?_ fun p F H s hp => ?_
    · have E := s.env
      refine en_is ?_ rep_ints
      refine en_repB (en_lstT (ea_cons ev_int ea_nil) (.cons .nil) (by decide)) ?_ (by omega) (by simp; omega)
      walk_at "ev"
    walk_at "q"
    refine s_for s (ei_enum ha (ev_var s.env rfl)) (fun i ss O => ∃ x1 x2 x3 x4 row, ss = [some (TD K d), some (TD K d2), some (TX (.ref p)), x1, x2, x3, x4] ∧ O = [(p, .lst (row.map V.int))] ∧ row.length = a.length + b.length ∧ ∀ k, Po.co row k = Po.cv i (Po.co a) (Po.co b) k)
      ⟨_, _, _, _, _, rfl, rfl, by rw [List.length_replicate]; omega, fun k => ?_⟩ (fun Fw i dd x σ F H ss O hdd hI s hx => ?_) (fun σ F H ss O hI s => ?_)
    · rw [Po.co_rep]; rfl
    · obtain ⟨x1, x2, x3, x4, row, rfl, rfl, lr, hr⟩ := hI
      obtain ⟨hi, rfl⟩ := enum_ints hdd
      refine g_tup2 s hx fun v w s => ?_
      refine s_for s (ei_enum hb (ev_var s.env rfl)) (fun j ss O => ∃ x3 x4 row, ss = [some (TD K d), some (TD K d2), some (TX (.ref p)), some (TD K (.int (i : Nat))), some (TD K (.int (Po.co a i))), x3, x4] ∧ O = [(p, .lst (row.map V.int))] ∧ row.length = a.length + b.length ∧ ∀ k, Po.co row k = Po.cv i (Po.co a) (Po.co b) k + if i ≤ k ∧ k - i < j then Po.co a i * Po.co b (k - i) else 0)
        ⟨_, _, row, rfl, rfl, lr, fun k => ?_⟩ (fun Fw2 j dd x σ F H ss O hdd hI s hx => ?_) (fun σ F H ss O hI s => ?_)
      · rw [if_neg (by omega), hr k]; omega
      · obtain ⟨x3, x4, row, rfl, rfl, lr, hr⟩ := hI
        obtain ⟨hj, rfl⟩ := enum_ints hdd
        refine g_tup2 s hx fun v w s => ?_
        refine s_augI (j := i + j) (m := Po.co row (i + j)) (n := Po.co a i * Po.co b j) (k := 0) s rfl rfl ?_ (ints_get (by omega)) (fun H' e' => ?_) fun H s => ?_
        · refine ev_is (ev_op (ev_var s.envH rfl) (ev_var s.envH rfl) rv_add) ?_
          rw [Int.natCast_add]
        · have E := s.envH.mono e'
          have := hm i j
          walk_at "ev"
        · dsimp only
          refine Bt.of ⟨_, _, row.set (i + j) (Po.co row (i + j) + Po.co a i * Po.co b j), rfl, by rw [← ints_set]; rfl, by rw [List.length_set]; exact lr, fun k => ?_⟩ s
          rw [Po.co_set (by omega), hr k, hr (i + j)]
          by_cases e : i + j = k
          · subst e
            rw [if_pos rfl, show i + j - i = j by omega, if_neg (by omega), if_pos (by omega)]
            omega
          · rw [if_neg e]
            by_cases h1 : i ≤ k ∧ k - i < j
            · rw [if_pos h1, if_pos (by omega)]
            · rw [if_neg h1, if_neg (by omega)]
      · obtain ⟨x3, x4, row, rfl, rfl, lr, hr⟩ := hI
        dsimp only
        refine Bt.of ⟨_, _, _, _, row, rfl, rfl, lr, fun k => ?_⟩ s
        · rw [hr k]
          show _ = Po.cv i (Po.co a) (Po.co b) k + (if i ≤ k then Po.co a i * Po.co b (k - i) else 0)
          by_cases h1 : i ≤ k
          · rw [if_pos h1]
            split
            · rfl
            · rename_i h2
              rw [Po.co_ge (a := b) (by rw [enumD_len, List.length_map] at h2; omega), Int.mul_zero]
          · rw [if_neg h1, if_neg (by omega)]
    · obtain ⟨x1, x2, x3, x4, row, rfl, rfl, lr, hr⟩ := hI
      have s := s.freezeI (j := 0) (K := K) (ns := row) (i := 2) rfl hp rfl
      dsimp only
      refine s_ret (T := TD K (tupI (Po.mulC a b))) s ?_ ?_
      · have E := s.env
        refine ev_call (ea_cons (ev_var E rfl) ea_nil) ⟨_, row, rfl, .l row, by omega, ?_⟩
        rw [show Po.mulC a b = Po.trim row from ?_]
        rw [show Po.mulC a b = Po.trim (Po.mulC a b) from (Po.ct_mulC).symm]
        refine Po.trim_eq fun k => ?_
        rw [Po.co_mulC, hr k, enumD_len, List.length_map]
      · exact fun v F H s hv => hQ v F H s.gr.stp hv
/-! ### moved -/
def R_moved (K : PySem.W.Frag) : List Ty → Ty → Prop := fun Ts T => ∃ (a : List Int) (d : PyData) (n : Nat), Ts = [TD K d, TD K (.int (n : Int))] ∧ SeqI a d ∧ Po.Ct a ∧ a.length ≤ 10000 ∧ n ≤ 1000 ∧ T = TD K (tupI (Po.movC n a))
theorem ok_moved (T : Txt K mg) : FnOk P w K mg base CX0 5 T.a_moved T.d_moved ["counts", "number"] (spP (R_moved K)) := by
  have G__check_counts := ok__check_counts (P := P) (w := w) (base := base) T
  have G_is_within := ok_is_within (P := P) (w := w) (base := base) T
  refine T.F_moved.ok sc_moved (fun vs H Q E h => ?len) (fun cdv A outer s H vs Q E hr h => ?body)
  case len => exact spP_len h (by rintro _ _ ⟨_, _, _, rfl, _⟩; rfl)
  case body =>
    obtain ⟨F, Ts, T', e, q, ⟨a, d, n, rfl, ha, ca, la, hn, rfl⟩, hQ⟩ := h
    have s := S.startL (N := N_moved) (M := []) [some (TD K d), some (TD K (.int (n : Int)))] e q
    refine ⟨_, (pss_cons (ps_expr (pe_call G__check_counts (hr.mono (by decide)) (by rfl) T.g__check_counts T.F__check_counts.kp T.b__check_counts .nil pass0 (pa_cons (pv 0) (pa_cons pe_str pa_nil))))
      (pss_cons (ps_if (pt_not (pt_val (pe_call G_is_within (hr.mono (by decide)) (by rfl) T.g_is_within T.F_is_within.kp T.b_is_within .nil pass0 (pa_cons (pv 1) (pa_cons pe_int (pa_cons pe_non pa_nil))))))
      (pss_one ps_never)
      pss_nil)
      (pss_cons (ps_if (pt_cmpR (op_eqD hr.units) (pe_callB call_lenA (by rfl) T.n_len (by decide +kernel) (pa_cons (pv 0) pa_nil)) pe_int (nomark _))
      (pss_one (ps_ret (pe_tup pa_nil)))
      pss_nil)
      (pss_one (ps_ret (pe_op op_addA (pe_op op_mulAll (pe_tup (pa_cons pe_int pa_nil)) (pv 1)) (pe_callTy call_tupleA (by rfl) T.n_tuple (by decide +kernel) (pa_cons (pv 0) pa_nil)))))))), ?_⟩
    try dsimp only [cxOf, Cx.nox, Cx.wish, Cx.blk]
    walk_at "q"
    refine s_drop s (ev_call (ea_cons (ev_var s.env rfl) (ea_cons ev_str ea_nil)) ⟨d, _, rfl, ha.small (by omega), by rw [ha.ct]; exact decide_eq_true ca, rfl⟩) fun H F s => ?_
    walk_at "q"
    refine s_ifF s ?_ fun H s => s_next ?_
    · refine et_is (et_not (et_B (ev_call (ea_cons (ev_var s.envH rfl) (ea_cons ev_int (ea_cons ev_none ea_nil))) ⟨.int n, some 0, none, rfl, rfl⟩))) ?_
      have : decide ((0 : Int) ≤ n) = true := decide_eq_true (by omega)
      simp [withinD, this]
    walk_at "q"
    refine s_if (b := decide ((a.length : Int) = 0)) s ?_ (fun hb H s => ?_) (fun hb H s => s_next ?_)
    · have E := s.envH
      rw [← eqv_int]
      walk_at "et"
    · have e0 : a = [] := List.eq_nil_of_length_eq_zero (by have := of_decide_eq_true hb; omega)
      refine s_ret (T := TD K (tupI (Po.movC n a))) s ?_ ?_
      · exact ev_is (ev_tupT ea_nil .nil (by decide)) (by rw [e0]; rfl)
      · exact fun v F H s hv => hQ v F H s.gr.stp hv
    · have e0 : a ≠ [] := fun z => by subst z; cases hb
      dsimp only
      refine s_ret (T := TD K (tupI (Po.movC n a))) s ?_ ?_
      · have E := s.env
        refine ev_is (ev_op (ev_op (ev_tupT (ea_cons ev_int ea_nil) (.cons .nil) (by decide)) (ev_var E rfl) (rv_repT (by omega) (by decide))) (ev_cb (ea_cons (ev_var E rfl) ea_nil) (rc_tuple ha)) (rv_catT (by rw [rep_ints, List.length_map, List.length_map, List.length_replicate]; omega))) ?_
        unfold Po.movC tupI
        rw [if_neg e0, List.map_append, Int.toNat_natCast, rep_ints]
      · exact fun v F H s hv => hQ v F H s.gr.stp hv
/-! ### divided -/
def R_divided (K : PySem.W.Frag) : List Ty → Ty → Prop := fun Ts T => ∃ c b d e, Ts = [TD K d, TD K e] ∧ SeqI c d ∧ SeqI b e ∧ Po.Ct c ∧ Po.Ct b ∧ b ≠ [] ∧ c.length ≤ 10000 ∧ b.length ≤ 10000 ∧ (∀ k, (Po.co b k).natAbs < 1073741824) ∧ T = TD K (.tuple [tupI (Po.divC c b).1, tupI (Po.divC c b).2])
theorem ok_divided (T : Txt K mg) : FnOk P w K mg base CX0 5 T.a_divided T.d_divided ["counts", "by"] (spP (R_divided K)) := by
  have G__check_counts := ok__check_counts (P := P) (w := w) (base := base) T
  have G__without_end := ok__without_end (P := P) (w := w) (base := base) T
  have G_is_counts := ok_is_counts (P := P) (w := w) (base := base) T
  refine T.F_divided.ok sc_divided (fun vs H Q E h => ?len) (fun cdv A outer s H vs Q E hr h => ?body)
  case len => exact spP_len h (by rintro _ _ ⟨_, _, _, _, rfl, _⟩; rfl)
  case body =>
    obtain ⟨F, Ts, T', e, q, ⟨c, b, d, d2, rfl, hc, hb, cc, cb, hne, lc, lb, hm, rfl⟩, hQ⟩ := h
    have s := S.startL (N := N_divided) (M := []) [some (TD K d), some (TD K d2), none, none, none, none, none, none] e q
    have lb0 : 0 < b.length := List.length_pos_iff.mpr hne
    have hbl : Po.lastC b ≠ 0 := Po.ct_last cb hne
    have hbx : atI b (-1) = some (Po.lastC b) := atI_lastI hne
    refine ⟨_, (pss_cons (ps_expr (pe_call G__check_counts (hr.mono (by decide)) (by rfl) T.g__check_counts T.F__check_counts.kp T.b__check_counts .nil pass0 (pa_cons (pv 0) (pa_cons pe_str pa_nil))))
      (pss_cons (ps_if (PW.pt (pw_or (pt_not (pt_val (pe_call G_is_counts (hr.mono (by decide)) (by rfl) T.g_is_counts T.F_is_counts.kp T.b_is_counts .nil pass0 (pa_cons (pv 1) pa_nil)))) (pw_or1 (pt_cmpR (op_eqD hr.units) (pe_callB call_lenA (by rfl) T.n_len (by decide +kernel) (pa_cons (pv 1) pa_nil)) pe_int (nomark _)))))
      (pss_one ps_never)
      pss_nil)
      (pss_cons (ps_set (i := 2) sc_divided.nd rfl (.inl rfl) (pe_callTy call_listA (by rfl) T.n_list (by decide +kernel) (pa_cons (pv 0) pa_nil)))
      (pss_cons (ps_set (i := 3) sc_divided.nd rfl (.inl rfl) (pe_op op_mulAll (pe_lst (pa_cons pe_int pa_nil)) (pe_op op_addA (pe_op op_subA (pe_callB call_lenA (by rfl) T.n_len (by decide +kernel) (pa_cons (pv 0) pa_nil)) (pe_callB call_lenA (by rfl) T.n_len (by decide +kernel) (pa_cons (pv 1) pa_nil))) pe_int)))
      (pss_cons (ps_while PassesOwn.never (PW.pt (pw_and (pt_cmpR op_geA (pe_callB call_lenA (by rfl) T.n_len (by decide +kernel) (pa_cons (pv 2) pa_nil)) (pe_callB call_lenA (by rfl) T.n_len (by decide +kernel) (pa_cons (pv 1) pa_nil)) (nomark _)) (pw_and1 (pt_cmpR (op_eqD hr.units) (pe_op op_modA (pe_ix ix_seq (pv 2) (pe_un un_neg pe_int) (fun _ _ => rfl)) (pe_ix ix_seq (pv 1) (pe_un un_neg pe_int) (fun _ _ => rfl))) pe_int (nomark _)))))
      (pss_cons (ps_set (i := 4) sc_divided.nd rfl (.inl rfl) (pe_op op_subA (pe_callB call_lenA (by rfl) T.n_len (by decide +kernel) (pa_cons (pv 2) pa_nil)) (pe_callB call_lenA (by rfl) T.n_len (by decide +kernel) (pa_cons (pv 1) pa_nil))))
      (pss_cons (ps_set (i := 5) sc_divided.nd rfl (.inl rfl) (pe_op op_divA (pe_ix ix_seq (pv 2) (pe_un un_neg pe_int) (fun _ _ => rfl)) (pe_ix ix_seq (pv 1) (pe_un un_neg pe_int) (fun _ _ => rfl))))
      (pss_cons (ps_asg (pv 5) (pg_sub (pv 3) (pv 4) set_list))
      (pss_cons (ps_for PassesOwn.never rfl (pi_enumA (by rfl) T.n_enumerate (pa_cons (pv 1) pa_nil)) (pg_tup rfl (pgs_cons (pg_name (i := 6) sc_divided.nd rfl (.inl rfl)) (pgs_cons (pg_name (i := 7) sc_divided.nd rfl (.inl rfl)) pgs_nil)))
      (pss_one (ps_augS (pv 2) (pe_op op_addA (pv 4) (pv 6)) get_list (pe_op op_mulAll (pv 5) (pv 7)) ip_sub set_list)))
      (pss_one (ps_while PassesOwn.never (PW.pt (pw_and (pt_cmpR op_gtA (pe_callB call_lenA (by rfl) T.n_len (by decide +kernel) (pa_cons (pv 2) pa_nil)) pe_int (nomark _)) (pw_and1 (pt_cmpR (op_eqD hr.units) (pe_ix ix_seq (pv 2) (pe_un un_neg pe_int) (fun _ _ => rfl)) pe_int (nomark _)))))
      (pss_one (ps_expr (pe_bm0 PySem.F.plainAttrs_list PySem.F.slot_list_pop PySem.F.type_list_pop mt_pop (pv 2)))))))))))
      (pss_one (ps_ret (pe_tup (pa_cons (pe_call G__without_end (hr.mono (by decide)) (by rfl) T.g__without_end T.F__without_end.kp T.b__without_end .nil pass0 (pa_cons (pv 3) pa_nil)) (pa_cons (pe_callTy call_tupleA (by rfl) T.n_tuple (by decide +kernel) (pa_cons (pv 2) pa_nil)) pa_nil)))))))))), ?_⟩
    try dsimp only [cxOf, Cx.nox, Cx.wish, Cx.blk]
    walk_at "q"
    refine s_drop s (ev_call (ea_cons (ev_var s.env rfl) (ea_cons ev_str ea_nil)) ⟨d, _, rfl, hc.small (by omega), by rw [hc.ct]; exact decide_eq_true cc, rfl⟩) fun H F s => ?_
    walk_at "q"
    refine s_ifF s ?_ fun H s => s_next ?_
    · have E := s.envH
      refine et_is (et_or (b := decide ((b.length : Int) = 0)) (et_not (et_B (ev_call (ea_cons (ev_var E rfl) ea_nil) ⟨d2, rfl, hb.small (by omega), rfl⟩))) fun _ => ?_) ?_
      · rw [← eqv_int]
        walk_at "et"
      · rw [hb.ct, decide_eq_true cb, decide_eq_false (by omega)]; rfl
    walk_at "q"
    refine s_ownI (K := K) (ns := c) s ?_ fun pl F H s hpl => ?_
    · have E := s.env
      walk_at "en"
    walk_at "q"
    refine s_ownI (K := K) (ns := List.replicate ((c.length : Int) - (b.length : Int) + 1).toNat 0) s ?_ fun pq F H s hpq => ?_
    · have E := s.env
      refine en_is ?_ rep_ints
      refine en_repB (en_lstT (ea_cons ev_int ea_nil) (.cons .nil) (by decide)) ?_ (by omega) (by simp; omega)
      walk_at "ev"
    walk_at "q"
    refine s_while s (fun m ss O => ∃ x4 x5 x6 x7 q l, ss = [some (TD K d), some (TD K d2), some (TX (.ref pl)), some (TX (.ref pq)), x4, x5, x6, x7] ∧ O = [(pq, .lst (q.map V.int)), (pl, .lst (l.map V.int))] ∧
        l.length < m ∧ Po.Dv c b q l ∧ Po.divGo m l q b = Po.divGo (c.length + 1) c (List.replicate ((c.length : Int) - (b.length : Int) + 1).toNat 0) b) (c.length + 1)
      ⟨_, _, _, _, _, _, rfl, rfl, Nat.lt_succ_self _, Po.Dv.start cc hne, rfl⟩ fun m σ H1 F1 ss O hI s => ?_
    obtain ⟨x4, x5, x6, x7, q, l, rfl, rfl, hm1, D, hgo⟩ := hI
    have lel := D.lel
    refine ⟨decide ((b.length : Int) ≤ l.length) && decide ((Po.lastC l).fmod (Po.lastC b) = 0), ?_, fun ht H s => ?_, fun ht H s => ?_⟩
    · have E := s.lookI (K := K) (i := 2) (k := 1) (ns := l) s.envH rfl rfl
      have hl := SeqI.l l
      refine et_and ?_ fun ha => ?_
      · walk_at "et"
      · have hle : (b.length : Int) ≤ l.length := of_decide_eq_true ha
        have hlx : atI l (-1) = some (Po.lastC l) := atI_lastI (fun z => by rw [z, List.length_nil] at hle; omega)
        rw [← eqv_int]
        walk_at "et"
    · rw [Bool.and_eq_true, decide_eq_true_eq, decide_eq_true_eq] at ht
      obtain ⟨hle, hdv⟩ := ht
      have hlx : atI l (-1) = some (Po.lastC l) := atI_lastI (fun z => by rw [z, List.length_nil] at hle; omega)
      obtain ⟨D2, hlt, hsq⟩ := D.step cb hne (by omega) hdv
      have es : (l.length : Int) - (b.length : Int) = ((l.length - b.length : Nat) : Int) := by omega
      walk_at "q"
      refine s_asgI (K := K) (n := ((l.length - b.length : Nat) : Int)) s ?_ fun H s => ?_
      · have E := s.lookI (K := K) (i := 2) (k := 1) (ns := l) s.envH rfl rfl
        have hl := SeqI.l l
        rw [← es]
        walk_at "ev"
      walk_at "q"
      refine s_asgI (K := K) (n := (Po.lastC l).fdiv (Po.lastC b)) s ?_ fun H s => ?_
      · have E := s.lookI (K := K) (i := 2) (k := 1) (ns := l) s.envH rfl rfl
        have hl := SeqI.l l
        have hd0 : Po.lastC b ≠ 0 ∧ (Po.lastC b).natAbs < 1073741824 := ⟨hbl, hm _⟩
        walk_at "ev"
      walk_at "q"
      refine s_setI (K := K) (i := 3) (k := 0) (j := l.length - b.length) (n := (Po.lastC l).fdiv (Po.lastC b)) s rfl rfl (ev_var s.envH rfl) (fun H' e' => ev_var (s.envH.mono e') rfl) (by rw [List.length_map]; exact hsq) fun H s => ?_
      walk_at "q"
      refine s_for s (ei_enum hb (ev_var s.env rfl)) (fun i ss O => ∃ x6 x7 r, ss = [some (TD K d), some (TD K d2), some (TX (.ref pl)), some (TX (.ref pq)), some (TD K (.int ((l.length - b.length : Nat) : Int))), some (TD K (.int ((Po.lastC l).fdiv (Po.lastC b)))), x6, x7] ∧
          O = [(pq, .lst ((q.set (l.length - b.length) ((Po.lastC l).fdiv (Po.lastC b))).map V.int)), (pl, .lst (r.map V.int))] ∧ r.length = l.length ∧ ∀ k, Po.co r k = Po.co l k - if l.length - b.length ≤ k ∧ k - (l.length - b.length) < i then (Po.lastC l).fdiv (Po.lastC b) * Po.co b (k - (l.length - b.length)) else 0)
        ⟨_, _, l, rfl, by rw [← ints_set]; rfl, rfl, fun k => ?_⟩ (fun Fw i dd x σ F H ss O hdd hI s hx => ?_) (fun σ F H ss O hI s => ?_)
      · rw [if_neg (by omega)]; omega
      · obtain ⟨x6, x7, r, rfl, rfl, lr, hr⟩ := hI
        obtain ⟨hi, rfl⟩ := enum_ints hdd
        refine g_tup2 s hx fun v w s => ?_
        refine s_augI (j := l.length - b.length + i) (m := Po.co r (l.length - b.length + i)) (n := (Po.lastC l).fdiv (Po.lastC b) * Po.co b i) (k := 1) s rfl rfl ?_ (ints_get (by omega)) (fun H' e' => ?_) fun H s => ?_
        · refine ev_is (ev_op (ev_var s.envH rfl) (ev_var s.envH rfl) rv_add) ?_
          rw [Int.natCast_add]
        · have E := s.envH.mono e'
          have hmul : CMulA ((Po.lastC l).fdiv (Po.lastC b)) (Po.co b i) := .inl (.inr (by have := hm i; omega))
          walk_at "ev"
        · dsimp only
          refine Bt.of ⟨_, _, r.set (l.length - b.length + i) (Po.co r (l.length - b.length + i) - (Po.lastC l).fdiv (Po.lastC b) * Po.co b i), rfl, by rw [← ints_set (ns := r)]; rfl, by rw [List.length_set]; exact lr, fun k => ?_⟩ s
          rw [Po.co_set (by omega), hr k, hr (l.length - b.length + i)]
          by_cases e : l.length - b.length + i = k
          · subst e
            rw [if_pos rfl, show l.length - b.length + i - (l.length - b.length) = i by omega, if_neg (by omega), if_pos (by omega)]
            omega
          · rw [if_neg e]
            by_cases h1 : l.length - b.length ≤ k ∧ k - (l.length - b.length) < i
            · rw [if_pos h1, if_pos (by omega)]
            · rw [if_neg h1, if_neg (by omega)]
      · obtain ⟨x6, x7, r, rfl, rfl, lr, hr⟩ := hI
        have er : Po.trim r = Po.trim (Po.subAt l (l.length - b.length) ((Po.lastC l).fdiv (Po.lastC b)) b) := Po.trim_eq fun k => by
          rw [hr k, Po.co_subAt (by omega), enumD_len, List.length_map]
          by_cases h1 : l.length - b.length ≤ k
          · rw [if_pos h1]
            split
            · rfl
            · rename_i h2
              rw [Po.co_ge (a := b) (by omega), Int.mul_zero]
          · rw [if_neg h1, if_neg (by omega)]
        dsimp only
        refine s_while s (fun m2 ss O => ∃ r, ss = [some (TD K d), some (TD K d2), some (TX (.ref pl)), some (TX (.ref pq)), some (TD K (.int ((l.length - b.length : Nat) : Int))), some (TD K (.int ((Po.lastC l).fdiv (Po.lastC b)))), x6, x7] ∧
            O = [(pq, .lst ((q.set (l.length - b.length) ((Po.lastC l).fdiv (Po.lastC b))).map V.int)), (pl, .lst (r.map V.int))] ∧ r.length = m2 ∧ Po.trim r = Po.trim (Po.subAt l (l.length - b.length) ((Po.lastC l).fdiv (Po.lastC b)) b)) r.length
          ⟨r, rfl, rfl, rfl, er⟩ fun m2 σ H1 F1 ss O hI s => ?_
        obtain ⟨r, rfl, rfl, lr2, er⟩ := hI
        refine ⟨decide ((0 : Int) < r.length) && decide (Po.lastC r = 0), ?_, fun ht H s => ?_, fun ht H s => ?_⟩
        · have E := s.lookI (K := K) (i := 2) (k := 1) (ns := r) s.envH rfl rfl
          have hl := SeqI.l r
          refine et_and ?_ fun ha => ?_
          · walk_at "et"
          · have hlx : atI r (-1) = some (Po.lastC r) := atI_lastI (fun z => by subst z; simp at ha)
            rw [← eqv_int]
            walk_at "et"
        · rw [Bool.and_eq_true, decide_eq_true_eq, decide_eq_true_eq] at ht
          refine s_pop (k := 1) s rfl rfl (ints_ne (fun z => by subst z; simp at ht)) fun H s => ?_
          dsimp only
          exact Wt.of (m' := m2 - 1) (by omega) ⟨r.dropLast, rfl, by rw [← inner_popped]; rfl, by rw [List.length_dropLast, lr2], by rw [Po.trim_dropLast ht.2, er]⟩ s
        · have hr1 : Po.trim r = r := Po.trim_ct (by
            by_cases z : r = []
            · exact .inl z
            · refine .inr fun y => ?_
              have := List.length_pos_iff.mpr z
              rw [decide_eq_true (show (0 : Int) < r.length by omega), decide_eq_true y] at ht
              cases ht)
          rw [hr1] at er
          dsimp only
          cases m with
          | zero => omega
          | succ m =>
            refine Wt.of (m' := m) (Nat.lt_succ_self _) ⟨_, _, _, _, q.set (l.length - b.length) ((Po.lastC l).fdiv (Po.lastC b)), r, rfl, rfl, by rw [er]; omega, by rw [er]; exact D2, ?_⟩ s
            rw [← hgo, er, Po.divGo, if_pos ⟨by omega, hdv⟩]
    · have hend : Po.divGo m l q b = (q, l) := by
        cases m with
        | zero => omega
        | succ m =>
          rw [Po.divGo, if_neg]
          intro z
          rw [decide_eq_true (show (b.length : Int) ≤ l.length by omega), decide_eq_true z.2] at ht
          cases ht
      have ediv : Po.divC c b = (Po.trim q, l) := by
        unfold Po.divC
        rw [← hgo, hend]
      have s := s.freezeI (j := 0) (K := K) (ns := q) (i := 3) rfl hpq rfl
      have s := s.freezeI (j := 0) (K := K) (ns := l) (i := 2) rfl hpl rfl
      dsimp only
      refine s_ret (T := TD K (.tuple [tupI (Po.divC c b).1, tupI (Po.divC c b).2])) s ?_ ?_
      · have E := s.env
        rw [ediv]
        refine ev_tupT (ea_cons (ev_call (ea_cons (ev_var E rfl) ea_nil) ⟨_, q, rfl, .l q, ?_, rfl⟩) (ea_cons (ev_cb (ea_cons (ev_var E rfl) ea_nil) (rc_tuple (.l l))) ea_nil)) (.cons (.cons .nil)) (Nat.le_of_ble_eq_true rfl)
        rw [D.len]; omega
      · exact fun v F H s hv => hQ v F H s.gr.stp hv
/-! ### _law_pen -/
def sp_pen (K : PySem.W.Frag) : Sp := fun vs H Q _ => ∃ (F : Hp) (a : Addr) (ns : List Int), vs = [.ref a] ∧ Same F H ∧ SqL K F a (ns.map V.int) ∧ ns.length ≤ 63 ∧
  ∀ p c F2 H2, Stp F H F2 H2 → H2 p = none → (fCell K c (ns.take 60)).p F2 → Q (.ref p) (upd H2 p (penO c 0 0))
theorem ok__law_pen (T : Txt K mg) : FnOk P w K mg base CX0 1 T.a__law_pen T.d__law_pen ["script"] (sp_pen K) := by
  skip
  refine T.F__law_pen.ok sc__law_pen (fun vs H Q E h => ?len) (fun cdv A outer s H vs Q E hr h => ?body)
  case len =>
    obtain ⟨F, a, ns, rfl, _⟩ := h
    rfl
  case body =>
    obtain ⟨F, a, ns, rfl, e, hS, hl, hQ⟩ := h
    have s := S.startL (N := N__law_pen) (M := []) (F := F) (vs := [.ref a]) (Ts := [TD K (lstI ns)]) [some (TD K (lstI ns)), none] e ⟨.lst hS (dpAll_ints ns), trivial⟩
    refine ⟨_, (pss_one (ps_ret (pe_lst (pa_cons (pe_lc (own := [("cell", 1)]) rfl sc__law_pen.nd (pi_seq (pe_slice sl_anyA (pv 0) po_none (po_some pe_int))) (blkOk_by (own := [("cell", 1)]) (N := N__law_pen) (sc := defScope s__law_pen) (by decide +kernel)) (fun _ _ _ _ _ => (pg_name (i := 1) sc__law_pen.nd rfl (.inl rfl))) (fun _ _ _ _ _ => pts_nil) (fun _ _ _ _ _ => (pe_callTy call_intA (by rfl) T.n_int (by decide +kernel) (pa_cons (pv 1) pa_nil)))) (pa_cons pe_int (pa_cons pe_int pa_nil)))))), ?_⟩
    try dsimp only [cxOf, Cx.nox, Cx.wish, Cx.blk]
    have E := s.env
    have ec : cutD (ns.map PyData.int) none (some 60) = (ns.take 60).map .int := cut_take2 (m := 60)
    dsimp only [tRet, tLst]
    refine (ea_cons (ev_new (K := K) (ds := (ns.take 60).map .int) ?h1) (ea_cons (ev_int (K := K)) (ea_cons (ev_int (K := K)) ea_nil))) H e _ fun vs F2 H2 st hv => ?main
    case h1 =>
      refine en_is (en_map (List.mem_singleton.mpr rfl) (ei_list (ev_new (en_sl (ev_var E rfl) eo_none (eo_some (K := K) ev_int) rn_slL))) id (by rw [ec, List.length_map, List.length_take]; omega) fun d F' x hd e' hx => ?_) (by rw [ec, List.map_id])
      rw [ec] at hd
      obtain ⟨i, _, rfl⟩ := List.mem_map.mp hd
      have E := Env.set (i := 1) (show (TD K (.int i)).p x F' from hx) ((E.mono e').wipe [1])
      exact ev_cb (ea_cons (ev_var E rfl) ea_nil) rc_int
    case main =>
      match vs, hv with
      | [v0, v1, v2], hv =>
        obtain ⟨c, xs, rfl, q1, q2⟩ := dp_list hv.1
        have e1 := dpAll_ints' q2
        subst e1
        rw [dp_int hv.2.1, dp_int hv.2.2.1]
        exact ⟨by show 3 ≤ sizeLine; decide, fun p hp => hQ p c F2 H2 st hp ⟨q1, by rw [List.length_take]; omega⟩⟩
/-! ### _law_draw -/
def pInt (m : Int) : V → Hp → Prop := fun v _ => ∃ i : Int, v = .int i ∧ 0 ≤ i ∧ i < m
def R__law_draw (K : PySem.W.Frag) : List Ty → (V → Hp → Prop) → Prop := fun Ts P => ∃ m, Ts = [TD K (.int m)] ∧ 0 < m ∧ m < 1073741824 ∧ P = pInt m
theorem ok__law_draw (T : Txt K mg) : FnOk P w K mg base CX0 1 T.a__law_draw T.d__law_draw ["pen", "many"] (spPen K 1 (R__law_draw K)) := by
  skip
  refine T.F__law_draw.ok sc__law_draw (fun vs H Q E h => ?len) (fun cdv A outer s H vs Q E hr h => ?body)
  case len => exact spPen_len h (by rintro _ _ ⟨_, rfl, _⟩; rfl)
  case body =>
    obtain ⟨F, p, c, cells, t, r, ws, Ts, P, rfl, e, hF, hH, hc, ht0, htn, hr0, hv, ⟨m, rfl, hm0, hm1, rfl⟩, hQ⟩ := h
    have s := S.startP (N := N__law_draw) [some (TX (.ref p)), some (TD K (.int m)), none, none, none, none] e hF hH hc hv
    have hmd : m ≠ 0 ∧ m.natAbs < 1073741824 := by omega
    have hml := hc.2
    refine ⟨_, (pss_cons (ps_if (pt_cmpR op_gtA (pe_ix ix_seq (pv 0) pe_int (fun _ _ => rfl)) pe_int (nomark _))
      (pss_cons (ps_set (i := 2) sc__law_draw.nd rfl (.inl rfl) (pe_callTy call_intA (by rfl) T.n_int (by decide +kernel) (pa_cons (pe_ix ix_seq (pv 0) pe_int (fun _ _ => rfl)) pa_nil)))
      (pss_cons (ps_asg (pe_op op_divA (pv 2) (pv 1)) (pg_sub (pv 0) pe_int set_list))
      (pss_one (ps_ret (pe_op op_modA (pe_callTy call_intA (by rfl) T.n_int (by decide +kernel) (pa_cons (pv 2) pa_nil)) (pv 1))))))
      pss_nil)
      (pss_cons (ps_set (i := 3) sc__law_draw.nd rfl (.inl rfl) (pe_ix ix_seq (pv 0) pe_int (fun _ _ => rfl)))
      (pss_cons (ps_asg (pe_op op_addA (pv 3) pe_int) (pg_sub (pv 0) pe_int set_list))
      (pss_cons (ps_set (i := 4) sc__law_draw.nd rfl (.inl rfl) (pe_op op_addA (pe_op op_mulAll pe_int (pv 3)) pe_int))
      (pss_cons (ps_if (pt_cmpR (op_neD hr.units) (pe_ix ix_seq (pv 0) pe_int (fun _ _ => rfl)) (pe_lst pa_nil) (nomark _))
      (pss_one (ps_set (i := 4) sc__law_draw.nd rfl (.inl rfl) (pe_ix ix_seq (pe_ix ix_seq (pv 0) pe_int (fun _ _ => rfl)) (pe_op op_modA (pe_callTy call_intA (by rfl) T.n_int (by decide +kernel) (pa_cons (pv 3) pa_nil)) (pe_callB call_lenA (by rfl) T.n_len (by decide +kernel) (pa_cons (pe_ix ix_seq (pv 0) pe_int (fun _ _ => rfl)) pa_nil))) (fun _ _ => rfl))))
      pss_nil)
      (pss_cons (ps_if (PW.pt (pw_and (pt_cmpR op_ltA (pv 3) (pe_callB call_lenA (by rfl) T.n_len (by decide +kernel) (pa_cons (pe_ix ix_seq (pv 0) pe_int (fun _ _ => rfl)) pa_nil)) (nomark _)) (pw_and1 (pt_cmpR op_geA (pe_callB call_absA (by rfl) T.n_abs (by decide +kernel) (pa_cons (pv 4) pa_nil)) (pe_op op_powA pe_int pe_int) (nomark _)))))
      (pss_cons (ps_set (i := 2) sc__law_draw.nd rfl (.inl rfl) (pe_op op_addA (pe_op op_mulAll pe_int (pe_op op_subA (pe_callB call_absA (by rfl) T.n_abs (by decide +kernel) (pa_cons (pv 4) pa_nil)) (pe_op op_powA pe_int pe_int))) (pe_callTy call_intA (by rfl) T.n_int (by decide +kernel) (pa_cons (pe_cmpR op_ltA (pv 4) pe_int (nomark _)) pa_nil))))
      (pss_cons (ps_asg (pe_op op_divA (pv 2) (pv 1)) (pg_sub (pv 0) pe_int set_list))
      (pss_one (ps_ret (pe_op op_modA (pe_callTy call_intA (by rfl) T.n_int (by decide +kernel) (pa_cons (pv 2) pa_nil)) (pv 1))))))
      pss_nil)
      (pss_cons (ps_set (i := 5) sc__law_draw.nd rfl (.inl rfl) (pe_op op_modA (pe_callTy call_intA (by rfl) T.n_int (by decide +kernel) (pa_cons (pe_op op_powA (pe_op op_addA (pe_op op_addA (pe_op op_modA (pe_callTy call_intA (by rfl) T.n_int (by decide +kernel) (pa_cons (pv 4) pa_nil)) pe_int) (pe_op op_mulAll pe_int (pv 3))) pe_int) pe_int) pa_nil)) pe_int))
      (pss_cons (ps_set (i := 5) sc__law_draw.nd rfl (.inl rfl) (pe_op op_modA (pe_callTy call_intA (by rfl) T.n_int (by decide +kernel) (pa_cons (pe_op op_powA (pe_op op_addA (pe_op op_addA (pe_op op_mulAll (pv 5) (pe_op op_addA (pe_op op_mulAll pe_int (pv 3)) pe_int)) (pe_op op_mulAll (pe_op op_mulAll pe_int (pv 3)) (pv 3))) pe_int) pe_int) pa_nil)) pe_int))
      (pss_one (ps_ret (pe_op op_modA (pe_callTy call_intA (by rfl) T.n_int (by decide +kernel) (pa_cons (pe_op op_divA (pv 5) pe_int) pa_nil)) (pv 1)))))))))))), ?_⟩
    try dsimp only [cxOf, Cx.nox, Cx.wish, Cx.blk]
    have back : ∀ (t' r' i : Int) (F2 H2 : Hp) (σ : L2.St) (ss : List Sl) (W : List Fact), S [p] W F H F2 H2 σ ss [(p, penO c t' r')] → 0 ≤ t' → t' ≤ t + 1 → 0 ≤ r' → 0 ≤ i → i < m → Q (.int i) H2 := fun t' r' i F2 H2 σ ss W s a1 a2 a3 a4 a5 =>
      hQ _ F2 H2 t' r' s.gr (s.mem (k := 0) rfl).1 (s.mem (k := 0) rfl).2.1 a1 a2 a3 ⟨i, rfl, a4, a5⟩
    walk_at "q"
    refine s_if (b := decide (0 < r)) s ?_ (fun hb H s => ?_) (fun hb H s => s_next ?_)
    · have E := s.lookL (K := K) (i := 0) (k := 0) s.envH rfl rfl
      exact et_test (ev_op (ev_op (ev_var E rfl) ev_int (rv_ixX (T3 := TD K (.int r)) rfl (fun _ _ => .int _))) ev_int rv_gt)
    · walk_at "q"
      refine s_asgI (K := K) (n := r) s ?_ fun H s => ?_
      · have E := s.lookL (K := K) (i := 0) (k := 0) s.envH rfl rfl
        exact ev_cb (ea_cons (ev_op (ev_var E rfl) ev_int (rv_ixX (T3 := TD K (.int r)) rfl (fun _ _ => .int _))) ea_nil) rc_int
      walk_at "q"
      refine s_setI (K := K) (i := 0) (k := 0) (j := 2) (n := r.fdiv m) s rfl rfl (ev_op (ev_var s.envH rfl) (ev_var s.envH rfl) (rv_div hmd)) (fun H' e' => ev_int) (by show 2 < 3; decide) fun H s => ?_
      dsimp only
      refine s_retR (m := m) s ?_ fun i F H h0 h1 s => ?_
      · exact er_mod (ez_of (ev_cb (ea_cons (ev_var s.env rfl) ea_nil) rc_int)) (ev_var s.env rfl) hm0
      · exact back t (r.fdiv m) i F H _ _ _ s ht0 (by omega) (by rw [Int.fdiv_eq_ediv_of_nonneg r (by omega)]; exact Int.ediv_nonneg hr0 (by omega)) h0 h1
    walk_at "q"
    refine s_asgI (K := K) (n := t) s ?_ fun H s => ?_
    · have E := s.lookL (K := K) (i := 0) (k := 0) s.envH rfl rfl
      exact ev_op (ev_var E rfl) ev_int (rv_ixX rfl (fun _ _ => .int _))
    walk_at "q"
    refine s_setI (K := K) (i := 0) (k := 0) (j := 1) (n := t + 1) s rfl rfl (ev_op (ev_var s.envH rfl) ev_int rv_add) (fun H' e' => ev_int) (by show 1 < 3; decide) fun H s => ?_
    walk_at "q"
    refine s_asgZ (K := K) s (ez_of (ev_op (ev_op (ev_int (K := K)) (ev_var s.env rfl) (rv_mulB (.inl (.inl (by constructor <;> omega))))) ev_int rv_add)) fun x F2 H s => ?_
    have s : S [p] [fCell K c cells] F _ F2 H _ [some (TX (.ref p)), some (TD K (.int m)), none, some (TD K (.int t)), some (TD K (.int x)), none] [(p, penO c (t + 1) r)] := s
    walk_at "q"
    apply join (fun σ H2 => ∃ (x : Int) (F2 : Hp), S [p] [fCell K c cells] F _ F2 H2 σ [some (TX (.ref p)), some (TD K (.int m)), none, some (TD K (.int t)), some (TD K (.int x)), none] [(p, penO c (t + 1) r)])
    · intro fin
      have hcl := s.mrk _ List.mem_cons_self
      have E := s.lookL (K := K) (i := 0) (k := 0) s.envH rfl rfl
      refine s_if (b := !decide (cells = [])) s ?_ (fun hb H s => ?_) (fun hb H s => s_next ?_)
      · rw [← eqv_lstI]
        exact et_test (ev_op (ev_op (ev_var E rfl) ev_int (rv_ixX (T3 := TD K (lstI cells)) rfl fun F' e' => .lst (same_l (s.fh.trans e') hcl.1) (dpAll_ints cells))) (ev_lst (ds := []) ea_nil (by decide)) (rv_ne sh_lstI sh_nilL))
      · have hne : cells ≠ [] := of_decide_eq_false (by simpa using hb)
        have hl0 : 0 < cells.length := List.length_pos_iff.mpr hne
        have hbd := fmod_bd (x := t) (m := (cells.length : Int)) (by omega)
        have eN : t.fmod (cells.length : Int) = ((t.fmod (cells.length : Int)).toNat : Int) := by omega
        have hx : atI cells (t.fmod (cells.length : Int)) = some (Po.co cells (t.fmod (cells.length : Int)).toNat) := by
          rw [eN]
          exact atI_nat (Po.co_at (by omega))
        have hcl := s.mrk _ List.mem_cons_self
        have E := s.lookL (K := K) (i := 0) (k := 0) s.envH rfl rfl
        refine s_asgI (K := K) (n := Po.co cells (t.fmod (cells.length : Int)).toNat) s ?_ fun H s => ?_
        · have hcd : ∀ F', Same H F' → Dp K F' (.ref c) (lstI cells) := fun F' e' => .lst (same_l (s.fh.trans e') hcl.1) (dpAll_ints cells)
          have h1 : Ev (tOp (rIx K) (tVar 0) (tC (.int 0))) _ H (TD K (lstI cells)) := ev_op (ev_var E rfl) ev_int (rv_ixX rfl hcd)
          exact ev_op h1 (ev_op (ev_cb (ea_cons (ev_var E rfl) ea_nil) rc_int) (ev_cb (ea_cons h1 ea_nil) (rc_len (.l cells))) (rv_mod (by omega))) (rv_ix (.l cells) hx)
        · exact fin _ _ ⟨_, _, s⟩
      · exact fin _ _ ⟨_, _, s⟩
    rintro σ H ⟨x, F2, s⟩
    walk_at "q"
    refine s_if (b := decide (t < (cells.length : Int)) && decide ((10 : Int) ^ (18 : Int).toNat ≤ (if x < 0 then -x else x))) s ?_ (fun hb H s => ?_) (fun hb H s => s_next ?_)
    · have hcl := s.mrk _ List.mem_cons_self
      have E := s.lookL (K := K) (i := 0) (k := 0) s.envH rfl rfl
      have hcd : ∀ F', Same H F' → Dp K F' (.ref c) (lstI cells) := fun F' e' => .lst (same_l (s.fh.trans e') hcl.1) (dpAll_ints cells)
      have h1 : Ev (tOp (rIx K) (tVar 0) (tC (.int 0))) _ H (TD K (lstI cells)) := ev_op (ev_var E rfl) ev_int (rv_ixX rfl hcd)
      refine et_and (et_test (ev_op (ev_var E rfl) (ev_cb (ea_cons h1 ea_nil) (rc_len (.l cells))) rv_lt)) fun _ => ?_
      exact et_test (ev_op (ev_cb (ea_cons (ev_var E rfl) ea_nil) rc_abs) (ev_op ev_int ev_int (rv_pow ⟨by decide, by decide, by decide⟩)) rv_ge)
    · rw [Bool.and_eq_true, decide_eq_true_eq, decide_eq_true_eq] at hb
      have hnn : 0 ≤ 2 * ((if x < 0 then -x else x) - (10 : Int) ^ (18 : Int).toNat) + (if decide (x < 0) = true then 1 else 0) := by
        have : 0 ≤ (if x < 0 then -x else x) - (10 : Int) ^ (18 : Int).toNat := by omega
        have : (0 : Int) ≤ (if decide (x < 0) = true then 1 else 0) := by split <;> omega
        omega
      generalize hg : 2 * ((if x < 0 then -x else x) - (10 : Int) ^ (18 : Int).toNat) + (if decide (x < 0) = true then 1 else 0) = g at hnn
      walk_at "q"
      refine s_asgI (K := K) (n := g) s ?_ fun H s => ?_
      · have E := s.envH
        rw [← hg]
        exact ev_op (ev_op ev_int (ev_op (ev_cb (ea_cons (ev_var E rfl) ea_nil) rc_abs) (ev_op ev_int ev_int (rv_pow ⟨by decide, by decide, by decide⟩)) rv_sub) (rv_mulB (.inl (.inl (by constructor <;> omega))))) (ev_cb (ea_cons (ev_op (ev_var E rfl) ev_int rv_lt) ea_nil) rc_intb) rv_add
      walk_at "q"
      refine s_setI (K := K) (i := 0) (k := 0) (j := 2) (n := g.fdiv m) s rfl rfl (ev_op (ev_var s.envH rfl) (ev_var s.envH rfl) (rv_div hmd)) (fun H' e' => ev_int) (by show 2 < 3; decide) fun H s => ?_
      dsimp only
      refine s_retR (m := m) s ?_ fun i F H h0 h1 s => ?_
      · exact er_mod (ez_of (ev_cb (ea_cons (ev_var s.env rfl) ea_nil) rc_int)) (ev_var s.env rfl) hm0
      · exact back (t + 1) (g.fdiv m) i F H _ _ _ s (by omega) (by omega) (by rw [Int.fdiv_eq_ediv_of_nonneg g (by omega)]; exact Int.ediv_nonneg hnn (by omega)) h0 h1
    walk_at "q"
    have htB : -1000001 < t ∧ t < 1000001 := by omega
    refine s_asgR (K := K) s (er_mod (ez_int (ez_pow (B := 4000000000000) (eb_add (K := K) (B := 3000000000000) (C := 1000000) (eb_add (K := K) (B := 2147483648) (C := 2000000000000) (eb_r (er_mod (ez_int (ez_var s.env rfl)) (ev_int (K := K)) (by decide)) (by decide) (by decide)) (eb_mul (K := K) (B := 1000000) (C := 1000001) (eb_of (ev_int (K := K)) (by decide)) (eb_of (ev_var s.env rfl) htB) (by decide) (by decide)) (by decide)) (eb_of (ev_int (K := K)) (by decide)) (by decide)) (ev_int (K := K)) (by decide) (by decide))) (ev_int (K := K)) (by decide)) fun y F2 H y0 y1 s => ?_
    walk_at "q"
    have hyB : -2147483648 < y ∧ y < 2147483648 := by omega
    refine s_asgR (K := K) s (er_mod (ez_int (ez_pow (B := 8000000000000000000) (eb_add (K := K) (B := 4000000000000000000) (C := 1000000) (eb_add (K := K) (B := 50000000000000000) (C := 3000000000000000000)
        (eb_mul (K := K) (B := 2147483648) (C := 20000000) (eb_of (ev_var s.env rfl) hyB) (eb_add (K := K) (B := 10000000) (C := 1000000) (eb_mul (K := K) (B := 3) (C := 1000001) (eb_of (ev_int (K := K)) (by decide)) (eb_of (ev_var s.env rfl) htB) (by decide) (by decide)) (eb_of (ev_int (K := K)) (by decide)) (by decide)) (by decide) (by decide))
        (eb_mul (K := K) (B := 2000000000000) (C := 1000001) (eb_mul (K := K) (B := 1000000) (C := 1000001) (eb_of (ev_int (K := K)) (by decide)) (eb_of (ev_var s.env rfl) htB) (by decide) (by decide)) (eb_of (ev_var s.env rfl) htB) (by decide) (by decide)) (by decide)) (eb_of (ev_int (K := K)) (by decide)) (by decide)) (ev_int (K := K)) (by decide) (by decide))) (ev_int (K := K)) (by decide)) fun z F2 H z0 z1 s => ?_
    dsimp only
    refine s_retR (m := m) s (er_mod (ez_int (ez_div (ez_var s.env rfl) (ev_int (K := K)) (by decide))) (ev_var s.env rfl) hm0) fun i F H h0 h1 s => ?_
    exact back (t + 1) r i F H _ _ _ s (by omega) (by omega) hr0 h0 h1
/-! ### _law_pick -/
/-- one of some things, told as a list or a tuple of data -/
def isSeq (ds : List PyData) (d : PyData) : Prop := d = .list ds ∨ d = .tuple ds
def pOne (K : PySem.W.Frag) (ds : List PyData) : V → Hp → Prop := fun v F => ∃ d, d ∈ ds ∧ Dp K F v d
def R__law_pick (K : PySem.W.Frag) : List Ty → (V → Hp → Prop) → Prop := fun Ts P => ∃ ds d, Ts = [TD K d] ∧ isSeq ds d ∧ ds ≠ [] ∧ ds.length ≤ 10000 ∧ P = pOne K ds
theorem ok__law_pick (T : Txt K mg) : FnOk P w K mg base CX0 2 T.a__law_pick T.d__law_pick ["pen", "some"] (spPen K 1 (R__law_pick K)) := by
  have G__law_draw := ok__law_draw (P := P) (w := w) (base := base) T
  refine T.F__law_pick.ok sc__law_pick (fun vs H Q E h => ?len) (fun cdv A outer s H vs Q E hr h => ?body)
  case len => exact spPen_len h (by rintro _ _ ⟨_, _, rfl, _⟩; rfl)
  case body =>
    obtain ⟨F, p, c, cells, t, r, ws, Ts, P, rfl, e, hF, hH, hc, ht0, htn, hr0, hv, ⟨ds, d, rfl, hd, hne, hl, rfl⟩, hQ⟩ := h
    have s := S.startP (N := N__law_pick) [some (TX (.ref p)), some (TD K d)] e hF hH hc hv
    have hl0 : 0 < ds.length := List.length_pos_iff.mpr hne
    refine ⟨_, (pss_one (ps_ret (pe_ix ix_seq (pv 1) (pe_call G__law_draw (hr.mono (by decide)) (by rfl) T.g__law_draw T.F__law_draw.kp T.b__law_draw .nil pass0 (pa_cons (pv 0) (pa_cons (pe_callB call_lenA (by rfl) T.n_len (by decide +kernel) (pa_cons (pv 1) pa_nil)) pa_nil))) (fun _ _ => rfl)))), ?_⟩
    try dsimp only [cxOf, Cx.nox, Cx.wish, Cx.blk]
    have rl : RC (rLen K) [TD K d] F (TD K (.int ds.length)) := by
      rcases hd with rfl | rfl
      · exact rc_len_l
      · exact rc_len_t
    dsimp only [tRet, tOp]
    obtain ⟨w, h1, h2⟩ := s.env.get (i := 1) rfl
    refine ⟨w, h1, ?_⟩
    have s := s.fact (f := ⟨fun F => Dp K F w d, fun e h => dp_mono e h⟩) h2
    refine c_pen (K := K) (j := 0) (k := 0) (c := c) (cells := cells) s rfl rfl (List.mem_cons_of_mem _ List.mem_cons_self) ⟨ht0, htn, hr0⟩ (ea_cons (ev_cb (ea_cons (ev_var s.env rfl) ea_nil) rl) ea_nil) ⟨_, rfl, by omega, by omega, rfl⟩ fun v F H t' r' s a1 a2 a3 hp => ?_
    obtain ⟨i, rfl, i0, i1⟩ := hp
    have hw : Dp K F w d := s.mrk _ List.mem_cons_self
    have ei : i = ((i.toNat : Nat) : Int) := by omega
    have hi : i.toNat < ds.length := by omega
    have hx : atI ds i = some ds[i.toNat] := by
      have := atI_nat (List.getElem?_eq_getElem hi)
      rw [← ei] at this
      exact this
    have fin : ∀ v F2 H2, Stp F H F2 H2 → (TD K ds[i.toNat]).p v F2 → Q v H2 := fun v F2 H2 st hv => by
      have s2 := s.step st
      obtain ⟨m1, m2, _⟩ := s2.mem (k := 0) rfl
      exact hQ v F2 H2 t' r' s2.gr m1 m2 a1 a2 a3 ⟨_, List.getElem_mem hi, hv⟩
    rcases hd with rfl | rfl
    · exact rv_ixL hx w (.int i) F H (.refl _) s.fh hw (.int i) Q fin
    · exact rv_ixT hx w (.int i) F H (.refl _) s.fh hw (.int i) Q fin
/-! ### _law_cut -/
def R__law_cut (K : PySem.W.Frag) : List Ty → Ty → Prop := fun Ts T => ∃ d ns, Ts = [TD K d] ∧ SeqI ns d ∧ ns.length ≤ 10000 ∧ T = TD K (tupI (Po.trim ns))
theorem ok__law_cut (T : Txt K mg) : FnOk P w K mg base CX0 1 T.a__law_cut T.d__law_cut ["row"] (spP (R__law_cut K)) := by
  skip
  refine T.F__law_cut.ok sc__law_cut (fun vs H Q E h => ?len) (fun cdv A outer s H vs Q E hr h => ?body)
  case len => exact spP_len h (by rintro _ _ ⟨_, _, rfl, _⟩; rfl)
  case body =>
    obtain ⟨F, Ts, T', e, q, ⟨d, ns, rfl, hd, hl, rfl⟩, hQ⟩ := h
    have s := S.startL (N := N__law_cut) (M := []) [some (TD K d), none] e q
    refine ⟨_, (pss_cons (ps_set (i := 1) sc__law_cut.nd rfl (.inl rfl) (pe_callTy call_listA (by rfl) T.n_list (by decide +kernel) (pa_cons (pv 0) pa_nil)))
      (pss_cons (ps_while PassesOwn.never (PW.pt (pw_and (pt_cmpR (op_neD hr.units) (pv 1) (pe_lst pa_nil) (nomark _)) (pw_and1 (pt_cmpR (op_eqD hr.units) (pe_ix ix_seq (pv 1) (pe_un un_neg pe_int) (fun _ _ => rfl)) pe_int (nomark _)))))
      (pss_one (ps_expr (pe_bm0 PySem.F.plainAttrs_list PySem.F.slot_list_pop PySem.F.type_list_pop mt_pop (pv 1)))))
      (pss_one (ps_ret (pe_callTy call_tupleA (by rfl) T.n_tuple (by decide +kernel) (pa_cons (pv 1) pa_nil)))))), ?_⟩
    try dsimp only [cxOf, Cx.nox, Cx.wish, Cx.blk]
    walk_at "q"
    refine s_ownI (K := K) (ns := ns) s ?_ fun p F H s hp => ?_
    · have E := s.env
      walk_at "en"
    walk_at "q"
    refine s_while s (fun m ss O => ∃ r, ss = [some (TD K d), some (TX (.ref p))] ∧ O = [(p, .lst (r.map V.int))] ∧ r.length = m ∧ Po.trim r = Po.trim ns) ns.length ⟨ns, rfl, rfl, rfl, rfl⟩ fun m σ H1 F1 ss O hI s => ?_
    obtain ⟨r, rfl, rfl, lr, er⟩ := hI
    refine ⟨(!decide (r = [])) && decide (Po.lastC r = 0), ?_, fun ht H s => ?_, fun ht H s => ?_⟩
    · have E := s.lookI (K := K) (i := 1) (k := 0) (ns := r) s.envH rfl rfl
      refine et_and ?_ fun ha => ?_
      · rw [← eqv_lstI]
        exact et_test (ev_op (ev_var E rfl) (ev_lst (ds := []) ea_nil (by decide)) (rv_ne sh_lstI sh_nilL))
      · have hlx : atI r (-1) = some (Po.lastC r) := atI_lastI (by simpa using ha)
        have hs := SeqI.l r
        rw [← eqv_int]
        walk_at "et"
    · rw [Bool.and_eq_true, decide_eq_true_eq] at ht
      have hne : r ≠ [] := by simpa using ht.1
      have hl0 := List.length_pos_iff.mpr hne
      refine s_pop (k := 0) s rfl rfl (ints_ne hne) fun H s => ?_
      dsimp only
      exact Wt.of (m' := m - 1) (by omega) ⟨r.dropLast, rfl, by rw [← inner_popped]; rfl, by rw [List.length_dropLast, lr], by rw [Po.trim_dropLast ht.2, er]⟩ s
    · have hr1 : Po.trim r = r := Po.trim_ct (by
        by_cases z : r = []
        · exact .inl z
        · refine .inr fun y => ?_
          rw [decide_eq_false z, decide_eq_true y] at ht
          cases ht)
      have s := s.freezeI (j := 0) (K := K) (ns := r) (i := 1) rfl hp rfl
      dsimp only
      refine s_ret (T := TD K (tupI (Po.trim ns))) s ?_ ?_
      · rw [← er, hr1]
        exact ev_cb (ea_cons (ev_var s.env rfl) ea_nil) (rc_tuple (.l r))
      · exact fun v F H s hv => hQ v F H s.gr.stp hv
/-! ### _law_counts -/
/-- the counts that are drawn -/
def goodC (most : Nat) (ns : List Int) : Prop := Po.Ct ns ∧ ns ≠ [] ∧ ns.length ≤ most ∧ ∀ k, -3 ≤ Po.co ns k ∧ Po.co ns k ≤ 3
def pCounts (K : PySem.W.Frag) (most : Nat) : V → Hp → Prop := fun v F => ∃ ns, Dp K F v (tupI ns) ∧ goodC most ns
def R__law_counts (K : PySem.W.Frag) : List Ty → (V → Hp → Prop) → Prop := fun Ts P => ∃ most : Nat, Ts = [TD K (.int (most : Int))] ∧ 0 < most ∧ most ≤ 7 ∧ P = pCounts K most
theorem co_all {ns : List Int} {lo hi : Int} (h0 : lo ≤ 0 ∧ 0 ≤ hi) (h : ∀ x ∈ ns, lo ≤ x ∧ x ≤ hi) (k : Nat) : lo ≤ Po.co ns k ∧ Po.co ns k ≤ hi := by
  by_cases hk : k < ns.length
  · exact h _ (List.mem_of_getElem? (Po.co_at hk))
  · rw [Po.co_ge (by omega)]; exact h0
theorem ok__law_counts (T : Txt K mg) : FnOk P w K mg base CX0 2 T.a__law_counts T.d__law_counts ["pen", "most"] (spPen K 10 (R__law_counts K)) := by
  have G__law_draw := ok__law_draw (P := P) (w := w) (base := base) T
  refine T.F__law_counts.ok sc__law_counts (fun vs H Q E h => ?len) (fun cdv A outer s H vs Q E hr h => ?body)
  case len => exact spPen_len h (by rintro _ _ ⟨_, rfl, _⟩; rfl)
  case body =>
    obtain ⟨F, p, c, cells, t, r, ws, Ts, P, rfl, e, hF, hH, hc, ht0, htn, hr0, hv, ⟨most, rfl, hm0, hm1, rfl⟩, hQ⟩ := h
    have s := S.startP (N := N__law_counts) [some (TX (.ref p)), some (TD K (.int (most : Int))), none] e hF hH hc hv
    refine ⟨_, (pss_one (ps_ret (pe_op op_addA (pe_callTy call_tupleA (by rfl) T.n_tuple (by decide +kernel) (pa_cons (pe_lc (own := [("place", 2)]) rfl sc__law_counts.nd (pi_range1 rfl T.n_range (pa_cons (pe_call G__law_draw (hr.mono (by decide)) (by rfl) T.g__law_draw T.F__law_draw.kp T.b__law_draw .nil pass0 (pa_cons (pv 0) (pa_cons (pv 1) pa_nil))) pa_nil)) (blkOk_by (own := [("place", 2)]) (N := N__law_counts) (sc := defScope s__law_counts) (by decide +kernel)) (fun _ _ _ _ _ => (pg_name (i := 2) sc__law_counts.nd rfl (.inl rfl))) (fun _ _ _ _ _ => pts_nil) (fun _ _ _ _ _ => (pe_op op_subA (pe_call G__law_draw (hr.mono (by decide)) (by rfl) T.g__law_draw T.F__law_draw.kp T.b__law_draw .nil pass0 (pa_cons (pv 0) (pa_cons pe_int pa_nil))) pe_int))) pa_nil)) (pe_tup (pa_cons (pe_op op_addA pe_int (pe_call G__law_draw (hr.mono (by decide)) (by rfl) T.g__law_draw T.F__law_draw.kp T.b__law_draw .nil pass0 (pa_cons (pv 0) (pa_cons pe_int pa_nil)))) pa_nil))))), ?_⟩
    try dsimp only [cxOf, Cx.nox, Cx.wish, Cx.blk]
    refine u_ret (u_op (u_cb (u_cons (lc_go (u_range (u_cons (c_pen (K := K) (j := 0) (k := 0) (c := c) (cells := cells) s rfl rfl (by walk_at "mw") ⟨ht0, by omega, hr0⟩ (ea_cons (ev_var s.env rfl) ea_nil) ⟨_, rfl, by omega, by omega, rfl⟩ fun v F H t1 r1 s a1 a2 a3 hp => ?_)))))))
    obtain ⟨n, rfl, n0, n1⟩ := hp
    refine u_nil ⟨n, rfl, by omega, by omega, ?_⟩
    refine s_lcJ (K := K) (j := 2) (ds := rangeD 0 n.toNat) (List.mem_singleton.mpr rfl) s walkD_range (fun i acc O => ∃ (ns : List Int) (t' r' : Int), acc = ns.map V.int ∧ ns.length = i ∧ i ≤ 7 ∧ (∀ x ∈ ns, -3 ≤ x ∧ x ≤ 3) ∧ O = [(p, penO c t' r')] ∧ 0 ≤ t' ∧ t' ≤ t1 + i ∧ 0 ≤ r')
      ⟨[], t1, r1, rfl, rfl, by omega, fun x hx => by simp at hx, rfl, a1, by omega, a3⟩ (fun L Fw i d x F H acc O hd hI s hx => ?_) (fun L F H acc O hI s hL => ?_)
    · obtain ⟨ns, t', r', rfl, hl, hi7, hns, rfl, b1, b2, b3⟩ := hI
      have hin : i < n.toNat := by
        obtain ⟨h1, _⟩ := List.getElem?_eq_some_iff.mp hd
        simpa [rangeD] using h1
      refine u_yes (u_op (c_pen (K := K) (j := 0) (k := 1) (c := c) (cells := cells) s rfl rfl (by walk_at "mw") ⟨b1, by omega, b3⟩ (ea_cons ev_int ea_nil) ⟨_, rfl, by decide, by decide, rfl⟩ fun v F H t2 r2 s d1 d2 d3 hp => u_int ?_))
      obtain ⟨y, rfl, y0, y1⟩ := hp
      refine ⟨y, 3, rfl, rfl, ?_⟩
      refine lt_end (List.mem_singleton.mpr rfl) s (by rw [List.length_map]; omega) ⟨ns ++ [y - 3], t2, r2, by rw [List.map_append]; rfl, by rw [List.length_append, List.length_singleton, hl], by omega, fun x hx => ?_, rfl, d1, by omega, d3⟩
      rcases List.mem_append.mp hx with hx | hx
      · exact hns x hx
      · have : x = y - 3 := by simpa using hx
        omega
    · obtain ⟨ns, t', r', rfl, hl, hi7, hns, rfl, b1, b2, b3⟩ := hI
      have hln : ns.length = n.toNat := by rw [hl]; simp [rangeD]
      have s := s.freeze (k := 0) rfl hL
      refine u_nil (v_cb (T := TD K (tupI ns)) s (show All2 _ [V.ref L] [TD K (lstI ns)] from ⟨.lst (sq_of upd_same) (dpAll_ints ns), trivial⟩) (rc_tuple (.l ns)) fun v F H s hv => ?_)
      have s := s.keep hv
      refine u_tup (u_cons (u_op (u_int ?_)))
      refine c_pen (K := K) (j := 0) (k := 0) (c := c) (cells := cells) s rfl rfl (by walk_at "mw") ⟨b1, by omega, b3⟩ (ea_cons ev_int ea_nil) ⟨_, rfl, by decide, by decide, rfl⟩ fun w F H t2 r2 s d1 d2 d3 hp => ?_
      obtain ⟨y, rfl, y0, y1⟩ := hp
      refine .inl (.inl ⟨1, y, rfl, rfl, ?_⟩)
      dsimp only
      refine u_nil (v_tup (K := K) (Q := fun x H => rAddA K v x H Q) (ds := [.int (1 + y)]) s (.cons (.int _) .nil) (Nat.le_of_ble_eq_true rfl) fun w F H s hw => ?_)
      have hg : Dp K F v (tupI ns) := s.mrk (fT (TD K (tupI ns)) v) (by walk_at "mw")
      refine v_op (T1 := TD K (tupI ns)) (T2 := TD K (.tuple [.int (1 + y)])) s hg hw (rv_catT (by rw [List.length_map]; simp; omega)) fun v F H s hv => ?_
      obtain ⟨m1, m2, _⟩ := s.mem (k := 0) rfl
      refine hQ v F H t2 r2 s.gr m1 m2 d1 (by omega) d3 ⟨ns ++ [1 + y], ?_, ?_, by simp, ?_, co_all (by decide) fun x hx => ?_⟩
      · have e1 : tupI (ns ++ [1 + y]) = .tuple (ns.map .int ++ [.int (1 + y)]) := by unfold tupI; rw [List.map_append]; rfl
        rw [e1]
        exact hv
      · refine Po.ct_of_last fun _ => ?_
        rw [List.length_append, List.length_singleton, Po.co_app, if_neg (by omega), show ns.length + 1 - 1 - ns.length = 0 by omega, Po.co_zero]
        omega
      · rw [List.length_append, List.length_singleton]; omega
      · rcases List.mem_append.mp hx with hx | hx
        · exact hns x hx
        · have : x = 1 + y := by simpa using hx
          omega
/-! ### _law_solved -/
def optL : Option (List Int) → PyData
  | some q => tupI q
  | none => .none
def R__law_solved (K : PySem.W.Frag) : List Ty → Ty → Prop := fun Ts T => ∃ c b d e, Ts = [TD K d, TD K e] ∧ SeqI c d ∧ SeqI b e ∧ b ≠ [] ∧ Po.co b 0 ≠ 0 ∧ c.length ≤ 5000 ∧ b.length ≤ 5000 ∧ (∀ k, (Po.co b k).natAbs < 1073741824) ∧ T = TD K (optL (Po.solC c b))
theorem ok__law_solved (T : Txt K mg) : FnOk P w K mg base CX0 2 T.a__law_solved T.d__law_solved ["counts", "by"] (spP (R__law_solved K)) := by
  have G__law_cut := ok__law_cut (P := P) (w := w) (base := base) T
  refine T.F__law_solved.ok sc__law_solved (fun vs H Q E h => ?len) (fun cdv A outer s H vs Q E hr h => ?body)
  case len => exact spP_len h (by rintro _ _ ⟨_, _, _, _, rfl, _⟩; rfl)
  case body =>
    obtain ⟨F, Ts, T', e, q, ⟨c, b, d, d2, rfl, hc, hb, hne, hb0, lc, lb, hm, rfl⟩, hQ⟩ := h
    have s := S.startL (N := N__law_solved) (M := []) [some (TD K d), some (TD K d2), none, none, none, none, none, none] e q
    have lb0 : 0 < b.length := List.length_pos_iff.mpr hne
    refine ⟨_, (pss_cons (ps_par (i := 2) (j := 3) (by rfl) sc__law_solved.nd rfl rfl (by decide) rfl rfl (pa_cons (pe_callTy call_listA (by rfl) T.n_list (by decide +kernel) (pa_cons (pv 0) pa_nil)) (pa_cons (pe_lst pa_nil) pa_nil)) (by rfl))
      (pss_cons (ps_for PassesOwn.never rfl (pi_range1 rfl T.n_range (pa_cons (pe_callB (call_maxA rfl) (by rfl) T.n_max (by decide +kernel) (pa_cons pe_int (pa_cons (pe_op op_addA (pe_op op_subA (pe_callB call_lenA (by rfl) T.n_len (by decide +kernel) (pa_cons (pv 0) pa_nil)) (pe_callB call_lenA (by rfl) T.n_len (by decide +kernel) (pa_cons (pv 1) pa_nil))) pe_int) pa_nil))) pa_nil)) (pg_name (i := 4) sc__law_solved.nd rfl (.inl rfl))
      (pss_cons (ps_if (pt_cmpR (op_neD hr.units) (pe_op op_modA (pe_callTy call_intA (by rfl) T.n_int (by decide +kernel) (pa_cons (pe_ix ix_seq (pv 2) (pv 4) (fun _ _ => rfl)) pa_nil)) (pe_ix ix_seq (pv 1) pe_int (fun _ _ => rfl))) pe_int (nomark _))
      (pss_one (ps_ret pe_non))
      pss_nil)
      (pss_cons (ps_set (i := 5) sc__law_solved.nd rfl (.inl rfl) (pe_op op_divA (pe_ix ix_seq (pv 2) (pv 4) (fun _ _ => rfl)) (pe_ix ix_seq (pv 1) pe_int (fun _ _ => rfl))))
      (pss_cons (ps_expr (pe_bm PySem.F.plainAttrs_list PySem.F.slot_list_append PySem.F.type_list_append mt_append (pv 3) (pa_cons (pv 5) pa_nil)))
      (pss_one (ps_for PassesOwn.never rfl (pi_enumA (by rfl) T.n_enumerate (pa_cons (pv 1) pa_nil)) (pg_tup rfl (pgs_cons (pg_name (i := 6) sc__law_solved.nd rfl (.inl rfl)) (pgs_cons (pg_name (i := 7) sc__law_solved.nd rfl (.inl rfl)) pgs_nil)))
      (pss_one (ps_asg (pe_op op_subA (pe_ix ix_seq (pv 2) (pe_op op_addA (pv 4) (pv 6)) (fun _ _ => rfl)) (pe_op op_mulAll (pv 5) (pv 7))) (pg_sub (pv 2) (pe_op op_addA (pv 4) (pv 6)) set_list)))))))))
      (pss_one (ps_ret (pe_ifExp (pt_cmpR (op_eqD hr.units) (pe_call G__law_cut (hr.mono (by decide)) (by rfl) T.g__law_cut T.F__law_cut.kp T.b__law_cut .nil pass0 (pa_cons (pv 2) pa_nil)) (pe_tup pa_nil) (nomark _)) (pe_call G__law_cut (hr.mono (by decide)) (by rfl) T.g__law_cut T.F__law_cut.kp T.b__law_cut .nil pass0 (pa_cons (pv 3) pa_nil)) pe_non))))), ?_⟩
    try dsimp only [cxOf, Cx.nox, Cx.wish, Cx.blk]
    walk_at "q"
    refine s_par (K := K) (ds := c.map .int) (es := []) s ?_ ?_ fun pl pf xs ys F H s hd hd2 hpl hpf => ?_
    · have E := s.env
      walk_at "en"
    · exact en_lst (ds := []) ea_nil (Nat.le_of_ble_eq_true rfl)
    have e1 := dpAll_ints' hd
    subst e1
    have e2 : ys = [] := by cases hd2; rfl
    subst e2
    walk_at "q"
    have key : (if ((c.length : Int) - b.length + 1) > 0 then ((c.length : Int) - b.length + 1) else 0) = (Po.solN c b : Int) := by
      unfold Po.solN
      split <;> omega
    have hsn : Po.solN c b ≤ c.length := by
      unfold Po.solN
      omega
    refine s_for (K := K) (ds := rangeD 0 ((Po.solN c b : Int)).toNat) s (ei_range1 (n := (Po.solN c b : Int)) (ea_cons ?_ ea_nil) (by omega)) (fun i ss O => ∃ x4 x5 x6 x7 l f, ss = [some (TD K d), some (TD K d2), some (TX (.ref pl)), some (TX (.ref pf)), x4, x5, x6, x7] ∧
        O = [(pf, .lst (f.map V.int)), (pl, .lst (l.map V.int))] ∧ f.length = i ∧ l.length = c.length ∧ i ≤ Po.solN c b ∧ Po.solGo b (Po.solN c b - i) i l f = Po.solC c b)
      ⟨_, _, _, _, c, [], rfl, rfl, rfl, rfl, Nat.zero_le _, rfl⟩ (fun Fw i dd x σ F H ss O hdd hI s hx => ?_) (fun σ F H ss O hI s => ?_)
    · rw [← key]
      have E := s.env
      refine ev_cb (ea_cons ev_int (ea_cons ?_ ea_nil)) rc_max
      walk_at "ev"
    · obtain ⟨x4, x5, x6, x7, l, f, rfl, rfl, hf, hl, hi, hgo⟩ := hI
      have hin : i < Po.solN c b := by
        obtain ⟨h1, _⟩ := List.getElem?_eq_some_iff.mp hdd
        simpa [rangeD] using h1
      have hdi : dd = .int (i : Nat) := by
        unfold rangeD at hdd
        rw [List.getElem?_map] at hdd
        rw [List.getElem?_range (by omega)] at hdd
        have := Option.some.inj hdd
        rw [← this]
        simp
      subst hdi
      have hib : i + b.length ≤ l.length := by
        unfold Po.solN at hin
        omega
      have hli : atI l (i : Nat) = some (Po.co l i) := atI_nat (Po.co_at (by omega))
      have hb1 : atI b 0 = some (Po.co b 0) := atI_nat (j := 0) (Po.co_at lb0)
      obtain ⟨m, hm1⟩ : ∃ m, Po.solN c b - i = m + 1 := ⟨Po.solN c b - i - 1, by omega⟩
      have s := s.set (i := 4) (T := TD K (.int (i : Nat))) hx
      show tSeq _ _ _ (σ.set 4 (some x)) H
      walk_at "q"
      refine s_if (b := !decide ((Po.co l i).fmod (Po.co b 0) = 0)) s ?_ (fun ht H s => ?_) (fun ht H s => s_next ?_)
      · have E := s.lookI (K := K) (i := 2) (k := 1) (ns := l) s.envH rfl rfl
        have hls := SeqI.l l
        rw [← eqv_int]
        refine et_test (ev_op (ev_op (ev_cb (ea_cons (ev_op (ev_var E rfl) (ev_var E rfl) (rv_ix hls hli)) ea_nil) rc_int) (ev_op (ev_var E rfl) ev_int (rv_ix hb hb1)) (rv_mod hb0)) ev_int (rv_ne sh_int sh_int))
      · have ht : (Po.co l i).fmod (Po.co b 0) ≠ 0 := of_decide_eq_false (by simpa using ht)
        refine s_ret (T := TD K (optL (Po.solC c b))) s ?_ ?_
        · rw [← hgo, hm1, Po.solGo, if_pos ht]
          exact ev_none
        · exact fun v F H s hv => hQ v F H s.gr.stp hv
      have ht : ¬ (Po.co l i).fmod (Po.co b 0) ≠ 0 := by
        intro z
        rw [decide_eq_false z] at ht
        cases ht
      rw [hm1, Po.solGo, if_neg ht] at hgo
      generalize hg : (Po.co l i).fdiv (Po.co b 0) = g at hgo
      walk_at "q"
      refine s_asgI (K := K) (n := g) s ?_ fun H s => ?_
      · have E := s.lookI (K := K) (i := 2) (k := 1) (ns := l) s.envH rfl rfl
        have hls := SeqI.l l
        rw [← hg]
        exact ev_op (ev_op (ev_var E rfl) (ev_var E rfl) (rv_ix hls hli)) (ev_op (ev_var E rfl) ev_int (rv_ix hb hb1)) (rv_div ⟨hb0, hm 0⟩)
      walk_at "q"
      refine s_appendI (K := K) (i := 3) (k := 0) (n := g) s rfl rfl (ev_var s.envH rfl) (by rw [List.length_map]; omega) fun H s => ?_
      dsimp only
      refine s_for s (ei_enum hb (ev_var s.env rfl)) (fun j ss O => ∃ x6 x7 r, ss = [some (TD K d), some (TD K d2), some (TX (.ref pl)), some (TX (.ref pf)), some (TD K (.int (i : Nat))), some (TD K (.int g)), x6, x7] ∧
          O = [(pf, .lst ((f ++ [g]).map V.int)), (pl, .lst (r.map V.int))] ∧ r.length = l.length ∧ ∀ k, Po.co r k = Po.co l k - if i ≤ k ∧ k - i < j then g * Po.co b (k - i) else 0)
        ⟨_, _, l, rfl, by rw [List.map_append]; rfl, rfl, fun k => ?_⟩ (fun Fw2 j dd x σ F H ss O hdd hI s hx => ?_) (fun σ F H ss O hI s => ?_)
      · rw [if_neg (by omega)]; omega
      · obtain ⟨x6, x7, r, rfl, rfl, lr, hr⟩ := hI
        obtain ⟨hj, rfl⟩ := enum_ints hdd
        refine g_tup2 s hx fun v w s => ?_
        have hri : atI r ((i + j : Nat) : Int) = some (Po.co r (i + j)) := atI_nat (Po.co_at (by omega))
        refine s_setI (K := K) (i := 2) (k := 1) (j := i + j) (n := Po.co r (i + j) - g * Po.co b j) s rfl rfl ?_ (fun H' e' => ?_) (by rw [List.length_map]; omega) fun H s => ?_
        · have E := s.lookI (K := K) (i := 2) (k := 1) (ns := r) s.envH rfl rfl
          have hls := SeqI.l r
          rw [Int.natCast_add] at hri
          exact ev_op (ev_op (ev_var E rfl) (ev_op (ev_var E rfl) (ev_var E rfl) rv_add) (rv_ix hls hri)) (ev_op (ev_var E rfl) (ev_var E rfl) (rv_mulB (.inl (.inr (by have := hm j; omega))))) rv_sub
        · refine ev_is (ev_op (ev_var (s.envH.mono e') rfl) (ev_var (s.envH.mono e') rfl) rv_add) ?_
          rw [Int.natCast_add]
        · dsimp only
          refine Bt.of ⟨_, _, r.set (i + j) (Po.co r (i + j) - g * Po.co b j), rfl, by rw [← ints_set (ns := r)]; rfl, by rw [List.length_set]; exact lr, fun k => ?_⟩ s
          rw [Po.co_set (by omega), hr k, hr (i + j)]
          by_cases e : i + j = k
          · subst e
            rw [if_pos rfl, show i + j - i = j by omega, if_neg (by omega), if_pos (by omega)]
            omega
          · rw [if_neg e]
            by_cases h1 : i ≤ k ∧ k - i < j
            · rw [if_pos h1, if_pos (by omega)]
            · rw [if_neg h1, if_neg (by omega)]
      · obtain ⟨x6, x7, r, rfl, rfl, lr, hr⟩ := hI
        have er : r = Po.subAt l i g b := by
          apply List.ext_getElem?
          intro k
          by_cases hk : k < r.length
          · rw [Po.co_at hk, Po.co_at (by rw [Po.len_subAt]; omega), hr k, Po.co_subAt hib, enumD_len, List.length_map]
            by_cases h1 : i ≤ k
            · rw [if_pos h1]
              split
              · rfl
              · rw [Po.co_ge (a := b) (by omega), Int.mul_zero]
            · rw [if_neg h1, if_neg (by omega)]
          · rw [List.getElem?_eq_none (by omega), List.getElem?_eq_none (by rw [Po.len_subAt]; omega)]
        dsimp only
        refine Bt.of ⟨_, _, _, _, r, f ++ [g], rfl, rfl, by rw [List.length_append, List.length_singleton, hf], by omega, by omega, ?_⟩ s
        rw [er, ← hgo, show Po.solN c b - (i + 1) = m by omega]
    · obtain ⟨x4, x5, x6, x7, l, f, rfl, rfl, hf, hl, hi, hgo⟩ := hI
      have hlen : (rangeD 0 ((Po.solN c b : Int)).toNat).length = Po.solN c b := by simp [rangeD]
      rw [hlen, Nat.sub_self, Po.solGo] at hgo
      rw [hlen] at hf
      have s := s.freezeI (j := 0) (K := K) (ns := f) (i := 3) rfl hpf rfl
      have s := s.freezeI (j := 0) (K := K) (ns := l) (i := 2) rfl hpl rfl
      dsimp only
      refine s_ret (T := TD K (optL (Po.solC c b))) s ?_ ?_
      · have E := s.env
        refine ev_if (b := decide (Po.trim l = [])) ?_ (fun hz => ?_) (fun hz => ?_)
        · rw [← eqv_tupI]
          exact et_test (ev_op (ev_call (ea_cons (ev_var E rfl) ea_nil) ⟨_, l, rfl, .l l, by omega, rfl⟩) (ev_tupT ea_nil .nil (Nat.le_of_ble_eq_true rfl)) (rv_eq sh_tupI sh_nilT))
        · rw [← hgo, if_pos (of_decide_eq_true hz)]
          exact ev_call (ea_cons (ev_var E rfl) ea_nil) ⟨_, f, rfl, .l f, by omega, rfl⟩
        · rw [← hgo, if_neg (of_decide_eq_false hz)]
          exact ev_none
      · exact fun v F H s hv => hQ v F H s.gr.stp hv
/-! ### _law_one_right -/
def pTrue : V → Hp → Prop := fun v _ => v = .bl true
def R_true : List Ty → (V → Hp → Prop) → Prop := fun Ts P => Ts = [] ∧ P = pTrue
theorem cmul_l {i j : Int} (h : -1000000 ≤ i ∧ i ≤ 1000000) : CMulA i j := .inl (.inl (by omega))
theorem cmul_r {i j : Int} (h : -1000000 ≤ j ∧ j ≤ 1000000) : CMulA i j := .inl (.inr (by omega))
theorem co_one {x : Int} {k : Nat} {lo hi : Int} (h0 : lo ≤ 0 ∧ 0 ≤ hi) (h : lo ≤ x ∧ x ≤ hi) : lo ≤ Po.co [x] k ∧ Po.co [x] k ≤ hi := co_all h0 (fun y hy => by
  have : y = x := by simpa using hy
  rw [this]; exact h) k
theorem ok__law_one_right (T : Txt K mg) : FnOk P w K mg base CX0 6 T.a__law_one_right T.d__law_one_right ["pen"] (spPen K 60 R_true) := by
  have G_times := ok_times (P := P) (w := w) (base := base) T
  have G__law_pick := ok__law_pick (P := P) (w := w) (base := base) T
  have G_divided := ok_divided (P := P) (w := w) (base := base) T
  have G__law_solved := ok__law_solved (P := P) (w := w) (base := base) T
  have G__law_counts := ok__law_counts (P := P) (w := w) (base := base) T
  have G_plus := ok_plus (P := P) (w := w) (base := base) T
  have G_less := ok_less (P := P) (w := w) (base := base) T
  have G_moved := ok_moved (P := P) (w := w) (base := base) T
  refine T.F__law_one_right.ok sc__law_one_right (fun vs H Q E h => ?len) (fun cdv A outer s H vs Q E hr h => ?body)
  case len => exact spPen_len h (by rintro _ _ ⟨rfl, _⟩; rfl)
  case body =>
    obtain ⟨F, p, c, cells, t, r, ws, Ts, P, rfl, e, hF, hH, hc, ht0, htn, hr0, hv, ⟨rfl, rfl⟩, hQ⟩ := h
    have s := S.startP (N := N__law_one_right) [some (TX (.ref p)), none, none, none, none, none, none] e hF hH hc hv
    refine ⟨_, (pss_cons (ps_set (i := 1) sc__law_one_right.nd rfl (.inl rfl) (pe_op op_addA (pe_tup (pa_cons (pe_call G__law_pick (hr.mono (by decide)) (by rfl) T.g__law_pick T.F__law_pick.kp T.b__law_pick .nil pass0 (pa_cons (pv 0) (pa_cons (pe_lst (pa_cons pe_int (pa_cons pe_int (pa_cons (pe_un un_neg pe_int) (pa_cons pe_int pa_nil))))) pa_nil))) pa_nil)) (pe_call G__law_counts (hr.mono (by decide)) (by rfl) T.g__law_counts T.F__law_counts.kp T.b__law_counts .nil pass0 (pa_cons (pv 0) (pa_cons pe_int pa_nil)))))
      (pss_cons (ps_set (i := 2) sc__law_one_right.nd rfl (.inl rfl) (pe_call G_times (hr.mono (by decide)) (by rfl) T.g_times T.F_times.kp T.b_times .nil pass0 (pa_cons (pe_call G__law_counts (hr.mono (by decide)) (by rfl) T.g__law_counts T.F__law_counts.kp T.b__law_counts .nil pass0 (pa_cons (pv 0) (pa_cons pe_int pa_nil))) (pa_cons (pv 1) pa_nil))))
      (pss_cons (ps_set (i := 3) sc__law_one_right.nd rfl (.inl rfl) (pe_call G__law_pick (hr.mono (by decide)) (by rfl) T.g__law_pick T.F__law_pick.kp T.b__law_pick .nil pass0 (pa_cons (pv 0) (pa_cons (pe_lst (pa_cons (pv 2) (pa_cons (pe_call G_plus (hr.mono (by decide)) (by rfl) T.g_plus T.F_plus.kp T.b_plus .nil pass0 (pa_cons (pv 2) (pa_cons (pe_call G__law_counts (hr.mono (by decide)) (by rfl) T.g__law_counts T.F__law_counts.kp T.b__law_counts .nil pass0 (pa_cons (pv 0) (pa_cons pe_int pa_nil))) pa_nil))) (pa_cons (pe_call G__law_counts (hr.mono (by decide)) (by rfl) T.g__law_counts T.F__law_counts.kp T.b__law_counts .nil pass0 (pa_cons (pv 0) (pa_cons pe_int pa_nil))) (pa_cons (pe_call G_times (hr.mono (by decide)) (by rfl) T.g_times T.F_times.kp T.b_times .nil pass0 (pa_cons (pv 2) (pa_cons (pe_tup (pa_cons pe_int pa_nil)) pa_nil))) (pa_cons (pe_call G_plus (hr.mono (by decide)) (by rfl) T.g_plus T.F_plus.kp T.b_plus .nil pass0 (pa_cons (pv 2) (pa_cons (pe_call G_moved (hr.mono (by decide)) (by rfl) T.g_moved T.F_moved.kp T.b_moved .nil pass0 (pa_cons (pe_tup (pa_cons pe_int pa_nil)) (pa_cons (pe_op op_addA (pe_callB call_lenA (by rfl) T.n_len (by decide +kernel) (pa_cons (pv 2) pa_nil)) pe_int) pa_nil))) pa_nil))) pa_nil)))))) pa_nil))))
      (pss_cons (ps_asg (pe_call G_divided (hr.mono (by decide)) (by rfl) T.g_divided T.F_divided.kp T.b_divided .nil pass0 (pa_cons (pv 3) (pa_cons (pv 1) pa_nil))) (pg_tup rfl (pgs_cons (pg_name (i := 4) sc__law_one_right.nd rfl (.inl rfl)) (pgs_cons (pg_name (i := 5) sc__law_one_right.nd rfl (.inl rfl)) pgs_nil))))
      (pss_cons (ps_set (i := 6) sc__law_one_right.nd rfl (.inl rfl) (pe_call G__law_solved (hr.mono (by decide)) (by rfl) T.g__law_solved T.F__law_solved.kp T.b__law_solved .nil pass0 (pa_cons (pv 3) (pa_cons (pv 1) pa_nil))))
      (pss_cons (ps_if (PW.pt (pw_or (pt_cmpR (op_neD hr.units) (pe_cmpR (op_eqD hr.units) (pv 5) (pe_tup pa_nil) (nomark _)) (pe_cmpR op_isNotAA (pv 6) pe_non (nomark _)) (nomark _)) (pw_or1 (PW.pt (pw_and (pt_cmpR op_isNotAA (pv 6) pe_non (nomark _)) (pw_and1 (pt_cmpR (op_neD hr.units) (pv 4) (pv 6) (nomark _))))))))
      (pss_one (ps_ret pe_bl))
      pss_nil)
      (pss_one (ps_ret (pe_and (pe_cmpR (op_eqD hr.units) (pv 5) (pe_call G_less (hr.mono (by decide)) (by rfl) T.g_less T.F_less.kp T.b_less .nil pass0 (pa_cons (pv 3) (pa_cons (pe_call G_times (hr.mono (by decide)) (by rfl) T.g_times T.F_times.kp T.b_times .nil pass0 (pa_cons (pv 4) (pa_cons (pv 1) pa_nil))) pa_nil))) (nomark _)) (pe_one (pe_or (pe_cmpR (op_eqD hr.units) (pv 5) (pe_tup pa_nil) (nomark _)) (pe_or (pe_cmpR op_ltA (pe_callB call_lenA (by rfl) T.n_len (by decide +kernel) (pa_cons (pv 5) pa_nil)) (pe_callB call_lenA (by rfl) T.n_len (by decide +kernel) (pa_cons (pv 1) pa_nil)) (nomark _)) (pe_one (pe_cmpR (op_neD hr.units) (pe_op op_modA (pe_callTy call_intA (by rfl) T.n_int (by decide +kernel) (pa_cons (pe_ix ix_seq (pv 5) (pe_un un_neg pe_int) (fun _ _ => rfl)) pa_nil)) (pe_ix ix_seq (pv 1) (pe_un un_neg pe_int) (fun _ _ => rfl))) pe_int (nomark _))))))))))))))), ?_⟩
    try dsimp only [cxOf, Cx.nox, Cx.wish, Cx.blk]
    walk_at "q"
    refine u_asg (u_op (u_tup (u_cons ?_)))
    refine c_pen (K := K) (j := 0) (k := 0) (c := c) (cells := cells) s rfl rfl (by walk_at "mw") ⟨ht0, by omega, hr0⟩ (ea_cons (ev_lst (ds := [.int 1, .int 2, .int (-1), .int 3]) (ea_cons ev_int (ea_cons ev_int (ea_cons (ev_un ev_int ru_neg) (ea_cons ev_int ea_nil)))) (Nat.le_of_ble_eq_true rfl)) ea_nil) ⟨_, _, rfl, .inl rfl, by simp, Nat.le_of_ble_eq_true rfl, rfl⟩ fun v F H t1 r1 s a1 a2 a3 hp => ?_
    obtain ⟨d0, hd0, hv0⟩ := hp
    obtain ⟨b0, rfl, hb0⟩ : ∃ b0 : Int, d0 = .int b0 ∧ (b0 = 1 ∨ b0 = 2 ∨ b0 = -1 ∨ b0 = 3) := by
      simp only [List.mem_cons, List.mem_nil_iff, or_false] at hd0
      rcases hd0 with rfl | rfl | rfl | rfl
      · exact ⟨1, rfl, by omega⟩
      · exact ⟨2, rfl, by omega⟩
      · exact ⟨-1, rfl, by omega⟩
      · exact ⟨3, rfl, by omega⟩
    refine u_nil ⟨by show 1 ≤ sizeLine; decide, fun pv hpv => ?_⟩
    obtain ⟨s, hv⟩ := s.newT (K := K) (ds := [.int b0]) hpv (.cons hv0 .nil)
    have s := s.keep (T := TD K (.tuple [.int b0])) hv
    refine c_pen (K := K) (j := 0) (k := 0) (c := c) (cells := cells) s rfl rfl (by walk_at "mw") ⟨a1, by omega, a3⟩ (ea_cons ev_int ea_nil) ⟨4, rfl, by decide, by decide, rfl⟩ fun w F H t2 r2 s b1 b2 b3 hp => ?_
    obtain ⟨bs, hbs, gb⟩ := hp
    obtain ⟨gct, gne, glen, gbd⟩ := gb
    refine v_op (T1 := TD K (.tuple [.int b0])) (T2 := TD K (tupI bs)) (T3 := TD K (tupI (b0 :: bs))) s (s.mrk (fT (TD K (.tuple [.int b0])) (.ref pv)) (by walk_at "mw")) hbs (rv_catT (by rw [List.length_map]; simp; omega)) fun v F H s hv => ?_
    refine v_set (T := TD K (tupI (b0 :: bs))) s hv fun s => ?_
    obtain ⟨b, hb⟩ : ∃ b, b = b0 :: bs := ⟨_, rfl⟩
    have b_len : b.length ≤ 5 := by rw [hb, List.length_cons]; omega
    have b_ne : b ≠ [] := by rw [hb]; simp
    have b_0 : Po.co b 0 ≠ 0 := by rw [hb, Po.co_zero]; omega
    have b_bd : ∀ k, -3 ≤ Po.co b k ∧ Po.co b k ≤ 3 := fun k => by
      rw [hb]
      cases k with
      | zero => rw [Po.co_zero]; omega
      | succ k => rw [Po.co_succ]; exact gbd k
    have b_ct : Po.Ct b := Po.ct_of_last fun _ => by
      have h1 := Po.ct_last gct gne
      have h2 := List.length_pos_iff.mpr gne
      rw [hb, List.length_cons, show bs.length + 1 - 1 = bs.length - 1 + 1 by omega, Po.co_succ]
      exact h1
    rw [← hb] at s
    rw [← hb] at hv
    clear hb gct gne glen gbd hbs
    -- some
    walk_at "q"
    refine u_asg (u_call (u_cons ?_))
    refine c_pen (K := K) (j := 0) (k := 0) (c := c) (cells := cells) s rfl rfl (by walk_at "mw") ⟨b1, by omega, b3⟩ (ea_cons ev_int ea_nil) ⟨4, rfl, by decide, by decide, rfl⟩ fun w1 F H t3 r3 s c1 c2 c3 hp => ?_
    obtain ⟨ms, hms, ⟨mct, mne, mlen, mbd⟩⟩ := hp
    have s := s.keep (T := TD K (tupI ms)) hms
    refine u_cons (u_var (T := TD K (tupI b)) s rfl fun w2 hw2 => u_nil ?_)
    refine v_P (Ts := [TD K (tupI ms), TD K (tupI b)]) (T := TD K (tupI (Po.mulC ms b))) s ⟨s.mrk (fT (TD K (tupI ms)) w1) (by walk_at "mw"), hw2, trivial⟩ ⟨ms, b, _, _, rfl, .t ms, .t b, mct, b_ct, by omega, by omega, fun i j => cmul_l (by have := mbd i; omega), rfl⟩ fun v F H s hv => ?_
    refine v_set (T := TD K (tupI (Po.mulC ms b))) s hv fun s => ?_
    obtain ⟨sm, hsm⟩ : ∃ sm, sm = Po.mulC ms b := ⟨_, rfl⟩
    have sm_ct : Po.Ct sm := by rw [hsm]; exact Po.ct_mulC
    have sm_len : sm.length ≤ 9 := by
      rw [hsm]
      have := Po.len_mulC (a := ms) (b := b)
      omega
    rw [← hsm] at s
    -- counts
    walk_at "q"
    refine u_asg (u_call (u_cons (u_var (T := TX (.ref p)) s rfl fun wp ewp => ?_)))
    have ewp : wp = .ref p := ewp
    subst ewp
    refine u_cons (u_lst (u_cons (u_var (T := TD K (tupI sm)) s rfl fun w0 h0 => ?_)))
    have s := s.keep (T := TD K (tupI sm)) h0
    refine u_cons (u_call (u_cons (u_var (T := TD K (tupI sm)) s rfl fun w00 h00 => u_cons ?_)))
    have s := s.keep (T := TD K (tupI sm)) (v := w00) h00
    refine c_pen (K := K) (j := 0) (k := 0) (c := c) (cells := cells) s rfl rfl (by walk_at "mw") ⟨c1, by omega, c3⟩ (ea_cons ev_int ea_nil) ⟨3, rfl, by decide, by decide, rfl⟩ fun v1 F H t4 r4 s e1 e2 e3 hp => ?_
    obtain ⟨n3, hn3, ⟨nct, nne, nlen, nbd⟩⟩ := hp
    refine u_nil (v_P (Ts := [TD K (tupI sm), TD K (tupI n3)]) (T := TD K (tupI (Po.addC sm n3 1))) s ⟨s.mrk (fT (TD K (tupI sm)) w00) (by walk_at "mw"), hn3, trivial⟩ ⟨sm, n3, _, _, rfl, .t sm, .t n3, sm_ct, nct, by omega, by omega, rfl⟩ fun v1 F H s hv1 => ?_)
    have s := s.keep (T := TD K (tupI (Po.addC sm n3 1))) hv1
    refine u_cons ?_
    refine c_pen (K := K) (j := 0) (k := 0) (c := c) (cells := cells) s rfl rfl (by walk_at "mw") ⟨e1, by omega, e3⟩ (ea_cons ev_int ea_nil) ⟨7, rfl, by decide, by decide, rfl⟩ fun v2 F H t5 r5 s f1 f2 f3 hp => ?_
    obtain ⟨n7, hn7, ⟨oct, one, olen, obd⟩⟩ := hp
    have s := s.keep (T := TD K (tupI n7)) hn7
    refine u_cons (v_ev (T := TD K (tupI (Po.mulC sm [2]))) s (ev_call (ea_cons (ev_var s.env rfl) (ea_cons (ev_tupT (ea_cons ev_int ea_nil) (.cons .nil) (Nat.le_of_ble_eq_true rfl)) ea_nil)) ⟨sm, [2], _, _, rfl, .t sm, .t [2], sm_ct, by decide, by omega, by decide, fun i j => cmul_r (co_one (by decide) (by decide)), rfl⟩) fun v3 F H s hv3 => ?_)
    have s := s.keep (T := TD K (tupI (Po.mulC sm [2]))) hv3
    refine u_cons (v_ev (T := TD K (tupI (Po.addC sm (Po.movC (sm.length + 1) [1]) 1))) s ?_ fun v4 F H s hv4 => ?_)
    · refine ev_call (ea_cons (ev_var s.env rfl) (ea_cons (ev_call (T := TD K (tupI (Po.movC (sm.length + 1) [1]))) (ea_cons (ev_tupT (ea_cons ev_int ea_nil) (.cons .nil) (Nat.le_of_ble_eq_true rfl)) (ea_cons (T := TD K (.int ((sm.length + 1 : Nat) : Int))) (ev_is (ev_op (ev_cb (ea_cons (ev_var s.env rfl) ea_nil) (rc_len (.t sm))) ev_int rv_add) (by rw [Int.natCast_add]; rfl)) ea_nil)) ⟨[1], _, sm.length + 1, rfl, .t [1], by decide, by decide, by omega, rfl⟩) ea_nil)) ⟨sm, Po.movC (sm.length + 1) [1], _, _, rfl, .t _, .t _, sm_ct, Po.ct_movC (by decide), by omega, ?_, rfl⟩
      unfold Po.movC
      rw [if_neg (by decide), List.length_append, List.length_replicate]
      simp
      omega
    have s := s.keep (T := TD K (tupI (Po.addC sm (Po.movC (sm.length + 1) [1]) 1))) hv4
    refine u_nil ?_
    have g0 : Dp K F w0 (tupI sm) := s.mrk (fT (TD K (tupI sm)) w0) (by walk_at "mw")
    have g1 : Dp K F v1 (tupI (Po.addC sm n3 1)) := s.mrk (fT (TD K (tupI (Po.addC sm n3 1))) v1) (by walk_at "mw")
    have g2 : Dp K F v2 (tupI n7) := s.mrk (fT (TD K (tupI n7)) v2) (by walk_at "mw")
    have g3 : Dp K F v3 (tupI (Po.mulC sm [2])) := s.mrk (fT (TD K (tupI (Po.mulC sm [2]))) v3) (by walk_at "mw")
    refine ⟨by show 5 ≤ sizeLine; decide, fun pL hpL => u_nil ?_⟩
    obtain ⟨s, hvL⟩ := s.newL (K := K) (ds := [tupI sm, tupI (Po.addC sm n3 1), tupI n7, tupI (Po.mulC sm [2]), tupI (Po.addC sm (Po.movC (sm.length + 1) [1]) 1)]) hpL (.cons g0 (.cons g1 (.cons g2 (.cons g3 (.cons hv4 .nil)))))
    refine v_pen (K := K) (k := 0) (c := c) (cells := cells) s rfl (by walk_at "mw") ⟨f1, by omega, f3⟩ (show All2 _ [.ref pL] [TD K _] from ⟨hvL, trivial⟩) ⟨_, _, rfl, .inl rfl, by simp, Nat.le_of_ble_eq_true rfl, rfl⟩ fun v F H t6 r6 s i1 i2 i3 hp => ?_
    obtain ⟨dc, hdc, hvc⟩ := hp
    obtain ⟨cc, rfl, cc_ct, cc_len⟩ : ∃ cc, dc = tupI cc ∧ Po.Ct cc ∧ cc.length ≤ 40 := by
      have hmv : (Po.movC (sm.length + 1) [1]).length ≤ 11 := by
        unfold Po.movC
        rw [if_neg (by decide), List.length_append, List.length_replicate]
        simp
        omega
      simp only [List.mem_cons, List.mem_nil_iff, or_false] at hdc
      rcases hdc with rfl | rfl | rfl | rfl | rfl
      · exact ⟨_, rfl, sm_ct, by omega⟩
      · exact ⟨_, rfl, Po.ct_addC, by have := Po.len_addC (a := sm) (b := n3) (f := 1); omega⟩
      · exact ⟨_, rfl, oct, by omega⟩
      · exact ⟨_, rfl, Po.ct_mulC, by have := Po.len_mulC (a := sm) (b := [2]); simp at this; omega⟩
      · exact ⟨_, rfl, Po.ct_addC, by have := Po.len_addC (a := sm) (b := Po.movC (sm.length + 1) [1]) (f := 1); omega⟩
    refine v_set (T := TD K (tupI cc)) s hvc fun s => ?_
    -- quotient, left
    have D := Po.divC_ok cc_ct b_ct b_ne
    walk_at "q"
    refine u_asg (v_ev (T := TD K (.tuple [tupI (Po.divC cc b).1, tupI (Po.divC cc b).2])) s (ev_call (ea_cons (ev_var s.env rfl) (ea_cons (ev_var s.env rfl) ea_nil)) ⟨cc, b, _, _, rfl, .t cc, .t b, cc_ct, b_ct, b_ne, by omega, by omega, fun k => by have := b_bd k; omega, rfl⟩) fun v F H s hv => g_tup2 s hv fun v w s => ?_)
    have hsol := Po.sol_div cc_ct b_ct b_ne b_0
    generalize Po.divC cc b = qq at s D hsol
    obtain ⟨q, l⟩ := qq
    walk_at "q"
    refine s_asg (T := TD K (optL (Po.solC cc b))) s (ev_call (ea_cons (ev_var s.env rfl) (ea_cons (ev_var s.env rfl) ea_nil)) ⟨cc, b, _, _, rfl, .t cc, .t b, b_ne, b_0, by omega, by omega, fun k => by have := b_bd k; omega, rfl⟩) fun v F H s => ?_
    rw [hsol] at s
    walk_at "q"
    refine s_ifF s ?_ fun H s => s_next ?_
    · have E := s.envH
      by_cases hl : l = []
      · rw [if_pos hl] at E
        subst hl
        refine et_or (a := false) (b := false) (et_is (et_test (ev_op (ev_op (ev_var E rfl) (ev_tupT ea_nil .nil (Nat.le_of_ble_eq_true rfl)) (rv_eq sh_tupI sh_nilT)) (ev_op (ev_var E rfl) ev_none rv_isNotA) (rv_ne sh_bool sh_bool))) ?_) fun _ => et_and (a := true) (b := false) (et_is (et_test (ev_op (ev_var E rfl) ev_none rv_isNotA)) rfl) fun _ => et_is (et_test (ev_op (ev_var E rfl) (ev_var E rfl) (rv_ne sh_tupI sh_tupI))) ?_
        · rfl
        · show (!PyData.eqv (tupI q) (tupI q)) = false
          rw [eqv_tupI, decide_eq_true rfl]; rfl
      · rw [if_neg hl] at E
        refine et_or (a := false) (b := false) (et_is (et_test (ev_op (ev_op (ev_var E rfl) (ev_tupT ea_nil .nil (Nat.le_of_ble_eq_true rfl)) (rv_eq sh_tupI sh_nilT)) (ev_op (ev_var E rfl) ev_none rv_isNotA) (rv_ne sh_bool sh_bool))) ?_) fun _ => et_and (a := false) (b := false) (et_is (et_test (ev_op (ev_var E rfl) ev_none rv_isNotA)) rfl) fun z => by cases z
        show (!PyData.eqv (.bool (PyData.eqv (tupI l) (tupI []))) (.bool false)) = false
        rw [eqv_tupI, decide_eq_false hl]; rfl
    dsimp only
    refine s_ret (T := TD K (.bool true)) s ?_ fun v F H s hv => ?_
    · have E := s.env
      have hlq : l = Po.addC cc (Po.mulC q b) (-1) := Po.ct_ext D.ctl Po.ct_addC fun k => by
        rw [Po.co_addC, Po.co_mulC]
        have this : Po.co cc k = Po.cv q.length (Po.co q) (Po.co b) k + Po.co l k := D.eq q.length k (Nat.le_refl _)
        omega
      have hql : q.length ≤ 41 := by have := D.leq; simp only at this; omega
      refine ev_andV (a := true) (b := true) (ev_is (ev_op (ev_var E rfl) (ev_call (T := TD K (tupI (Po.addC cc (Po.mulC q b) (-1)))) (ea_cons (ev_var E rfl) (ea_cons (ev_call (T := TD K (tupI (Po.mulC q b))) (ea_cons (ev_var E rfl) (ea_cons (ev_var E rfl) ea_nil)) ⟨q, b, _, _, rfl, .t q, .t b, D.ctq, b_ct, by omega, by omega, fun i j => cmul_r (by have := b_bd j; omega), rfl⟩) ea_nil)) ⟨cc, Po.mulC q b, _, _, rfl, .t _, .t _, cc_ct, Po.ct_mulC, by omega, by have := Po.len_mulC (a := q) (b := b); omega, rfl⟩) (rv_eq sh_tupI sh_tupI)) ?_) fun _ => ?_
      · rw [eqv_tupI, decide_eq_true hlq]
      · have hbx : atI b (-1) = some (Po.lastC b) := atI_lastI b_ne
        have hbl : Po.lastC b ≠ 0 := Po.ct_last b_ct b_ne
        refine ev_is (ev_orV (K := K) (a := decide (l = [])) (b := decide ((l.length : Int) < b.length) || !decide ((Po.lastC l).fmod (Po.lastC b) = 0)) ?_ fun ho => ev_orV (K := K) (a := decide ((l.length : Int) < b.length)) (b := !decide ((Po.lastC l).fmod (Po.lastC b) = 0)) ?_ fun _ => ?_) ?_
        · rw [← eqv_tupI]
          exact ev_op (ev_var E rfl) (ev_tupT ea_nil .nil (Nat.le_of_ble_eq_true rfl)) (rv_eq sh_tupI sh_nilT)
        · exact ev_op (ev_cb (ea_cons (ev_var E rfl) ea_nil) (rc_len (.t l))) (ev_cb (ea_cons (ev_var E rfl) ea_nil) (rc_len (.t b))) rv_lt
        · have hlx : atI l (-1) = some (Po.lastC l) := atI_lastI (of_decide_eq_false ho)
          rw [← eqv_int]
          exact ev_op (ev_op (ev_cb (ea_cons (ev_op (ev_var E rfl) (ev_un ev_int ru_neg) (rv_ix (.t l) hlx)) ea_nil) rc_int) (ev_op (ev_var E rfl) (ev_un ev_int ru_neg) (rv_ix (.t b) hbx)) (rv_mod hbl)) ev_int (rv_ne sh_int sh_int)
        · refine congrArg (fun b => TD K (.bool b)) ?_
          rcases D.stop with h | h
          · rw [decide_eq_true (show (l.length : Int) < b.length by simp only at h; omega)]; simp
          · rw [decide_eq_false (show ¬ (Po.lastC l).fmod (Po.lastC b) = 0 from fun z => h (Po.fmod_dvd.mp z))]; simp
    · obtain ⟨m1, m2, _⟩ := s.mem (k := 0) rfl
      exact hQ v F H t6 r6 s.gr m1 m2 i1 (by omega) i3 (dp_bool hv)
/-! ### _law_shares_right -/
theorem ok__law_shares_right (T : Txt K mg) : FnOk P w K mg base CX0 6 T.a__law_shares_right T.d__law_shares_right ["pen"] (spPen K 60 R_true) := by
  have G_times := ok_times (P := P) (w := w) (base := base) T
  have G__law_counts := ok__law_counts (P := P) (w := w) (base := base) T
  have G__law_pick := ok__law_pick (P := P) (w := w) (base := base) T
  have G_divided := ok_divided (P := P) (w := w) (base := base) T
  refine T.F__law_shares_right.ok sc__law_shares_right (fun vs H Q E h => ?len) (fun cdv A outer s H vs Q E hr h => ?body)
  case len => exact spPen_len h (by rintro _ _ ⟨rfl, _⟩; rfl)
  case body =>
    obtain ⟨F, p, c, cells, t, r, ws, Ts, P, rfl, e, hF, hH, hc, ht0, htn, hr0, hv, ⟨rfl, rfl⟩, hQ⟩ := h
    have s := S.startP (N := N__law_shares_right) [some (TX (.ref p)), none, none, none, none, none, none] e hF hH hc hv
    refine ⟨_, (pss_cons (ps_asg (pe_tup (pa_cons (pe_call G__law_counts (hr.mono (by decide)) (by rfl) T.g__law_counts T.F__law_counts.kp T.b__law_counts .nil pass0 (pa_cons (pv 0) (pa_cons pe_int pa_nil))) (pa_cons (pe_call G__law_counts (hr.mono (by decide)) (by rfl) T.g__law_counts T.F__law_counts.kp T.b__law_counts .nil pass0 (pa_cons (pv 0) (pa_cons pe_int pa_nil))) (pa_cons (pe_call G__law_pick (hr.mono (by decide)) (by rfl) T.g__law_pick T.F__law_pick.kp T.b__law_pick .nil pass0 (pa_cons (pv 0) (pa_cons (pe_lst (pa_cons pe_int (pa_cons pe_int (pa_cons pe_int pa_nil)))) pa_nil))) pa_nil)))) (pg_tup rfl (pgs_cons (pg_name (i := 1) sc__law_shares_right.nd rfl (.inl rfl)) (pgs_cons (pg_name (i := 2) sc__law_shares_right.nd rfl (.inl rfl)) (pgs_cons (pg_name (i := 3) sc__law_shares_right.nd rfl (.inr rfl)) pgs_nil)))))
      (pss_cons (ps_set (i := 4) sc__law_shares_right.nd rfl (.inl rfl) (pe_call G_times (hr.mono (by decide)) (by rfl) T.g_times T.F_times.kp T.b_times .nil pass0 (pa_cons (pv 1) (pa_cons (pe_tup (pa_cons (pv 3) pa_nil)) pa_nil))))
      (pss_cons (ps_set (i := 5) sc__law_shares_right.nd rfl (.inl rfl) (pe_cmpR (op_eqD hr.units) (pe_lc (own := [("one", 6)]) rfl sc__law_shares_right.nd (pi_seq (pv 2)) (blkOk_by (own := [("one", 6)]) (N := N__law_shares_right) (sc := defScope s__law_shares_right) (by decide +kernel)) (fun _ _ _ _ _ => (pg_name (i := 6) sc__law_shares_right.nd rfl (.inl rfl))) (fun _ _ _ _ _ => pts_one (pt_cmpR (opK (K := K) rNeD rfl (op_neD hr.units)) (pe_op op_modA (pe_callTy call_intA (by rfl) T.n_int (by decide +kernel) (pa_cons (pv 6) pa_nil)) (pv 3)) pe_int (nomark _))) (fun _ _ _ _ _ => pe_int)) (pe_lst pa_nil) (nomark _)))
      (pss_one (ps_ret (pe_and (pe_cmpR (op_eqD hr.units) (pe_cmpR (op_eqD hr.units) (pe_ix ix_seq (pe_call G_divided (hr.mono (by decide)) (by rfl) T.g_divided T.F_divided.kp T.b_divided .nil pass0 (pa_cons (pe_call G_times (hr.mono (by decide)) (by rfl) T.g_times T.F_times.kp T.b_times .nil pass0 (pa_cons (pv 2) (pa_cons (pv 1) pa_nil))) (pa_cons (pv 4) pa_nil))) pe_int (fun _ _ => rfl)) (pe_tup pa_nil) (nomark _)) (pv 5) (nomark _)) (pe_one (pe_cmpR (op_eqD hr.units) (pe_call G_divided (hr.mono (by decide)) (by rfl) T.g_divided T.F_divided.kp T.b_divided .nil pass0 (pa_cons (pe_call G_times (hr.mono (by decide)) (by rfl) T.g_times T.F_times.kp T.b_times .nil pass0 (pa_cons (pv 2) (pa_cons (pv 4) pa_nil))) (pa_cons (pv 4) pa_nil))) (pe_tup (pa_cons (pv 2) (pa_cons (pe_tup pa_nil) pa_nil))) (nomark _))))))))), ?_⟩
    try dsimp only [cxOf, Cx.nox, Cx.wish, Cx.blk]
    walk_at "q"
    refine u_asg (u_tup (u_cons ?_))
    refine c_pen (K := K) (j := 0) (k := 0) (c := c) (cells := cells) s rfl rfl (by walk_at "mw") ⟨ht0, by omega, hr0⟩ (ea_cons ev_int ea_nil) ⟨4, rfl, by decide, by decide, rfl⟩ fun v1 F H t1 r1 s a1 a2 a3 hp => ?_
    obtain ⟨b, hb, ⟨bct, bne, blen, bbd⟩⟩ := hp
    have s := s.keep (T := TD K (tupI b)) hb
    refine u_cons ?_
    refine c_pen (K := K) (j := 0) (k := 0) (c := c) (cells := cells) s rfl rfl (by walk_at "mw") ⟨a1, by omega, a3⟩ (ea_cons ev_int ea_nil) ⟨4, rfl, by decide, by decide, rfl⟩ fun v2 F H t2 r2 s b1 b2 b3 hp => ?_
    obtain ⟨sm, hsm, ⟨sct, sne, slen, sbd⟩⟩ := hp
    have s := s.keep (T := TD K (tupI sm)) hsm
    refine u_cons ?_
    refine c_pen (K := K) (j := 0) (k := 0) (c := c) (cells := cells) s rfl rfl (by walk_at "mw") ⟨b1, by omega, b3⟩ (ea_cons (ev_lst (ds := [.int 2, .int 3, .int 5]) (ea_cons ev_int (ea_cons ev_int (ea_cons ev_int ea_nil))) (Nat.le_of_ble_eq_true rfl)) ea_nil) ⟨_, _, rfl, .inl rfl, by simp, Nat.le_of_ble_eq_true rfl, rfl⟩ fun v3 F H t3 r3 s c1 c2 c3 hp => ?_
    obtain ⟨d0, hd0, hv0⟩ := hp
    obtain ⟨n, rfl, hn⟩ : ∃ n : Int, d0 = .int n ∧ (n = 2 ∨ n = 3 ∨ n = 5) := by
      simp only [List.mem_cons, List.mem_nil_iff, or_false] at hd0
      rcases hd0 with rfl | rfl | rfl
      · exact ⟨2, rfl, by omega⟩
      · exact ⟨3, rfl, by omega⟩
      · exact ⟨5, rfl, by omega⟩
    refine u_nil ⟨by show 3 ≤ sizeLine; decide, fun pT hpT => ?_⟩
    have g1 : Dp K F v1 (tupI b) := s.mrk (fT (TD K (tupI b)) v1) (by walk_at "mw")
    have g2 : Dp K F v2 (tupI sm) := s.mrk (fT (TD K (tupI sm)) v2) (by walk_at "mw")
    obtain ⟨s, hvT⟩ := s.newT (K := K) (ds := [tupI b, tupI sm, .int n]) hpT (.cons g1 (.cons g2 (.cons hv0 .nil)))
    refine g_tup3 s hvT fun v w u s => ?_
    walk_at "q"
    have hn0 : n ≠ 0 := by omega
    refine s_asg (T := TD K (tupI (Po.mulC b [n]))) s (ev_call (ea_cons (ev_var s.env rfl) (ea_cons (ev_tupT (ea_cons (ev_var s.env rfl) ea_nil) (.cons .nil) (Nat.le_of_ble_eq_true rfl)) ea_nil)) ⟨b, [n], _, _, rfl, .t b, .t [n], bct, Po.ct_of_last (fun _ => hn0), by omega, by simp, fun i j => cmul_r (co_one (by decide) (by omega)), rfl⟩) fun v F H s => ?_
    have g_co : ∀ k, Po.co (Po.mulC b [n]) k = n * Po.co b k := fun k => Po.mul_one_list hn0
    have g_ne : Po.mulC b [n] ≠ [] := Po.ct_ne Po.ct_mulC (b.length - 1) (by rw [g_co]; exact Int.mul_ne_zero hn0 (Po.ct_last bct bne))
    have g_len : (Po.mulC b [n]).length ≤ 5 := by have := Po.len_mulC (a := b) (b := [n]); simp at this; omega
    have g_bd : ∀ k, -15 ≤ Po.co (Po.mulC b [n]) k ∧ Po.co (Po.mulC b [n]) k ≤ 15 := fun k => by
      rw [g_co]
      have := bbd k
      rcases hn with rfl | rfl | rfl <;> omega
    walk_at "q"
    obtain ⟨xs, hxs⟩ : ∃ xs : List Int, xs = ((List.range sm.length).filter fun i => !decide ((Po.co sm i).fmod n = 0)).map fun _ => (1 : Int) := ⟨_, rfl⟩
    have hxs2 : xs = [] ↔ ∀ k, n ∣ Po.co sm k := by
      rw [hxs, List.map_eq_nil_iff, List.filter_eq_nil_iff]
      constructor
      · intro h k
        by_cases hk : k < sm.length
        · have := h k (List.mem_range.mpr hk)
          simp at this
          exact Po.fmod_dvd.mp this
        · rw [Po.co_ge (by omega)]; exact Int.dvd_zero n
      · intro h k _
        simp
        exact Po.fmod_dvd.mpr (h k)
    refine s_asg (T := TD K (.bool (decide (xs = [])))) s ?_ fun v F H s => ?_
    · have E := s.env
      rw [← eqv_lstI (ms := [])]
      refine ev_op (ev_new (en_is (en_lc (List.mem_singleton.mpr rfl) (ei_tuple (ev_var E rfl)) (fun i => !decide ((Po.co sm i).fmod n = 0)) (fun _ => .int 1) (by rw [List.length_map]; omega) (fun i d F' x hd e' hx => ?_) (fun i d F' x hd _ e' hx => ev_int)) ?_)) (ev_lst (ds := []) ea_nil (Nat.le_of_ble_eq_true rfl)) (rv_eq sh_lstI sh_nilL)
      · have hd' : d = .int (Po.co sm i) := by
          rw [List.getElem?_map] at hd
          cases e : sm[i]? with
          | none => rw [e] at hd; cases hd
          | some y => rw [e] at hd; cases hd; rw [Po.co_some e]
        subst hd'
        have E := Env.set (i := 6) (T := TD K (.int (Po.co sm i))) hx ((E.mono e').wipe [6])
        rw [← eqv_int]
        exact et_test (ev_op (ev_op (ev_cb (ea_cons (ev_var E rfl) ea_nil) rc_int) (ev_var E rfl) (rv_mod hn0)) ev_int (rv_ne sh_int sh_int))
      · rw [hxs, List.map_map, List.length_map]; rfl
    dsimp only
    refine s_ret (T := TD K (.bool true)) s ?_ fun v F H s hv => ?_
    · have E := s.env
      have hsh : ∀ a b : List Int, Sn 2 (.tuple [tupI a, tupI b]) := fun a b => sn_tuple fun d hd => by
        simp only [List.mem_cons, List.mem_nil_iff, or_false] at hd
        rcases hd with rfl | rfl
        · exact sn_tupI
        · exact sn_tupI
      refine ev_andV (a := true) (b := true) (ev_is (ev_op (ev_op (ev_op (ev_call (T := TD K (.tuple [tupI (Po.divC (Po.mulC sm b) (Po.mulC b [n])).1, tupI (Po.divC (Po.mulC sm b) (Po.mulC b [n])).2])) (ea_cons (ev_call (T := TD K (tupI (Po.mulC sm b))) (ea_cons (ev_var E rfl) (ea_cons (ev_var E rfl) ea_nil)) ⟨sm, b, _, _, rfl, .t sm, .t b, sct, bct, by omega, by omega, fun i j => cmul_l (by have := sbd i; omega), rfl⟩) (ea_cons (ev_var E rfl) ea_nil)) ⟨_, _, _, _, rfl, .t _, .t _, Po.ct_mulC, Po.ct_mulC, g_ne, by have := Po.len_mulC (a := sm) (b := b); omega, by omega, fun k => by have := g_bd k; omega, rfl⟩) ev_int (rv_ixT (d := tupI (Po.divC (Po.mulC sm b) (Po.mulC b [n])).2) rfl)) (ev_tupT ea_nil .nil (Nat.le_of_ble_eq_true rfl)) (rv_eq sh_tupI sh_nilT)) (ev_var E rfl) (rv_eq sh_bool sh_bool)) ?_) fun _ => ?_
      · have e1 : PyData.eqv (tupI (Po.divC (Po.mulC sm b) (Po.mulC b [n])).2) (.tuple []) = decide ((Po.divC (Po.mulC sm b) (Po.mulC b [n])).2 = []) := eqv_tupI (ms := [])
        have e2 : decide ((Po.divC (Po.mulC sm b) (Po.mulC b [n])).2 = []) = decide (xs = []) := by
          have := Po.shares (n := n) sct bct bne hn0
          by_cases h : xs = []
          · rw [decide_eq_true h, decide_eq_true (this.mpr (hxs2.mp h))]
          · rw [decide_eq_false h, decide_eq_false (fun z => h (hxs2.mpr (this.mp z)))]
        rw [e1, e2]
        refine congrArg (fun b => TD K (.bool b)) ?_
        cases decide (xs = []) <;> rfl
      · have hd := Po.mul_div (s := sm) (b := Po.mulC b [n]) sct Po.ct_mulC g_ne
        refine ev_is (ev_op (ev_call (T := TD K (.tuple [tupI (Po.divC (Po.mulC sm (Po.mulC b [n])) (Po.mulC b [n])).1, tupI (Po.divC (Po.mulC sm (Po.mulC b [n])) (Po.mulC b [n])).2])) (ea_cons (ev_call (T := TD K (tupI (Po.mulC sm (Po.mulC b [n])))) (ea_cons (ev_var E rfl) (ea_cons (ev_var E rfl) ea_nil)) ⟨sm, _, _, _, rfl, .t sm, .t _, sct, Po.ct_mulC, by omega, by omega, fun i j => cmul_l (by have := sbd i; omega), rfl⟩) (ea_cons (ev_var E rfl) ea_nil)) ⟨_, _, _, _, rfl, .t _, .t _, Po.ct_mulC, Po.ct_mulC, g_ne, by have := Po.len_mulC (a := sm) (b := Po.mulC b [n]); omega, by omega, fun k => by have := g_bd k; omega, rfl⟩) (ev_tupT (ds := [tupI sm, tupI []]) (ea_cons (ev_var E rfl) (ea_cons (ev_tupT ea_nil .nil (Nat.le_of_ble_eq_true rfl)) ea_nil)) (.cons (.cons .nil)) (Nat.le_of_ble_eq_true rfl)) (rv_eq ((hsh _ _).sh (by decide)) ((hsh _ _).sh (by decide)))) ?_
        rw [hd]
        exact congrArg (fun b => TD K (.bool b)) (eqv_self (hsh sm []))
    · obtain ⟨m1, m2, _⟩ := s.mem (k := 0) rfl
      exact hQ v F H t3 r3 s.gr m1 m2 c1 (by omega) c3 (dp_bool hv)
/-! ### _law_powers_right -/
theorem ok__law_powers_right (T : Txt K mg) : FnOk P w K mg base CX0 6 T.a__law_powers_right T.d__law_powers_right ["pen"] (spPen K 60 R_true) := by
  have G_less := ok_less (P := P) (w := w) (base := base) T
  have G__law_draw := ok__law_draw (P := P) (w := w) (base := base) T
  have G_moved := ok_moved (P := P) (w := w) (base := base) T
  have G_divided := ok_divided (P := P) (w := w) (base := base) T
  refine T.F__law_powers_right.ok sc__law_powers_right (fun vs H Q E h => ?len) (fun cdv A outer s H vs Q E hr h => ?body)
  case len => exact spPen_len h (by rintro _ _ ⟨rfl, _⟩; rfl)
  case body =>
    obtain ⟨F, p, c, cells, t, r, ws, Ts, P, rfl, e, hF, hH, hc, ht0, htn, hr0, hv, ⟨rfl, rfl⟩, hQ⟩ := h
    have s := S.startP (N := N__law_powers_right) [some (TX (.ref p)), none, none, none, none, none] e hF hH hc hv
    refine ⟨_, (pss_cons (ps_par (i := 1) (j := 2) (by rfl) sc__law_powers_right.nd rfl rfl (by decide) rfl rfl (pa_cons (pe_call G__law_draw (hr.mono (by decide)) (by rfl) T.g__law_draw T.F__law_draw.kp T.b__law_draw .nil pass0 (pa_cons (pv 0) (pa_cons pe_int pa_nil))) (pa_cons (pe_op op_addA pe_int (pe_call G__law_draw (hr.mono (by decide)) (by rfl) T.g__law_draw T.F__law_draw.kp T.b__law_draw .nil pass0 (pa_cons (pv 0) (pa_cons pe_int pa_nil)))) pa_nil)) (by rfl))
      (pss_cons (ps_set (i := 3) sc__law_powers_right.nd rfl (.inl rfl) (pe_call G_less (hr.mono (by decide)) (by rfl) T.g_less T.F_less.kp T.b_less .nil pass0 (pa_cons (pe_call G_moved (hr.mono (by decide)) (by rfl) T.g_moved T.F_moved.kp T.b_moved .nil pass0 (pa_cons (pe_tup (pa_cons pe_int pa_nil)) (pa_cons (pe_op op_addA (pv 1) (pv 2)) pa_nil))) (pa_cons (pe_call G_moved (hr.mono (by decide)) (by rfl) T.g_moved T.F_moved.kp T.b_moved .nil pass0 (pa_cons (pe_tup (pa_cons pe_int pa_nil)) (pa_cons (pv 1) pa_nil))) pa_nil))))
      (pss_cons (ps_for PassesOwn.never rfl (pi_seq (pe_tup (pa_cons (pe_tup (pa_cons (pe_tup (pa_cons pe_int (pa_cons pe_int (pa_cons pe_int pa_nil)))) (pa_cons pe_int pa_nil))) (pa_cons (pe_tup (pa_cons (pe_tup (pa_cons pe_int (pa_cons (pe_un un_neg pe_int) (pa_cons pe_int pa_nil)))) (pa_cons pe_int pa_nil))) (pa_cons (pe_tup (pa_cons (pe_tup (pa_cons pe_int (pa_cons pe_int (pa_cons pe_int pa_nil)))) (pa_cons pe_int pa_nil))) (pa_cons (pe_tup (pa_cons (pe_tup (pa_cons (pe_un un_neg pe_int) (pa_cons pe_int pa_nil))) (pa_cons pe_int pa_nil))) (pa_cons (pe_tup (pa_cons (pe_tup (pa_cons pe_int (pa_cons pe_int pa_nil))) (pa_cons pe_int pa_nil))) pa_nil))))))) (pg_tup rfl (pgs_cons (pg_name (i := 4) sc__law_powers_right.nd rfl (.inl rfl)) (pgs_cons (pg_name (i := 5) sc__law_powers_right.nd rfl (.inl rfl)) pgs_nil)))
      (pss_one (ps_if (pt_cmpR (op_neD hr.units) (pe_cmpR (op_eqD hr.units) (pe_ix ix_seq (pe_call G_divided (hr.mono (by decide)) (by rfl) T.g_divided T.F_divided.kp T.b_divided .nil pass0 (pa_cons (pv 3) (pa_cons (pv 4) pa_nil))) pe_int (fun _ _ => rfl)) (pe_tup pa_nil) (nomark _)) (pe_cmpR (op_eqD hr.units) (pe_op op_modA (pe_callTy call_intA (by rfl) T.n_int (by decide +kernel) (pa_cons (pv 2) pa_nil)) (pv 5)) pe_int (nomark _)) (nomark _))
      (pss_one (ps_ret pe_bl))
      pss_nil)))
      (pss_one (ps_ret pe_bl))))), ?_⟩
    try dsimp only [cxOf, Cx.nox, Cx.wish, Cx.blk]
    walk_at "q"
    refine u_cons ?_
    refine c_pen (K := K) (j := 0) (k := 0) (c := c) (cells := cells) s rfl rfl (by walk_at "mw") ⟨ht0, by omega, hr0⟩ (ea_cons ev_int ea_nil) ⟨12, rfl, by decide, by decide, rfl⟩ fun v F H t1 r1 s a1 a2 a3 hp => ?_
    obtain ⟨lo, rfl, lo0, lo1⟩ := hp
    refine u_cons (u_op (u_int ?_))
    refine c_pen (K := K) (j := 0) (k := 0) (c := c) (cells := cells) s rfl rfl (by walk_at "mw") ⟨a1, by omega, a3⟩ (ea_cons ev_int ea_nil) ⟨30, rfl, by decide, by decide, rfl⟩ fun v F H t2 r2 s b1 b2 b3 hp => ?_
    obtain ⟨st, rfl, st0, st1⟩ := hp
    refine .inl (.inl ⟨1, st, rfl, rfl, u_nil ⟨_, _, rfl, ?_⟩⟩)
    obtain ⟨low, rfl⟩ : ∃ n : Nat, lo = (n : Int) := ⟨lo.toNat, by omega⟩
    obtain ⟨step, hstep⟩ : ∃ n : Nat, 1 + st = (n : Int) := ⟨(1 + st).toNat, by omega⟩
    have s := (s.set (i := 1) (T := TD K (.int (low : Int))) (.int _)).set (i := 2) (T := TD K (.int (step : Int))) (show Dp K F (V.int (1 + st)) (.int (step : Int)) by rw [hstep]; exact .int _)
    dsimp only
    walk_at "q"
    have ev1 : ∀ F σ (ss : List Sl), DL.Env F σ ss → Ev (tTup (tCons (tC (.int 1)) tNil)) σ F (TD K (tupI [1])) := fun F σ ss E => ev_tupT (ea_cons ev_int ea_nil) (.cons .nil) (Nat.le_of_ble_eq_true rfl)
    have mlen : ∀ n : Nat, n ≤ 50 → (Po.movC n [1]).length ≤ 60 := fun n hn => by
      unfold Po.movC
      rw [if_neg (by decide), List.length_append, List.length_replicate]
      simp
      omega
    refine s_asg (T := TD K (tupI (Po.addC (Po.movC (low + step) [1]) (Po.movC low [1]) (-1)))) s ?_ fun v F H s => ?_
    · have E := s.env
      refine ev_call (ea_cons (ev_call (T := TD K (tupI (Po.movC (low + step) [1]))) (ea_cons (ev1 _ _ _ E) (ea_cons (T := TD K (.int ((low + step : Nat) : Int))) (ev_is (ev_op (ev_var E rfl) (ev_var E rfl) rv_add) (by rw [Int.natCast_add])) ea_nil)) ⟨[1], _, low + step, rfl, .t [1], by decide, by decide, by omega, rfl⟩)
        (ea_cons (ev_call (T := TD K (tupI (Po.movC low [1]))) (ea_cons (ev1 _ _ _ E) (ea_cons (ev_var E rfl) ea_nil)) ⟨[1], _, low, rfl, .t [1], by decide, by decide, by omega, rfl⟩) ea_nil)) ⟨_, _, _, _, rfl, .t _, .t _, Po.ct_movC (by decide), Po.ct_movC (by decide), by have := mlen (low + step) (by omega); omega, by have := mlen low (by omega); omega, rfl⟩
    have c_ct : Po.Ct (Po.addC (Po.movC (low + step) [1]) (Po.movC low [1]) (-1)) := Po.ct_addC
    have c_len : (Po.addC (Po.movC (low + step) [1]) (Po.movC low [1]) (-1)).length ≤ 60 := by
      have := Po.len_addC (a := Po.movC (low + step) [1]) (b := Po.movC low [1]) (f := -1)
      have := mlen (low + step) (by omega)
      have := mlen low (by omega)
      omega
    have c_co : ∀ k, Po.co (Po.addC (Po.movC (low + step) [1]) (Po.movC low [1]) (-1)) k = Po.dl (low + step) k - Po.dl low k := fun k => by
      have one : ∀ n, Po.co (Po.movC n [1]) k = Po.dl n k := fun n => by
        rw [Po.co_movC]
        unfold Po.dl
        by_cases h : n ≤ k
        · rw [if_pos h]
          by_cases h2 : k = n
          · rw [if_pos h2, h2, Nat.sub_self]; rfl
          · rw [if_neg h2, Po.co_ge (by simp; omega)]
        · rw [if_neg h, if_neg (by omega)]
      rw [Po.co_addC, one, one]
      omega
    generalize Po.addC (Po.movC (low + step) [1]) (Po.movC low [1]) (-1) = cc at s c_ct c_len c_co
    walk_at "q"
    -- the five
    have five : ∀ dd ∈ ([.tuple [tupI [1, 1, 1], .int 3], .tuple [tupI [1, -1, 1], .int 6], .tuple [tupI [1, 0, 1], .int 4], .tuple [tupI [-1, 1], .int 1], .tuple [tupI [1, 1], .int 2]] : List PyData), ∃ (by' : List Int) (n : Nat), dd = .tuple [tupI by', .int (n : Int)] ∧ 0 < n ∧ Po.Ct by' ∧ by' ≠ [] ∧ by'.length ≤ 3 ∧ (∀ k, (Po.co by' k).natAbs < 1073741824) ∧ ((Po.divC cc by').2 = [] ↔ step % n = 0) := fun dd hd => by
      have bd : ∀ (l : List Int), (∀ x ∈ l, -1 ≤ x ∧ x ≤ 1) → ∀ k, (Po.co l k).natAbs < 1073741824 := fun l hl k => by
        have := co_all (by decide) hl k
        omega
      simp only [List.mem_cons, List.mem_nil_iff, or_false] at hd
      rcases hd with rfl | rfl | rfl | rfl | rfl
      · exact ⟨_, 3, rfl, by decide, by decide, by decide, by decide, bd _ (by decide), Po.pow3 c_ct c_co⟩
      · exact ⟨_, 6, rfl, by decide, by decide, by decide, by decide, bd _ (by decide), Po.pow6 c_ct c_co⟩
      · exact ⟨_, 4, rfl, by decide, by decide, by decide, by decide, bd _ (by decide), Po.pow4 c_ct c_co⟩
      · exact ⟨_, 1, rfl, by decide, by decide, by decide, by decide, bd _ (by decide), Po.pow1 c_ct c_co⟩
      · exact ⟨_, 2, rfl, by decide, by decide, by decide, by decide, bd _ (by decide), Po.pow2 c_ct c_co⟩
    refine s_for (K := K) (ds := [.tuple [tupI [1, 1, 1], .int 3], .tuple [tupI [1, -1, 1], .int 6], .tuple [tupI [1, 0, 1], .int 4], .tuple [tupI [-1, 1], .int 1], .tuple [tupI [1, 1], .int 2]]) s ?_ (fun i ss O => ∃ x4 x5, ss = [some (TX (.ref p)), some (TD K (.int (low : Int))), some (TD K (.int (step : Int))), some (TD K (tupI cc)), x4, x5] ∧ O = [(p, penO c t2 r2)])
      ⟨_, _, rfl, rfl⟩ (fun Fw i dd x σ F H ss O hdd hI s hx => ?_) (fun σ F H ss O hI s => ?_)
    · have tI : ∀ (ds : List PyData) (ns : List Int), ds = ns.map .int → PyData.tuple ds = tupI ns := fun ds ns h => by rw [h]
      have E := s.env
      refine ei_tuple (ev_tupT (ea_cons (ev_tupT (ea_cons ?_ (ea_cons ev_int ea_nil)) (.cons (.cons .nil)) (Nat.le_of_ble_eq_true rfl)) (ea_cons (ev_tupT (ea_cons ?_ (ea_cons ev_int ea_nil)) (.cons (.cons .nil)) (Nat.le_of_ble_eq_true rfl)) (ea_cons (ev_tupT (ea_cons ?_ (ea_cons ev_int ea_nil)) (.cons (.cons .nil)) (Nat.le_of_ble_eq_true rfl)) (ea_cons (ev_tupT (ea_cons ?_ (ea_cons ev_int ea_nil)) (.cons (.cons .nil)) (Nat.le_of_ble_eq_true rfl)) (ea_cons (ev_tupT (ea_cons ?_ (ea_cons ev_int ea_nil)) (.cons (.cons .nil)) (Nat.le_of_ble_eq_true rfl)) ea_nil))))) (.cons (.cons (.cons (.cons (.cons .nil))))) (Nat.le_of_ble_eq_true rfl))
      · exact ev_tupT (ea_cons ev_int (ea_cons ev_int (ea_cons ev_int ea_nil))) (.cons (.cons (.cons .nil))) (Nat.le_of_ble_eq_true rfl)
      · exact ev_tupT (ea_cons ev_int (ea_cons (ev_un ev_int ru_neg) (ea_cons ev_int ea_nil))) (.cons (.cons (.cons .nil))) (Nat.le_of_ble_eq_true rfl)
      · exact ev_tupT (ea_cons ev_int (ea_cons ev_int (ea_cons ev_int ea_nil))) (.cons (.cons (.cons .nil))) (Nat.le_of_ble_eq_true rfl)
      · exact ev_tupT (ea_cons (ev_un ev_int ru_neg) (ea_cons ev_int ea_nil)) (.cons (.cons .nil)) (Nat.le_of_ble_eq_true rfl)
      · exact ev_tupT (ea_cons ev_int (ea_cons ev_int ea_nil)) (.cons (.cons .nil)) (Nat.le_of_ble_eq_true rfl)
    · obtain ⟨x4, x5, rfl, rfl⟩ := hI
      obtain ⟨b, n, rfl, hn0, b_ct, b_ne, b_len, b_bd, hiff⟩ := five dd (List.mem_of_getElem? hdd)
      refine g_tup2 s hx fun v w s => ?_
      refine s_ifF s ?_ fun H s => s_next ?_
      · have E := s.envH
        refine et_is (et_test (ev_op (ev_op (ev_op (ev_call (ea_cons (ev_var E rfl) (ea_cons (ev_var E rfl) ea_nil)) ⟨cc, b, _, _, rfl, .t cc, .t b, c_ct, b_ct, b_ne, by omega, by omega, b_bd, rfl⟩) ev_int (rv_ixT (d := tupI (Po.divC cc b).2) rfl)) (ev_tupT ea_nil .nil (Nat.le_of_ble_eq_true rfl)) (rv_eq sh_tupI sh_nilT)) (ev_op (ev_op (ev_cb (ea_cons (ev_var E rfl) ea_nil) rc_int) (ev_var E rfl) (rv_mod (by omega))) ev_int (rv_eq sh_int sh_int)) (rv_ne sh_bool sh_bool))) ?_
        have e1 : PyData.eqv (tupI (Po.divC cc b).2) (.tuple []) = decide ((Po.divC cc b).2 = []) := eqv_tupI (ms := [])
        have e2 : PyData.eqv (.int ((step : Int).fmod (n : Int))) (.int 0) = decide (step % n = 0) := by
          rw [eqv_int, Int.fmod_eq_emod_of_nonneg _ (by omega)]
          by_cases h : step % n = 0
          · rw [decide_eq_true h, decide_eq_true (by omega)]
          · rw [decide_eq_false h, decide_eq_false (by omega)]
        rw [e1, e2]
        have e3 : decide ((Po.divC cc b).2 = []) = decide (step % n = 0) := by
          by_cases h : step % n = 0
          · rw [decide_eq_true h, decide_eq_true (hiff.mpr h)]
          · rw [decide_eq_false h, decide_eq_false (fun z => h (hiff.mp z))]
        rw [e3]
        cases decide (step % n = 0) <;> rfl
      · dsimp only
        exact Bt.of ⟨_, _, rfl, rfl⟩ s
    · obtain ⟨x4, x5, rfl, rfl⟩ := hI
      dsimp only
      refine s_ret (T := TD K (.bool true)) s ev_bool fun v F H s hv => ?_
      obtain ⟨m1, m2, _⟩ := s.mem (k := 0) rfl
      exact hQ v F H t2 r2 s.gr m1 m2 b1 (by omega) b3 (dp_bool hv)
/-! ### law -/
theorem ok_law (T : Txt K mg) : FnOk P w K mg base CX0 7 T.a_law T.d_law ["script"] (spLaw K) := by
  have G__law_pen := ok__law_pen (P := P) (w := w) (base := base) T
  have G_divided := ok_divided (P := P) (w := w) (base := base) T
  have G__law_one_right := ok__law_one_right (P := P) (w := w) (base := base) T
  have G__law_shares_right := ok__law_shares_right (P := P) (w := w) (base := base) T
  have G__law_powers_right := ok__law_powers_right (P := P) (w := w) (base := base) T
  refine T.F_law.ok sc_law (fun vs H Q E h => ?len) (fun cdv A outer s H vs Q E hr h => ?body)
  case len =>
    obtain ⟨a, ns, rfl, _⟩ := h
    rfl
  case body =>
    obtain ⟨a, ns, rfl, hS, hl, hQ⟩ := h
    have s := S.startL (N := N_law) (M := []) (F := H) (vs := [.ref a]) (Ts := [TX (.ref a)]) [some (TX (.ref a)), none, none] (.refl H) ⟨rfl, trivial⟩
    refine ⟨_, (pss_cons (ps_set (i := 1) sc_law.nd rfl (.inl rfl) (pe_call G__law_pen (hr.mono (by decide)) (by rfl) T.g__law_pen T.F__law_pen.kp T.b__law_pen .nil pass0 (pa_cons (pv 0) pa_nil)))
      (pss_cons (ps_for PassesOwn.never rfl (pi_range1 rfl T.n_range (pa_cons pe_int pa_nil)) (pg_name (i := 2) sc_law.nd rfl (.inl rfl))
      (pss_one (ps_if (PW.pt (pw_or (pt_not (pt_val (pe_call G__law_one_right (hr.mono (by decide)) (by rfl) T.g__law_one_right T.F__law_one_right.kp T.b__law_one_right .nil pass0 (pa_cons (pv 1) pa_nil)))) (pw_or (pt_not (pt_val (pe_call G__law_shares_right (hr.mono (by decide)) (by rfl) T.g__law_shares_right T.F__law_shares_right.kp T.b__law_shares_right .nil pass0 (pa_cons (pv 1) pa_nil)))) (pw_or1 (pt_not (pt_val (pe_call G__law_powers_right (hr.mono (by decide)) (by rfl) T.g__law_powers_right T.F__law_powers_right.kp T.b__law_powers_right .nil pass0 (pa_cons (pv 1) pa_nil))))))))
      (pss_one (ps_ret pe_bl))
      pss_nil)))
      (pss_one (ps_ret (pe_and (pe_cmpR (op_eqD hr.units) (pe_call G_divided (hr.mono (by decide)) (by rfl) T.g_divided T.F_divided.kp T.b_divided .nil pass0 (pa_cons (pe_tup (pa_cons pe_int (pa_cons pe_int (pa_cons pe_int pa_nil)))) (pa_cons (pe_tup (pa_cons pe_int (pa_cons pe_int (pa_cons pe_int pa_nil)))) pa_nil))) (pe_tup (pa_cons (pe_tup pa_nil) (pa_cons (pe_tup (pa_cons pe_int (pa_cons pe_int (pa_cons pe_int pa_nil)))) pa_nil))) (nomark _)) (pe_and (pe_cmpR (op_eqD hr.units) (pe_call G_divided (hr.mono (by decide)) (by rfl) T.g_divided T.F_divided.kp T.b_divided .nil pass0 (pa_cons (pe_tup (pa_cons pe_int pa_nil)) (pa_cons (pe_tup (pa_cons pe_int pa_nil)) pa_nil))) (pe_tup (pa_cons (pe_tup (pa_cons pe_int pa_nil)) (pa_cons (pe_tup pa_nil) pa_nil))) (nomark _)) (pe_one (pe_cmpR (op_eqD hr.units) (pe_call G_divided (hr.mono (by decide)) (by rfl) T.g_divided T.F_divided.kp T.b_divided .nil pass0 (pa_cons (pe_tup (pa_cons pe_int pa_nil)) (pa_cons (pe_tup (pa_cons pe_int pa_nil)) pa_nil))) (pe_tup (pa_cons (pe_tup pa_nil) (pa_cons (pe_tup (pa_cons pe_int pa_nil)) pa_nil))) (nomark _))))))))), ?_⟩
    try dsimp only [cxOf, Cx.nox, Cx.wish, Cx.blk]
    walk_at "q"
    refine u_asg (u_call (u_cons (u_var (T := TX (.ref a)) s rfl fun w hw => u_nil ?_)))
    have hw : w = .ref a := hw
    subst hw
    refine ⟨H, a, ns, rfl, .refl H, hS, hl, fun p c F2 H2 st hp hc => ?_⟩
    have s := (((s.step st).push (o := penO c 0 0) hp).set (i := 1) (T := TX (.ref p)) (v := .ref p) rfl).fact hc
    show tSeq _ _ _ (List.set _ 1 (some (.ref p))) _
    walk_at "q"
    refine s_for (K := K) (ds := rangeD 0 8) s (ei_range1 (n := 8) (ea_cons ev_int ea_nil) (by decide)) (fun i ss O => ∃ x2 t r, ss = [some (TX (.ref a)), some (TX (.ref p)), x2] ∧ O = [(p, penO c t r)] ∧ i ≤ 8 ∧ 0 ≤ t ∧ t ≤ 180 * i ∧ 0 ≤ r)
      ⟨_, 0, 0, rfl, rfl, by decide, by decide, by decide, by decide⟩ (fun Fw i d x σ F H ss O hd hI s hx => ?_) (fun σ F H ss O hI s => ?_)
    · obtain ⟨x2, t, r, rfl, rfl, hi8, ht0, ht1, hr0⟩ := hI
      have hi : i < 8 := by
        obtain ⟨h1, _⟩ := List.getElem?_eq_some_iff.mp hd
        simpa [rangeD] using h1
      have s := s.set (i := 2) (T := TD K d) hx
      show tIfS _ _ _ _ (List.set _ 2 (some x)) _
      refine u_if (u_or (u_not (u_B ?_)))
      refine c_pen (K := K) (j := 1) (k := 0) (c := c) (cells := ns.take 60) s rfl rfl (by walk_at "mw") ⟨ht0, by omega, hr0⟩ ea_nil ⟨rfl, rfl⟩ fun v F H t1 r1 s a1 a2 a3 hp => ⟨true, hp, if_f rfl ?_⟩
      refine u_or (u_not (u_B ?_))
      refine c_pen (K := K) (j := 1) (k := 0) (c := c) (cells := ns.take 60) s rfl rfl (by walk_at "mw") ⟨a1, by omega, a3⟩ ea_nil ⟨rfl, rfl⟩ fun v F H t2 r2 s b1 b2 b3 hp => ⟨true, hp, if_f rfl ?_⟩
      refine u_not (u_B ?_)
      refine c_pen (K := K) (j := 1) (k := 0) (c := c) (cells := ns.take 60) s rfl rfl (by walk_at "mw") ⟨b1, by omega, b3⟩ ea_nil ⟨rfl, rfl⟩ fun v F H t3 r3 s c1 c2 c3 hp => ⟨true, hp, if_f rfl (s_next ?_)⟩
      dsimp only
      exact Bt.of ⟨_, t3, r3, rfl, rfl, by omega, c1, by omega, c3⟩ s
    · obtain ⟨x2, t, r, rfl, rfl, _⟩ := hI
      dsimp only
      refine s_ret (T := TD K (.bool true)) s ?_ fun v F H s hv => ?_
      · have E := s.env
        have bd : ∀ (l : List Int), (∀ x ∈ l, -4 ≤ x ∧ x ≤ 4) → ∀ k, (Po.co l k).natAbs < 1073741824 := fun l hl k => by
          have := co_all (by decide) hl k
          omega
        have hsh : ∀ a b : List Int, Sn 2 (.tuple [tupI a, tupI b]) := fun a b => sn_tuple fun d hd => by
          simp only [List.mem_cons, List.mem_nil_iff, or_false] at hd
          rcases hd with rfl | rfl
          · exact sn_tupI
          · exact sn_tupI
        have t3 : ∀ x y z : Int, Ev (tTup (tCons (tC (.int x)) (tCons (tC (.int y)) (tCons (tC (.int z)) tNil)))) σ F (TD K (tupI [x, y, z])) := fun x y z => ev_tupT (ea_cons ev_int (ea_cons ev_int (ea_cons ev_int ea_nil))) (.cons (.cons (.cons .nil))) (Nat.le_of_ble_eq_true rfl)
        have t1 : ∀ x : Int, Ev (tTup (tCons (tC (.int x)) tNil)) σ F (TD K (tupI [x])) := fun x => ev_tupT (ea_cons ev_int ea_nil) (.cons .nil) (Nat.le_of_ble_eq_true rfl)
        have t0 : Ev (tTup tNil) σ F (TD K (tupI [])) := ev_tupT ea_nil .nil (Nat.le_of_ble_eq_true rfl)
        have t2 : ∀ {ta tb : TE} {x y : List Int}, Ev ta σ F (TD K (tupI x)) → Ev tb σ F (TD K (tupI y)) → Ev (tTup (tCons ta (tCons tb tNil))) σ F (TD K (.tuple [tupI x, tupI y])) := fun h1 h2 => ev_tupT (ea_cons h1 (ea_cons h2 ea_nil)) (.cons (.cons .nil)) (Nat.le_of_ble_eq_true rfl)
        have dv : ∀ {ta tb te : TE} {x y q l : List Int}, Ev ta σ F (TD K (tupI x)) → Ev tb σ F (TD K (tupI y)) → Po.Ct x → Po.Ct y → y ≠ [] → x.length ≤ 3 → y.length ≤ 3 → (∀ z ∈ y, -4 ≤ z ∧ z ≤ 4) → Ev te σ F (TD K (.tuple [tupI q, tupI l])) → Po.divC x y = (q, l) → Ev (tOp (rEqD K) (tCall (spP (R_divided K)) [] E0 (tCons ta (tCons tb tNil))) te) σ F (TD K (.bool true)) := fun {ta tb te x y q l} h1 h2 c1 c2 ne l1 l2 hb h3 hd => by
          refine ev_is (ev_op (ev_call (T := TD K (.tuple [tupI (Po.divC x y).1, tupI (Po.divC x y).2])) (ea_cons h1 (ea_cons h2 ea_nil)) ⟨x, y, _, _, rfl, .t x, .t y, c1, c2, ne, by omega, by omega, bd y hb, rfl⟩) h3 (rv_eq ((hsh _ _).sh (by decide)) ((hsh _ _).sh (by decide)))) ?_
          rw [hd]
          exact congrArg (fun b => TD K (.bool b)) (eqv_self (hsh q l))
        refine ev_andV (a := true) (b := true) (dv (t3 1 0 1) (t3 2 0 2) (by decide) (by decide) (by decide) (by decide) (by decide) (by decide) (t2 t0 (t3 1 0 1)) (by decide)) fun _ => ev_andV (a := true) (b := true) (dv (t1 4) (t1 2) (by decide) (by decide) (by decide) (by decide) (by decide) (by decide) (t2 (t1 2) t0) (by decide)) fun _ => ?_
        exact dv (t1 3) (t1 2) (by decide) (by decide) (by decide) (by decide) (by decide) (by decide) (t2 t0 (t1 3)) (by decide)
      · rw [dp_bool hv]
        exact hQ H
/-! ### the head of this text -/
def dd_is_integer : He.DefD := ⟨("is_integer", none), "is_integer", "is_integer", defArgs s_is_integer, defBody s_is_integer, defScope s_is_integer, [], []⟩
def dd_is_within : He.DefD := ⟨("is_within", none), "is_within", "is_within", defArgs s_is_within, defBody s_is_within, defScope s_is_within, [], []⟩
def dd_is_numbers : He.DefD := ⟨("is_numbers", none), "is_numbers", "is_numbers", defArgs s_is_numbers, defBody s_is_numbers, defScope s_is_numbers, [], []⟩
def dd_is_counts : He.DefD := ⟨("is_counts", none), "is_counts", "is_counts", defArgs s_is_counts, defBody s_is_counts, defScope s_is_counts, [], []⟩
def dd__check_counts : He.DefD := ⟨("_check_counts", none), "_check_counts", "_check_counts", defArgs s__check_counts, defBody s__check_counts, defScope s__check_counts, [], []⟩
def dd__without_end : He.DefD := ⟨("_without_end", none), "_without_end", "_without_end", defArgs s__without_end, defBody s__without_end, defScope s__without_end, [], []⟩
def dd__added : He.DefD := ⟨("_added", none), "_added", "_added", defArgs s__added, defBody s__added, defScope s__added, [], []⟩
def dd_plus : He.DefD := ⟨("plus", none), "plus", "plus", defArgs s_plus, defBody s_plus, defScope s_plus, [], []⟩
def dd_less : He.DefD := ⟨("less", none), "less", "less", defArgs s_less, defBody s_less, defScope s_less, [], []⟩
def dd_times : He.DefD := ⟨("times", none), "times", "times", defArgs s_times, defBody s_times, defScope s_times, [], []⟩
def dd_moved : He.DefD := ⟨("moved", none), "moved", "moved", defArgs s_moved, defBody s_moved, defScope s_moved, [], []⟩
def dd_divided : He.DefD := ⟨("divided", none), "divided", "divided", defArgs s_divided, defBody s_divided, defScope s_divided, [], []⟩
def dd__law_pen : He.DefD := ⟨("_law_pen", none), "_law_pen", "_law_pen", defArgs s__law_pen, defBody s__law_pen, defScope s__law_pen, [], []⟩
def dd__law_draw : He.DefD := ⟨("_law_draw", none), "_law_draw", "_law_draw", defArgs s__law_draw, defBody s__law_draw, defScope s__law_draw, [], []⟩
def dd__law_pick : He.DefD := ⟨("_law_pick", none), "_law_pick", "_law_pick", defArgs s__law_pick, defBody s__law_pick, defScope s__law_pick, [], []⟩
def dd__law_cut : He.DefD := ⟨("_law_cut", none), "_law_cut", "_law_cut", defArgs s__law_cut, defBody s__law_cut, defScope s__law_cut, [], []⟩
def dd__law_counts : He.DefD := ⟨("_law_counts", none), "_law_counts", "_law_counts", defArgs s__law_counts, defBody s__law_counts, defScope s__law_counts, [], []⟩
def dd__law_solved : He.DefD := ⟨("_law_solved", none), "_law_solved", "_law_solved", defArgs s__law_solved, defBody s__law_solved, defScope s__law_solved, [], []⟩
def dd__law_one_right : He.DefD := ⟨("_law_one_right", none), "_law_one_right", "_law_one_right", defArgs s__law_one_right, defBody s__law_one_right, defScope s__law_one_right, [], []⟩
def dd__law_shares_right : He.DefD := ⟨("_law_shares_right", none), "_law_shares_right", "_law_shares_right", defArgs s__law_shares_right, defBody s__law_shares_right, defScope s__law_shares_right, [], []⟩
def dd__law_powers_right : He.DefD := ⟨("_law_powers_right", none), "_law_powers_right", "_law_powers_right", defArgs s__law_powers_right, defBody s__law_powers_right, defScope s__law_powers_right, [], []⟩
def dd_law : He.DefD := ⟨("law", none), "law", "law", defArgs s_law, defBody s_law, defScope s_law, [], []⟩
def hfn : List He.DefD := [dd_is_integer, dd_is_within, dd_is_numbers, dd_is_counts, dd__check_counts, dd__without_end, dd__added, dd_plus, dd_less, dd_times, dd_moved, dd_divided, dd__law_pen, dd__law_draw, dd__law_pick, dd__law_cut, dd__law_counts, dd__law_solved, dd__law_one_right, dd__law_shares_right, dd__law_powers_right, dd_law]
def hfa : List He.Fa := [.glo "is_integer", .glo "is_within", .glo "is_numbers", .glo "is_counts", .glo "_check_counts", .glo "_without_end", .glo "_added", .glo "plus", .glo "less", .glo "times", .glo "moved", .glo "divided", .glo "_law_pen", .glo "_law_draw", .glo "_law_pick", .glo "_law_cut", .glo "_law_counts", .glo "_law_solved", .glo "_law_one_right", .glo "_law_shares_right", .glo "_law_powers_right", .glo "law", .free "abs", .free "all", .free "bool", .free "enumerate", .free "int", .free "isinstance", .free "len", .free "list", .free "max", .free "range", .free "tuple"]
abbrev hR : PySem.W.OpenRow := PySem.W.OpenLaw.row PySem.Challenge.rw_sevenasone_k04_divided_with_integers_alo
abbrev hhk : PySem.W.Hook := He.hookD 4 hfa hfn
def hob (s : PySem.W.SharedT) : He.AlD := He.obsDG 4 hfa hfn (HandSHeadRun.getT s)
theorem hob_eq (s : PySem.W.SharedT) : hob s = hhk.obs s.abs := He.obsDG_eq (HandSHeadRun.getT_eq s)
def hloose : List Str := ["is_integer", "is_within", "is_numbers", "is_counts", "_check_counts", "_without_end", "_added", "plus", "less", "times", "moved", "divided", "_law_pen", "_law_draw", "_law_pick", "_law_cut", "_law_counts", "_law_solved", "_law_one_right", "_law_shares_right", "_law_powers_right", "TreeError", "BadCounts", "BadNumber"]
theorem hrun (w : World) : HandSHeadRun.RunEq hR (PySem.W.view hR.prog [28]) hhk hob 4000 hloose w := by
  intro os
  kernel_rfl
theorem facts {P : Program} {w : World} {K : PySem.W.Frag} {h : Heap} {mg : Str → Option Value} {f : Addr} (X : K.In h) (G : h.Ns mainGlobals mg) (hfa0 : mg ("law" : Str) = some (.ref f)) (c : He.SaysD hfa hfn K) :
    ∃ fd : FuncData, (∀ (s : Shared) (v : Value), BindsTo s fd ⟨[v], []⟩ [("script", v)]) ∧ ∀ base : Heap, K.In base → base.Ns mainGlobals mg → FnOk P w K mg base CX0 7 f fd ["script"] (spLaw K) := by
  obtain ⟨e0, D0⟩ := c.def_ 0 (d := dd_is_integer) rfl
  have U0 : Fun K "is_integer" "is_integer" s_is_integer _ _ := FunD.toFun D0
  obtain ⟨e1, D1⟩ := c.def_ 1 (d := dd_is_within) rfl
  have U1 : Fun K "is_within" "is_within" s_is_within _ _ := FunD.toFun D1
  obtain ⟨e2, D2⟩ := c.def_ 2 (d := dd_is_numbers) rfl
  have U2 : Fun K "is_numbers" "is_numbers" s_is_numbers _ _ := FunD.toFun D2
  obtain ⟨e3, D3⟩ := c.def_ 3 (d := dd_is_counts) rfl
  have U3 : Fun K "is_counts" "is_counts" s_is_counts _ _ := FunD.toFun D3
  obtain ⟨e4, D4⟩ := c.def_ 4 (d := dd__check_counts) rfl
  have U4 : Fun K "_check_counts" "_check_counts" s__check_counts _ _ := FunD.toFun D4
  obtain ⟨e5, D5⟩ := c.def_ 5 (d := dd__without_end) rfl
  have U5 : Fun K "_without_end" "_without_end" s__without_end _ _ := FunD.toFun D5
  obtain ⟨e6, D6⟩ := c.def_ 6 (d := dd__added) rfl
  have U6 : Fun K "_added" "_added" s__added _ _ := FunD.toFun D6
  obtain ⟨e7, D7⟩ := c.def_ 7 (d := dd_plus) rfl
  have U7 : Fun K "plus" "plus" s_plus _ _ := FunD.toFun D7
  obtain ⟨e8, D8⟩ := c.def_ 8 (d := dd_less) rfl
  have U8 : Fun K "less" "less" s_less _ _ := FunD.toFun D8
  obtain ⟨e9, D9⟩ := c.def_ 9 (d := dd_times) rfl
  have U9 : Fun K "times" "times" s_times _ _ := FunD.toFun D9
  obtain ⟨e10, D10⟩ := c.def_ 10 (d := dd_moved) rfl
  have U10 : Fun K "moved" "moved" s_moved _ _ := FunD.toFun D10
  obtain ⟨e11, D11⟩ := c.def_ 11 (d := dd_divided) rfl
  have U11 : Fun K "divided" "divided" s_divided _ _ := FunD.toFun D11
  obtain ⟨e12, D12⟩ := c.def_ 12 (d := dd__law_pen) rfl
  have U12 : Fun K "_law_pen" "_law_pen" s__law_pen _ _ := FunD.toFun D12
  obtain ⟨e13, D13⟩ := c.def_ 13 (d := dd__law_draw) rfl
  have U13 : Fun K "_law_draw" "_law_draw" s__law_draw _ _ := FunD.toFun D13
  obtain ⟨e14, D14⟩ := c.def_ 14 (d := dd__law_pick) rfl
  have U14 : Fun K "_law_pick" "_law_pick" s__law_pick _ _ := FunD.toFun D14
  obtain ⟨e15, D15⟩ := c.def_ 15 (d := dd__law_cut) rfl
  have U15 : Fun K "_law_cut" "_law_cut" s__law_cut _ _ := FunD.toFun D15
  obtain ⟨e16, D16⟩ := c.def_ 16 (d := dd__law_counts) rfl
  have U16 : Fun K "_law_counts" "_law_counts" s__law_counts _ _ := FunD.toFun D16
  obtain ⟨e17, D17⟩ := c.def_ 17 (d := dd__law_solved) rfl
  have U17 : Fun K "_law_solved" "_law_solved" s__law_solved _ _ := FunD.toFun D17
  obtain ⟨e18, D18⟩ := c.def_ 18 (d := dd__law_one_right) rfl
  have U18 : Fun K "_law_one_right" "_law_one_right" s__law_one_right _ _ := FunD.toFun D18
  obtain ⟨e19, D19⟩ := c.def_ 19 (d := dd__law_shares_right) rfl
  have U19 : Fun K "_law_shares_right" "_law_shares_right" s__law_shares_right _ _ := FunD.toFun D19
  obtain ⟨e20, D20⟩ := c.def_ 20 (d := dd__law_powers_right) rfl
  have U20 : Fun K "_law_powers_right" "_law_powers_right" s__law_powers_right _ _ := FunD.toFun D20
  obtain ⟨e21, D21⟩ := c.def_ 21 (d := dd_law) rfl
  have U21 : Fun K "law" "law" s_law _ _ := FunD.toFun D21
  let T : Txt K mg := {
    a_is_integer := _,
    d_is_integer := e0,
    F_is_integer := U0,
    b_is_integer := U0.binds (ps := ["value"]) fun _ _ _ _ _ _ us hl => match us, hl with | [_], _ => rfl,
    g_is_integer := He.glo_ok X G (c.fact 0 (f := .glo "is_integer") rfl),
    a_is_within := _,
    d_is_within := e1,
    F_is_within := U1,
    b_is_within := U1.binds (ps := ["value", "least", "most"]) fun _ _ _ _ _ _ us hl => match us, hl with | [_, _, _], _ => rfl,
    g_is_within := He.glo_ok X G (c.fact 1 (f := .glo "is_within") rfl),
    a_is_numbers := _,
    d_is_numbers := e2,
    F_is_numbers := U2,
    b_is_numbers := U2.binds (ps := ["value"]) fun _ _ _ _ _ _ us hl => match us, hl with | [_], _ => rfl,
    g_is_numbers := He.glo_ok X G (c.fact 2 (f := .glo "is_numbers") rfl),
    a_is_counts := _,
    d_is_counts := e3,
    F_is_counts := U3,
    b_is_counts := U3.binds (ps := ["value"]) fun _ _ _ _ _ _ us hl => match us, hl with | [_], _ => rfl,
    g_is_counts := He.glo_ok X G (c.fact 3 (f := .glo "is_counts") rfl),
    a__check_counts := _,
    d__check_counts := e4,
    F__check_counts := U4,
    b__check_counts := U4.binds (ps := ["value", "name"]) fun _ _ _ _ _ _ us hl => match us, hl with | [_, _], _ => rfl,
    g__check_counts := He.glo_ok X G (c.fact 4 (f := .glo "_check_counts") rfl),
    a__without_end := _,
    d__without_end := e5,
    F__without_end := U5,
    b__without_end := U5.binds (ps := ["row"]) fun _ _ _ _ _ _ us hl => match us, hl with | [_], _ => rfl,
    g__without_end := He.glo_ok X G (c.fact 5 (f := .glo "_without_end") rfl),
    a__added := _,
    d__added := e6,
    F__added := U6,
    b__added := U6.binds (ps := ["one", "other", "factor"]) fun _ _ _ _ _ _ us hl => match us, hl with | [_, _, _], _ => rfl,
    g__added := He.glo_ok X G (c.fact 6 (f := .glo "_added") rfl),
    a_plus := _,
    d_plus := e7,
    F_plus := U7,
    b_plus := U7.binds (ps := ["one", "other"]) fun _ _ _ _ _ _ us hl => match us, hl with | [_, _], _ => rfl,
    g_plus := He.glo_ok X G (c.fact 7 (f := .glo "plus") rfl),
    a_less := _,
    d_less := e8,
    F_less := U8,
    b_less := U8.binds (ps := ["one", "other"]) fun _ _ _ _ _ _ us hl => match us, hl with | [_, _], _ => rfl,
    g_less := He.glo_ok X G (c.fact 8 (f := .glo "less") rfl),
    a_times := _,
    d_times := e9,
    F_times := U9,
    b_times := U9.binds (ps := ["one", "other"]) fun _ _ _ _ _ _ us hl => match us, hl with | [_, _], _ => rfl,
    g_times := He.glo_ok X G (c.fact 9 (f := .glo "times") rfl),
    a_moved := _,
    d_moved := e10,
    F_moved := U10,
    b_moved := U10.binds (ps := ["counts", "number"]) fun _ _ _ _ _ _ us hl => match us, hl with | [_, _], _ => rfl,
    g_moved := He.glo_ok X G (c.fact 10 (f := .glo "moved") rfl),
    a_divided := _,
    d_divided := e11,
    F_divided := U11,
    b_divided := U11.binds (ps := ["counts", "by"]) fun _ _ _ _ _ _ us hl => match us, hl with | [_, _], _ => rfl,
    g_divided := He.glo_ok X G (c.fact 11 (f := .glo "divided") rfl),
    a__law_pen := _,
    d__law_pen := e12,
    F__law_pen := U12,
    b__law_pen := U12.binds (ps := ["script"]) fun _ _ _ _ _ _ us hl => match us, hl with | [_], _ => rfl,
    g__law_pen := He.glo_ok X G (c.fact 12 (f := .glo "_law_pen") rfl),
    a__law_draw := _,
    d__law_draw := e13,
    F__law_draw := U13,
    b__law_draw := U13.binds (ps := ["pen", "many"]) fun _ _ _ _ _ _ us hl => match us, hl with | [_, _], _ => rfl,
    g__law_draw := He.glo_ok X G (c.fact 13 (f := .glo "_law_draw") rfl),
    a__law_pick := _,
    d__law_pick := e14,
    F__law_pick := U14,
    b__law_pick := U14.binds (ps := ["pen", "some"]) fun _ _ _ _ _ _ us hl => match us, hl with | [_, _], _ => rfl,
    g__law_pick := He.glo_ok X G (c.fact 14 (f := .glo "_law_pick") rfl),
    a__law_cut := _,
    d__law_cut := e15,
    F__law_cut := U15,
    b__law_cut := U15.binds (ps := ["row"]) fun _ _ _ _ _ _ us hl => match us, hl with | [_], _ => rfl,
    g__law_cut := He.glo_ok X G (c.fact 15 (f := .glo "_law_cut") rfl),
    a__law_counts := _,
    d__law_counts := e16,
    F__law_counts := U16,
    b__law_counts := U16.binds (ps := ["pen", "most"]) fun _ _ _ _ _ _ us hl => match us, hl with | [_, _], _ => rfl,
    g__law_counts := He.glo_ok X G (c.fact 16 (f := .glo "_law_counts") rfl),
    a__law_solved := _,
    d__law_solved := e17,
    F__law_solved := U17,
    b__law_solved := U17.binds (ps := ["counts", "by"]) fun _ _ _ _ _ _ us hl => match us, hl with | [_, _], _ => rfl,
    g__law_solved := He.glo_ok X G (c.fact 17 (f := .glo "_law_solved") rfl),
    a__law_one_right := _,
    d__law_one_right := e18,
    F__law_one_right := U18,
    b__law_one_right := U18.binds (ps := ["pen"]) fun _ _ _ _ _ _ us hl => match us, hl with | [_], _ => rfl,
    g__law_one_right := He.glo_ok X G (c.fact 18 (f := .glo "_law_one_right") rfl),
    a__law_shares_right := _,
    d__law_shares_right := e19,
    F__law_shares_right := U19,
    b__law_shares_right := U19.binds (ps := ["pen"]) fun _ _ _ _ _ _ us hl => match us, hl with | [_], _ => rfl,
    g__law_shares_right := He.glo_ok X G (c.fact 19 (f := .glo "_law_shares_right") rfl),
    a__law_powers_right := _,
    d__law_powers_right := e20,
    F__law_powers_right := U20,
    b__law_powers_right := U20.binds (ps := ["pen"]) fun _ _ _ _ _ _ us hl => match us, hl with | [_], _ => rfl,
    g__law_powers_right := He.glo_ok X G (c.fact 20 (f := .glo "_law_powers_right") rfl),
    a_law := _,
    d_law := e21,
    F_law := U21,
    b_law := U21.binds (ps := ["script"]) fun _ _ _ _ _ _ us hl => match us, hl with | [_], _ => rfl,
    g_law := He.glo_ok X G (c.fact 21 (f := .glo "law") rfl),
    n_abs := He.free_ok X G (c.fact 22 (f := .free "abs") rfl),
    n_all := He.free_ok X G (c.fact 23 (f := .free "all") rfl),
    n_bool := He.free_ok X G (c.fact 24 (f := .free "bool") rfl),
    n_enumerate := He.free_ok X G (c.fact 25 (f := .free "enumerate") rfl),
    n_int := He.free_ok X G (c.fact 26 (f := .free "int") rfl),
    n_isinstance := He.free_ok X G (c.fact 27 (f := .free "isinstance") rfl),
    n_len := He.free_ok X G (c.fact 28 (f := .free "len") rfl),
    n_list := He.free_ok X G (c.fact 29 (f := .free "list") rfl),
    n_max := He.free_ok X G (c.fact 30 (f := .free "max") rfl),
    n_range := He.free_ok X G (c.fact 31 (f := .free "range") rfl),
    n_tuple := He.free_ok X G (c.fact 32 (f := .free "tuple") rfl) }
  have e := hfa0.symm.trans T.g_law
  cases e
  have b := FunD.bindsA (ps := ["script"]) D21 fun _ _ _ _ _ _ us hl => match us, hl with | [_], _ => rfl
  exact ⟨_, fun s v => b s [v] rfl, fun base _ _ => ok_law (P := P) (w := w) (base := base) T⟩
end Lw
open PySem PySem.W PySem.Calls PyProof.Rows
set_option maxHeartbeats 0
theorem PySem.Challenge.cw_sevenasone_k04_divided_with_integers_alo_holds : PySem.Challenge.rw_sevenasone_k04_divided_with_integers_alo.Holds := by
  w_on; o_law
  refine HandSHeadRun.head_any (r := OpenLaw.row PySem.Challenge.rw_sevenasone_k04_divided_with_integers_alo) (q := view (OpenLaw.row PySem.Challenge.rw_sevenasone_k04_divided_with_integers_alo).prog [28]) (H := Lw.hhk) (ob := Lw.hob) (M := 4000) (loose := Lw.hloose) (d := HandSHeadRun.topDef (OpenLaw.row PySem.Challenge.rw_sevenasone_k04_divided_with_integers_alo).prog 28) (kwd := []) Lw.hob_eq
    (by kernel_rfl) (fun s => by kernel_rfl) Lw.hrun (by kernel_rfl) (by kernel_rfl) (by kernel_rfl) (by rfl) (by first | assumption | decide +kernel) (by decide +kernel) ⟨rfl, rfl, rfl, rfl, rfl, by decide +kernel⟩ ?hw ?hc
  case hw => w_witness2
  case hc =>
    refine L2.walk_ofE (l := PySem.Challenge.rw_sevenasone_k04_divided_with_integers_alo) (n := 63) (k := 7) (x := "script") (CX := L2.CX0) rfl (by decide) (by kernel_rfl) ⟨rfl, by decide, by decide⟩ ?F (fun _ _ _ _ z => z)
    intro w mg fa h Y G hmg0
    obtain ⟨K, KX, c⟩ := Y
    have hmg1 : mg ("law" : PySem.Str) = some (.ref fa) := by
      have e : (HandSHeadRun.topDef (OpenLaw.row PySem.Challenge.rw_sevenasone_k04_divided_with_integers_alo).prog 28).name = ("law" : PySem.Str) := by kernel_rfl
      rw [← e]
      exact hmg0
    obtain ⟨fd, hb, hF⟩ := Lw.facts (P := (PySem.Challenge.rw_sevenasone_k04_divided_with_integers_alo).prog) (w := w) KX G hmg1 c
    exact ⟨K, fd, DL.spLaw K, KX, hb, fun H a ns hl _ hS => ⟨a, ns, rfl, hS, hl, fun _ => rfl⟩, hF⟩

namespace Lw
end Lw
