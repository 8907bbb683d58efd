import PyProof.Rows.All
import Wide.All
import OpenK.AllK
import Wide.FinOn
import HandS.ForMost
import HandS.Wide
import HandS.Deep
import HandS.IsInst
import HandS.TupMul
import HandS.Flow
import HandS.Call
import HandS.List
import HandS.Evl
import HandS.TupAny
import HandS.Strs
import KE.GoesEnum
import HandS.Iter
import HandS.Base
import HandS.Style
import HandS.Lambda
import HandS.Defaults
import HandS.Head0
import HandS.Head1
import HandS.Head2
import HandS.HeadEnd
import HandS.HeadHook1
import HandS.HeadHook2
import HandS.Words
import HandS.WordsExc
import KE.KExcIs
import HandS.Exc
import HandS.ExcField
import HandS.ExcInit
import HandS.ExcValue
import HandS.ExcIs
import KE.KTupSum
import HandS.Zip
import HandS.EndTab
import HandS.HeadWalk
import HandS.HeadHook4
import HandS.OwnEq
import HandS.Star
import HandS.MethStar
import KE.KSuper
import HandS.Records
import PyProof.InstNe
import HandS.MakeKwOnly
import HandS.Gcd
import HandS.Conv
import HandS.SortInts
import HandS.SetFor
import HandS.Head3
import HandS.Text
import HandS.StrMore
import KE.KCallOwn
import PyProof.StrOps2
import PySem.Challenge.RW_sevenasone_k11_texts_of_rules_and_stores
set_option Elab.async false
set_option linter.all false
set_option maxRecDepth 100000
set_option maxHeartbeats 1200000
/-! Counts: lists of ints, by their numbers. -/
namespace Po
def co (a : List Int) (k : Nat) : Int := a.getD k 0
theorem co_nil (k : Nat) : co [] k = 0 := by simp [co]
theorem co_zero (x : Int) (a : List Int) : co (x :: a) 0 = x := rfl
theorem co_succ (x : Int) (a : List Int) (k : Nat) : co (x :: a) (k + 1) = co a k := rfl
theorem co_ge {a : List Int} {k : Nat} (h : a.length ≤ k) : co a k = 0 := by
  unfold co
  rw [List.getD_eq_getElem?_getD, List.getElem?_eq_none h]; rfl
theorem co_some {a : List Int} {k : Nat} {x : Int} (h : a[k]? = some x) : co a k = x := by
  unfold co
  rw [List.getD_eq_getElem?_getD, h]; rfl
theorem co_at {a : List Int} {k : Nat} (h : k < a.length) : a[k]? = some (co a k) := by
  rw [List.getElem?_eq_getElem h, co_some (List.getElem?_eq_getElem h)]
theorem co_set {a : List Int} {i k : Nat} {x : Int} (h : i < a.length) : co (a.set i x) k = if i = k then x else co a k := by
  unfold co
  rw [List.getD_eq_getElem?_getD, List.getD_eq_getElem?_getD, List.getElem?_set]
  by_cases e : i = k
  · subst e; simp [h]
  · simp [e]
theorem co_app {a b : List Int} {k : Nat} : co (a ++ b) k = if k < a.length then co a k else co b (k - a.length) := by
  unfold co
  rw [List.getD_eq_getElem?_getD, List.getD_eq_getElem?_getD, List.getD_eq_getElem?_getD, List.getElem?_append]
  split <;> rfl
theorem co_rep {n k : Nat} : co (List.replicate n 0) k = 0 := by
  unfold co
  rw [List.getD_eq_getElem?_getD, List.getElem?_replicate]
  split <;> rfl
theorem co_map_range {n k : Nat} {f : Nat → Int} (h : ∀ i, n ≤ i → f i = 0) : co ((List.range n).map f) k = f k := by
  by_cases hk : k < n
  · refine co_some ?_
    rw [List.getElem?_map, List.getElem?_range hk]; rfl
  · rw [co_ge (by simp; omega), h k (by omega)]

/-- without zeros at the end -/
def trim : List Int → List Int
  | [] => []
  | a :: as => if trim as = [] ∧ a = 0 then [] else a :: trim as
def Ct (a : List Int) : Prop := trim a = a
theorem trim_cons (x : Int) (a : List Int) : trim (x :: a) = if trim a = [] ∧ x = 0 then [] else x :: trim a := rfl
theorem co_trim : ∀ (a : List Int) (k : Nat), co (trim a) k = co a k
  | [], _ => rfl
  | x :: a, k => by
    rw [trim_cons]
    split
    · rename_i h
      cases k with
      | zero => rw [co_nil, co_zero, h.2]
      | succ k => rw [co_nil, co_succ, ← co_trim a k, h.1, co_nil]
    · cases k with
      | zero => rfl
      | succ k => rw [co_succ, co_succ, co_trim a k]
theorem ct_trim : ∀ a : List Int, Ct (trim a)
  | [] => rfl
  | x :: a => by
    unfold Ct
    rw [trim_cons]
    split
    · rfl
    · rename_i h
      rw [trim_cons, show trim (trim a) = trim a from ct_trim a, if_neg h]
theorem trim_nil {a : List Int} : (∀ k, co a k = 0) → trim a = [] := by
  induction a with
  | nil => intro _; rfl
  | cons x a ih =>
    intro h
    rw [trim_cons, if_pos ⟨ih fun k => h (k + 1), h 0⟩]
theorem ct_tail {x : Int} {a : List Int} (h : Ct (x :: a)) : Ct a := by
  unfold Ct at h ⊢
  rw [trim_cons] at h
  split at h
  · cases h
  · exact (List.cons.inj h).2
theorem ct_ext : ∀ {a b : List Int}, Ct a → Ct b → (∀ k, co a k = co b k) → a = b
  | [], b, _, hb, h => by
    have := trim_nil (a := b) fun k => by rw [← h k, co_nil]
    unfold Ct at hb
    rw [← hb, this]
  | x :: a, [], ha, _, h => by
    have := trim_nil (a := x :: a) fun k => by rw [h k, co_nil]
    unfold Ct at ha
    rw [← ha, this]
  | x :: a, y :: b, ha, hb, h => by
    have h0 : x = y := h 0
    rw [h0, ct_ext (ct_tail ha) (ct_tail hb) fun k => h (k + 1)]
theorem trim_eq {a b : List Int} (h : ∀ k, co a k = co b k) : trim a = trim b :=
  ct_ext (ct_trim a) (ct_trim b) fun k => by rw [co_trim, co_trim, h]
theorem ct_nil : Ct [] := rfl
theorem trim_len : ∀ a : List Int, (trim a).length ≤ a.length
  | [] => Nat.le_refl _
  | x :: a => by
    rw [trim_cons]
    split
    · exact Nat.zero_le _
    · rw [List.length_cons, List.length_cons]
      exact Nat.succ_le_succ (trim_len a)
/-- counts that are not none: the last number -/
theorem ct_last : ∀ {a : List Int}, Ct a → a ≠ [] → co a (a.length - 1) ≠ 0
  | [], _, h => absurd rfl h
  | [x], h, _ => by
    intro z
    have z' : x = 0 := z
    subst z'
    cases h
  | x :: y :: a, h, _ => by
    have := ct_last (ct_tail h) (List.cons_ne_nil y a)
    exact this
theorem ct_of_last : ∀ {a : List Int}, (a ≠ [] → co a (a.length - 1) ≠ 0) → Ct a
  | [], _ => rfl
  | [x], h => by
    unfold Ct
    have z : ¬ (trim [] = [] ∧ x = 0) := fun z => h (List.cons_ne_nil _ _) z.2
    rw [trim_cons, if_neg z]
    rfl
  | x :: y :: a, h => by
    have h1 : Ct (y :: a) := ct_of_last fun _ => h (List.cons_ne_nil _ _)
    unfold Ct at h1 ⊢
    rw [trim_cons, h1, if_neg]
    intro z
    cases z.1
theorem trim_take {a : List Int} {m : Nat} (h : ∀ k, m ≤ k → co a k = 0) (hm : m = 0 ∨ co a (m - 1) ≠ 0) : trim a = a.take m := by
  have hc : ∀ k, co (a.take m) k = co a k := fun k => by
    unfold co
    rw [List.getD_eq_getElem?_getD, List.getD_eq_getElem?_getD, List.getElem?_take]
    split
    · rfl
    · have := h k (by omega)
      unfold co at this
      rw [List.getD_eq_getElem?_getD] at this
      rw [this]; rfl
  have hl : m ≤ a.length := by
    rcases hm with hm | hm
    · omega
    · by_cases z : m ≤ a.length
      · exact z
      · exact absurd (co_ge (by omega)) hm
  have c2 : Ct (a.take m) := ct_of_last fun hne => by
    rw [List.length_take, Nat.min_eq_left hl, hc]
    rcases hm with hm | hm
    · subst hm; exact absurd (List.take_zero) hne
    · exact hm
  exact ct_ext (ct_trim a) c2 fun k => by rw [co_trim, hc]

/-! ### sums -/
def sumTo : Nat → (Nat → Int) → Int
  | 0, _ => 0
  | n + 1, f => sumTo n f + f n
theorem sumTo_congr {f g : Nat → Int} : ∀ {n : Nat}, (∀ i, i < n → f i = g i) → sumTo n f = sumTo n g
  | 0, _ => rfl
  | n + 1, h => by
    show sumTo n f + f n = sumTo n g + g n
    rw [sumTo_congr fun i hi => h i (by omega), h n (by omega)]
theorem sumTo_zero {f : Nat → Int} {n : Nat} (h : ∀ i, i < n → f i = 0) : sumTo n f = 0 := by
  induction n with
  | zero => rfl
  | succ n ih =>
    show sumTo n f + f n = 0
    rw [ih fun i hi => h i (by omega), h n (by omega)]; rfl
theorem sumTo_one {f : Nat → Int} {n m : Nat} (hm : m < n) (h : ∀ i, i < n → i ≠ m → f i = 0) : sumTo n f = f m := by
  induction n with
  | zero => omega
  | succ n ih =>
    show sumTo n f + f n = f m
    by_cases e : m = n
    · subst e
      rw [sumTo_zero fun i hi => h i (by omega) (by omega)]
      omega
    · rw [ih (by omega) fun i hi hne => h i (by omega) hne, h n (by omega) (by omega)]
      omega
theorem sumTo_add {f g : Nat → Int} : ∀ n : Nat, sumTo n (fun i => f i + g i) = sumTo n f + sumTo n g
  | 0 => rfl
  | n + 1 => by
    show sumTo n _ + (f n + g n) = (sumTo n f + f n) + (sumTo n g + g n)
    rw [sumTo_add n]
    omega
theorem sumTo_sub {f g : Nat → Int} : ∀ n : Nat, sumTo n (fun i => f i - g i) = sumTo n f - sumTo n g
  | 0 => rfl
  | n + 1 => by
    show sumTo n _ + (f n - g n) = (sumTo n f + f n) - (sumTo n g + g n)
    rw [sumTo_sub n]
    omega
theorem sumTo_mul {f : Nat → Int} (c : Int) : ∀ n : Nat, sumTo n (fun i => c * f i) = c * sumTo n f
  | 0 => by show (0 : Int) = c * 0; rw [Int.mul_zero]
  | n + 1 => by
    show sumTo n _ + c * f n = c * (sumTo n f + f n)
    rw [sumTo_mul c n, Int.mul_add]
theorem sumTo_more {f : Nat → Int} {n : Nat} (h : ∀ i, n ≤ i → f i = 0) : ∀ d : Nat, sumTo (n + d) f = sumTo n f
  | 0 => rfl
  | d + 1 => by
    show sumTo (n + d) f + f (n + d) = sumTo n f
    rw [sumTo_more h d, h (n + d) (by omega)]
    omega
theorem sumTo_le {f : Nat → Int} {n m : Nat} (hnm : n ≤ m) (h : ∀ i, n ≤ i → f i = 0) : sumTo m f = sumTo n f := by
  have := sumTo_more h (m - n)
  rwa [show n + (m - n) = m by omega] at this

/-! ### products: cv N f g at k, the sum of f i * g (k - i), i below N -/
def cv (N : Nat) (f g : Nat → Int) (k : Nat) : Int := sumTo N fun i => if i ≤ k then f i * g (k - i) else 0
theorem cv_le {N M : Nat} {f g : Nat → Int} {k : Nat} (h : N ≤ M) (hf : ∀ i, N ≤ i → f i = 0) : cv M f g k = cv N f g k := by
  unfold cv
  refine sumTo_le h fun i hi => ?_
  rw [hf i hi, Int.zero_mul]
  split <;> rfl
theorem cv_sub {N : Nat} {f f' g : Nat → Int} {k : Nat} : cv N (fun i => f i - f' i) g k = cv N f g k - cv N f' g k := by
  unfold cv
  rw [← sumTo_sub]
  refine sumTo_congr fun i _ => ?_
  show (if i ≤ k then (f i - f' i) * g (k - i) else 0) = (if i ≤ k then f i * g (k - i) else 0) - (if i ≤ k then f' i * g (k - i) else 0)
  split
  · rw [Int.sub_mul]
  · rfl
theorem cv_congr {N : Nat} {f f' g g' : Nat → Int} {k : Nat} (h : ∀ i, i < N → f i = f' i) (h' : ∀ i, g i = g' i) : cv N f g k = cv N f' g' k := by
  unfold cv
  refine sumTo_congr fun i hi => ?_
  rw [h i hi, h' (k - i)]
theorem cv_mulr {N : Nat} {f g : Nat → Int} {k : Nat} (c : Int) : cv N f (fun i => c * g i) k = c * cv N f g k := by
  unfold cv
  rw [← sumTo_mul]
  refine sumTo_congr fun i _ => ?_
  show (if i ≤ k then f i * (c * g (k - i)) else 0) = c * (if i ≤ k then f i * g (k - i) else 0)
  split
  · rw [← Int.mul_assoc, Int.mul_comm (f i) c, Int.mul_assoc]
  · rw [Int.mul_zero]
theorem cv_mull {N : Nat} {f g : Nat → Int} {k : Nat} (c : Int) : cv N (fun i => c * f i) g k = c * cv N f g k := by
  unfold cv
  rw [← sumTo_mul]
  refine sumTo_congr fun i _ => ?_
  show (if i ≤ k then c * f i * g (k - i) else 0) = c * (if i ≤ k then f i * g (k - i) else 0)
  split
  · rw [Int.mul_assoc]
  · rw [Int.mul_zero]
theorem cv_top {N m n : Nat} {f g : Nat → Int} (hm : m < N) (hf : ∀ i, m < i → f i = 0) (hg : ∀ j, n < j → g j = 0) : cv N f g (m + n) = f m * g n := by
  unfold cv
  rw [sumTo_one hm fun i _ hne => ?_]
  · rw [if_pos (by omega), show m + n - m = n by omega]
  · show (if i ≤ m + n then f i * g (m + n - i) else 0) = 0
    split
    · by_cases h : m < i
      · rw [hf i h, Int.zero_mul]
      · rw [hg _ (by omega), Int.mul_zero]
    · rfl
theorem cv_above {N m n k : Nat} {f g : Nat → Int} (hf : ∀ i, m < i → f i = 0) (hg : ∀ j, n < j → g j = 0) (hk : m + n < k) : cv N f g k = 0 := by
  unfold cv
  refine sumTo_zero fun i _ => ?_
  split
  · by_cases h : m < i
    · rw [hf i h, Int.zero_mul]
    · rw [hg _ (by omega), Int.mul_zero]
  · rfl
theorem cv_low {N p : Nat} {f g : Nat → Int} (hp : p < N) (hf : ∀ i, i < p → f i = 0) : cv N f g p = f p * g 0 := by
  unfold cv
  rw [sumTo_one hp fun i _ hne => ?_]
  · rw [if_pos (Nat.le_refl _), Nat.sub_self]
  · show (if i ≤ p then f i * g (p - i) else 0) = 0
    split
    · rw [hf i (by omega), Int.zero_mul]
    · rfl
theorem cv_zero {N k : Nat} {f g : Nat → Int} (hf : ∀ i, i < N → f i = 0) : cv N f g k = 0 := by
  unfold cv
  refine sumTo_zero fun i hi => ?_
  rw [hf i hi, Int.zero_mul]
  split <;> rfl
/-- one number more at a place -/
theorem cv_put {N s k : Nat} {f f' g : Nat → Int} {c : Int} (hs : s < N) (h : ∀ i, f' i = if s = i then c else f i) (h0 : f s = 0) : cv N f' g k = cv N f g k + if s ≤ k then c * g (k - s) else 0 := by
  have e1 : cv N f' g k = cv N (fun i => f i - (fun i => if s = i then - c else 0) i) g k := cv_congr (fun i _ => by
    rw [h i]
    show (if s = i then c else f i) = f i - (if s = i then -c else 0)
    by_cases e : s = i
    · subst e; rw [if_pos rfl, if_pos rfl, h0]; omega
    · rw [if_neg e, if_neg e]; omega) fun _ => rfl
  have e2 : cv N (fun i => if s = i then - c else 0) g k = - (if s ≤ k then c * g (k - s) else 0) := by
    unfold cv
    rw [sumTo_one hs fun i _ hne => ?_]
    · show (if s ≤ k then (if s = s then -c else 0) * g (k - s) else 0) = _
      rw [if_pos rfl]
      split
      · rw [Int.neg_mul]
      · rfl
    · show (if i ≤ k then (if s = i then -c else 0) * g (k - i) else 0) = 0
      rw [if_neg (Ne.symm hne), Int.zero_mul]
      split <;> rfl
  rw [e1, cv_sub, e2]
  omega
theorem top_ex {d : Nat → Int} : ∀ {N : Nat}, (∀ i, N ≤ i → d i = 0) → (∀ i, d i = 0) ∨ ∃ m, m < N ∧ d m ≠ 0 ∧ ∀ i, m < i → d i = 0
  | 0, h => .inl fun i => h i (Nat.zero_le _)
  | N + 1, h => by
    by_cases e : d N = 0
    · rcases top_ex (d := d) (N := N) fun i hi => by
        by_cases z : i = N
        · rw [z]; exact e
        · exact h i (by omega) with q | ⟨m, h1, h2, h3⟩
      · exact .inl q
      · exact .inr ⟨m, by omega, h2, h3⟩
    · exact .inr ⟨N, by omega, e, fun i hi => h i (by omega)⟩
/-- what is left is none, if it is a product -/
theorem rest_none {N : Nat} {d : Nat → Int} {b l : List Int} (hb : Ct b) (hne : b ≠ []) (hl : Ct l) (hd : ∀ i, N ≤ i → d i = 0) (h : ∀ k, co l k = cv N d (co b) k)
    (stop : l.length < b.length ∨ ¬ (co b (b.length - 1) ∣ co l (l.length - 1))) : l = [] ∧ ∀ i, d i = 0 := by
  rcases top_ex hd with z | ⟨m, h1, h2, h3⟩
  · refine ⟨?_, z⟩
    have := trim_nil (a := l) fun k => by rw [h k, cv_zero fun i _ => z i]
    unfold Ct at hl
    rw [← hl, this]
  · exfalso
    have hbl : 0 < b.length := List.length_pos_iff.mpr hne
    have hb0 := ct_last hb hne
    have hg : ∀ j, b.length - 1 < j → co b j = 0 := fun j hj => co_ge (by omega)
    have t := h (m + (b.length - 1))
    rw [cv_top h1 h3 hg] at t
    have tn : co l (m + (b.length - 1)) ≠ 0 := by
      rw [t]
      exact Int.mul_ne_zero h2 hb0
    have len1 : m + (b.length - 1) < l.length := by
      by_cases q : m + (b.length - 1) < l.length
      · exact q
      · exact absurd (co_ge (by omega)) tn
    have lne : l ≠ [] := fun z => by rw [z] at len1; exact absurd len1 (Nat.not_lt_zero _)
    have len2 : l.length - 1 = m + (b.length - 1) := by
      by_cases q : m + (b.length - 1) < l.length - 1
      · have := ct_last hl lne
        rw [h, cv_above h3 hg q] at this
        exact absurd rfl this
      · omega
    rcases stop with s | s
    · omega
    · rw [len2, t] at s
      exact s (Int.dvd_mul_left ..)

/-! ### what the program reckons -/
def addC (a b : List Int) (f : Int) : List Int := trim ((List.range (max a.length b.length)).map fun k => co a k + f * co b k)
theorem co_addC {a b : List Int} {f : Int} {k : Nat} : co (addC a b f) k = co a k + f * co b k := by
  unfold addC
  rw [co_trim, co_map_range (n := max a.length b.length) fun i hi => ?_]
  rw [co_ge (a := a) (by omega), co_ge (a := b) (by omega), Int.mul_zero]; rfl
theorem ct_addC {a b : List Int} {f : Int} : Ct (addC a b f) := ct_trim _
theorem len_addC {a b : List Int} {f : Int} : (addC a b f).length ≤ max a.length b.length := by
  unfold addC
  refine Nat.le_trans (trim_len _) ?_
  rw [List.length_map, List.length_range]
  exact Nat.le_refl _
def mulC (a b : List Int) : List Int := trim ((List.range (a.length + b.length)).map (cv a.length (co a) (co b)))
theorem cv_beyond {a b : List Int} {k : Nat} (h : a.length + b.length ≤ k) : cv a.length (co a) (co b) k = 0 := by
  unfold cv
  refine sumTo_zero fun i hi => ?_
  split
  · rw [co_ge (a := b) (by omega), Int.mul_zero]
  · rfl
theorem co_mulC {a b : List Int} {k : Nat} : co (mulC a b) k = cv a.length (co a) (co b) k := by
  unfold mulC
  rw [co_trim, co_map_range (n := a.length + b.length) fun i hi => cv_beyond hi]
theorem ct_mulC {a b : List Int} : Ct (mulC a b) := ct_trim _
theorem len_mulC {a b : List Int} : (mulC a b).length ≤ a.length + b.length := by
  unfold mulC
  refine Nat.le_trans (trim_len _) ?_
  rw [List.length_map, List.length_range]
  exact Nat.le_refl _
theorem co_mulC_le {a b : List Int} {k N : Nat} (h : a.length ≤ N) : co (mulC a b) k = cv N (co a) (co b) k := by
  rw [co_mulC, cv_le h fun i hi => co_ge hi]
def movC (n : Nat) (a : List Int) : List Int := if a = [] then [] else List.replicate n 0 ++ a
theorem co_movC {n : Nat} {a : List Int} {k : Nat} : co (movC n a) k = if n ≤ k then co a (k - n) else 0 := by
  unfold movC
  split
  · rename_i h
    rw [co_nil, h, co_nil]
    split <;> rfl
  · rw [co_app, List.length_replicate]
    split
    · rw [co_rep, if_neg (by omega)]
    · rw [if_pos (by omega)]
theorem ct_movC {n : Nat} {a : List Int} (h : Ct a) : Ct (movC n a) := by
  unfold movC
  split
  · exact ct_nil
  · rename_i hne
    refine ct_of_last fun _ => ?_
    have hl : 0 < a.length := List.length_pos_iff.mpr hne
    rw [List.length_append, List.length_replicate, co_app, List.length_replicate, if_neg (by omega), show n + a.length - 1 - n = a.length - 1 by omega]
    exact ct_last h hne
/-! division from the top -/
def subAt (l : List Int) (s : Nat) (f : Int) (b : List Int) : List Int := (List.range l.length).map fun k => co l k - if s ≤ k then f * co b (k - s) else 0
theorem len_subAt {l : List Int} {s : Nat} {f : Int} {b : List Int} : (subAt l s f b).length = l.length := by
  unfold subAt
  rw [List.length_map, List.length_range]
theorem co_subAt {l : List Int} {s : Nat} {f : Int} {b : List Int} {k : Nat} (h : s + b.length ≤ l.length) : co (subAt l s f b) k = co l k - if s ≤ k then f * co b (k - s) else 0 := by
  unfold subAt
  rw [co_map_range (n := l.length) fun i hi => ?_]
  rw [co_ge hi]
  split
  · rw [co_ge (a := b) (by omega), Int.mul_zero]; rfl
  · rfl
def lastC (a : List Int) : Int := co a (a.length - 1)
def divGo : Nat → List Int → List Int → List Int → List Int × List Int
  | 0, l, q, _ => (q, l)
  | n + 1, l, q, b => if b.length ≤ l.length ∧ (lastC l).fmod (lastC b) = 0 then
      divGo n (trim (subAt l (l.length - b.length) ((lastC l).fdiv (lastC b)) b)) (q.set (l.length - b.length) ((lastC l).fdiv (lastC b))) b
    else (q, l)
def divC (c b : List Int) : List Int × List Int :=
  let r := divGo (c.length + 1) c (List.replicate ((c.length : Int) - (b.length : Int) + 1).toNat 0) b
  (trim r.1, r.2)
/-- the lists between two turns of the division: q * b + l is c -/
structure Dv (c b q l : List Int) : Prop where
  ctl : Ct l
  len : q.length = ((c.length : Int) - (b.length : Int) + 1).toNat
  lel : l.length ≤ c.length
  eq : ∀ k, co c k = cv q.length (co q) (co b) k + co l k
  lo : ∀ k, l.length < k + b.length → True
  zq : ∀ k, l.length < k + b.length ∨ co q k = 0
theorem fmod_dvd {x y : Int} : x.fmod y = 0 ↔ y ∣ x := by
  rw [Int.fmod_eq_emod]
  constructor
  · intro h
    by_cases hd : 0 ≤ y ∨ y ∣ x
    · rw [if_pos hd] at h
      exact Int.dvd_of_emod_eq_zero (by omega)
    · rw [if_neg hd] at h
      have h2 := Int.emod_lt x (b := y) (fun z => hd (.inl (by omega)))
      have h3 := Int.emod_nonneg x (b := y) (fun z => hd (.inl (by omega)))
      have : y < 0 := by
        by_cases z : 0 ≤ y
        · exact absurd (.inl z) hd
        · omega
      omega
  · intro h
    rw [if_pos (.inr h), Int.emod_eq_zero_of_dvd h]; rfl
theorem fdiv_dvd {x y : Int} (h : y ∣ x) : x.fdiv y * y = x := by
  have := Int.mul_fdiv_add_fmod x y
  rw [fmod_dvd.mpr h] at this
  rw [Int.mul_comm]
  omega
theorem Dv.step {c b q l : List Int} (h : Dv c b q l) (hb : Ct b) (hne : b ≠ []) (hl : b.length ≤ l.length) (hd : (lastC l).fmod (lastC b) = 0) :
    Dv c b (q.set (l.length - b.length) ((lastC l).fdiv (lastC b))) (trim (subAt l (l.length - b.length) ((lastC l).fdiv (lastC b)) b)) ∧
    (trim (subAt l (l.length - b.length) ((lastC l).fdiv (lastC b)) b)).length < l.length ∧ l.length - b.length < q.length := by
  have hbl : 0 < b.length := List.length_pos_iff.mpr hne
  have hsub : ∀ k, co (subAt l (l.length - b.length) ((lastC l).fdiv (lastC b)) b) k = co l k - if l.length - b.length ≤ k then (lastC l).fdiv (lastC b) * co b (k - (l.length - b.length)) else 0 := fun k => co_subAt (by omega)
  have htop : co (subAt l (l.length - b.length) ((lastC l).fdiv (lastC b)) b) (l.length - 1) = 0 := by
    rw [hsub, if_pos (by omega), show l.length - 1 - (l.length - b.length) = b.length - 1 by omega]
    have := fdiv_dvd (fmod_dvd.mp hd)
    unfold lastC at this ⊢
    omega
  have hlen : (trim (subAt l (l.length - b.length) ((lastC l).fdiv (lastC b)) b)).length < l.length := by
    have h1 := trim_len (subAt l (l.length - b.length) ((lastC l).fdiv (lastC b)) b)
    rw [len_subAt] at h1
    by_cases e : (trim (subAt l (l.length - b.length) ((lastC l).fdiv (lastC b)) b)).length = l.length
    · have hne2 : trim (subAt l (l.length - b.length) ((lastC l).fdiv (lastC b)) b) ≠ [] := fun z => by rw [z] at e; simp at e; omega
      have := ct_last (ct_trim _) hne2
      rw [e, co_trim, htop] at this
      exact absurd rfl this
    · omega
  have hsq : l.length - b.length < q.length := by
    have := h.len
    have := h.lel
    omega
  have hz : co q (l.length - b.length) = 0 := by
    rcases h.zq (l.length - b.length) with z | z
    · omega
    · exact z
  refine ⟨⟨ct_trim _, by rw [List.length_set]; exact h.len, by have := h.lel; omega, fun k => ?_, fun _ _ => trivial, fun k => ?_⟩, hlen, hsq⟩
  · rw [List.length_set, cv_put (f := co q) (c := (lastC l).fdiv (lastC b)) hsq (fun i => co_set hsq) hz, co_trim, hsub, h.eq k]
    omega
  · by_cases e : (trim (subAt l (l.length - b.length) ((lastC l).fdiv (lastC b)) b)).length < k + b.length
    · exact .inl e
    · refine .inr ?_
      rw [co_set hsq, if_neg (by omega)]
      rcases h.zq k with z | z
      · exfalso; omega
      · exact z
theorem divGo_ok {c b : List Int} (hb : Ct b) (hne : b ≠ []) : ∀ {n : Nat} {q l : List Int}, Dv c b q l → l.length < n →
    Dv c b (divGo n l q b).1 (divGo n l q b).2 ∧ ¬ (b.length ≤ (divGo n l q b).2.length ∧ (lastC (divGo n l q b).2).fmod (lastC b) = 0)
  | 0, _, _, _, h => absurd h (Nat.not_lt_zero _)
  | n + 1, q, l, D, h => by
    rw [divGo]
    split
    · rename_i hc
      obtain ⟨D2, h2, _⟩ := D.step hb hne hc.1 hc.2
      exact divGo_ok hb hne D2 (by omega)
    · rename_i hc
      exact ⟨D, hc⟩
theorem Dv.start {c b : List Int} (hc : Ct c) (hne : b ≠ []) : Dv c b (List.replicate ((c.length : Int) - (b.length : Int) + 1).toNat 0) c where
  ctl := hc
  len := List.length_replicate
  lel := Nat.le_refl _
  eq := fun k => by rw [cv_zero fun i _ => co_rep]; omega
  lo := fun _ _ => trivial
  zq := fun k => .inr co_rep
/-- what divided tells -/
structure DvEnd (c b q l : List Int) : Prop where
  ctq : Ct q
  ctl : Ct l
  lel : l.length ≤ c.length
  leq : q.length ≤ ((c.length : Int) - (b.length : Int) + 1).toNat
  eq : ∀ N k, q.length ≤ N → co c k = cv N (co q) (co b) k + co l k
  stop : l.length < b.length ∨ ¬ (lastC b ∣ lastC l)
theorem divC_ok {c b : List Int} (hc : Ct c) (hb : Ct b) (hne : b ≠ []) : DvEnd c b (divC c b).1 (divC c b).2 := by
  obtain ⟨D, h⟩ := divGo_ok hb hne (Dv.start hc hne) (Nat.lt_succ_self c.length)
  refine ⟨ct_trim _, D.ctl, D.lel, ?_, fun N k hN => ?_, ?_⟩
  · refine Nat.le_trans (trim_len _) ?_
    rw [D.len]; exact Nat.le_refl _
  · have e : ∀ M, (trim (divGo (c.length + 1) c (List.replicate ((c.length : Int) - (b.length : Int) + 1).toNat 0) b).1).length ≤ M → cv M (co (trim (divGo (c.length + 1) c (List.replicate ((c.length : Int) - (b.length : Int) + 1).toNat 0) b).1)) (co b) k = cv (divGo (c.length + 1) c (List.replicate ((c.length : Int) - (b.length : Int) + 1).toNat 0) b).1.length (co (divGo (c.length + 1) c (List.replicate ((c.length : Int) - (b.length : Int) + 1).toNat 0) b).1) (co b) k := fun M hM => by
      rw [cv_le hM fun i hi => co_ge hi, ← cv_le (M := (divGo (c.length + 1) c (List.replicate ((c.length : Int) - (b.length : Int) + 1).toNat 0) b).1.length) (trim_len _) fun i hi => co_ge hi]
      exact cv_congr (fun i _ => co_trim _ i) fun _ => rfl
    show co c k = cv N (co (trim _)) (co b) k + _
    rw [e N hN]
    exact D.eq k
  · by_cases z : (divC c b).2.length < b.length
    · exact .inl z
    · exact .inr fun d => h ⟨by show b.length ≤ (divC c b).2.length; omega, fmod_dvd.mpr d⟩
/-- a product is divided -/
theorem divC_prod {c b r : List Int} (hc : Ct c) (hb : Ct b) (hne : b ≠ []) (hr : Ct r) (h : ∀ k, co c k = cv r.length (co r) (co b) k) : divC c b = (r, []) := by
  have D := divC_ok hc hb hne
  obtain ⟨N, h1, h2⟩ : ∃ N, (divC c b).1.length ≤ N ∧ r.length ≤ N := ⟨max (divC c b).1.length r.length, by omega, by omega⟩
  have key := rest_none (N := N) (d := fun i => co r i - co (divC c b).1 i) hb hne D.ctl (fun i hi => by
    show co r i - co _ i = 0
    rw [co_ge (a := r) (by omega), co_ge (a := (divC c b).1) (by omega)]; rfl) (fun k => by
    rw [cv_sub, cv_le h2 fun i hi => co_ge hi, ← h k, D.eq N k h1]
    omega) D.stop
  have e : (divC c b).1 = r := ct_ext D.ctq hr fun k => by
    have := key.2 k
    have this : co r k - co (divC c b).1 k = 0 := this
    omega
  exact Prod.ext e key.1
theorem divC_some {c b : List Int} (hc : Ct c) (hb : Ct b) (hne : b ≠ []) (h : (divC c b).2 = []) : ∀ k, co c k = cv (divC c b).1.length (co (divC c b).1) (co b) k := fun k => by
  have D := divC_ok hc hb hne
  have := D.eq _ k (Nat.le_refl _)
  rw [h, co_nil] at this
  omega

theorem co_dropLast {a : List Int} {k : Nat} : co a.dropLast k = if k < a.length - 1 then co a k else 0 := by
  unfold co
  rw [List.getD_eq_getElem?_getD, List.getD_eq_getElem?_getD, List.getElem?_dropLast]
  split <;> rfl
theorem trim_dropLast {a : List Int} (h : lastC a = 0) : trim a.dropLast = trim a := trim_eq fun k => by
  rw [co_dropLast]
  split
  · rfl
  · by_cases e : k = a.length - 1
    · subst e; exact h.symm
    · rw [co_ge (by omega)]
theorem trim_ct {a : List Int} (h : a = [] ∨ lastC a ≠ 0) : trim a = a := ct_of_last fun hne => by
  rcases h with h | h
  · exact absurd h hne
  · exact h
end Po

set_option Elab.async false
set_option linter.all false
set_option maxHeartbeats 1200000
/-! dividing from the lowest place on -/
namespace Po
def solGo (b : List Int) : Nat → Nat → List Int → List Int → Option (List Int)
  | 0, _, l, f => if trim l = [] then some (trim f) else none
  | n + 1, p, l, f => if (co l p).fmod (co b 0) ≠ 0 then none else solGo b n (p + 1) (subAt l p ((co l p).fdiv (co b 0)) b) (f ++ [(co l p).fdiv (co b 0)])
def solN (c b : List Int) : Nat := ((c.length : Int) - (b.length : Int) + 1).toNat
def solC (c b : List Int) : Option (List Int) := solGo b (solN c b) 0 c []
theorem cv_app {f : List Int} {x : Int} {g : Nat → Int} {k : Nat} : cv (f ++ [x]).length (co (f ++ [x])) g k = cv f.length (co f) g k + if f.length ≤ k then x * g (k - f.length) else 0 := by
  rw [List.length_append, List.length_singleton]
  show sumTo f.length _ + _ = _
  have e : sumTo f.length (fun i => if i ≤ k then co (f ++ [x]) i * g (k - i) else 0) = cv f.length (co f) g k := sumTo_congr fun i hi => by
    rw [co_app, if_pos hi]
  have e2 : co (f ++ [x]) f.length = x := by
    rw [co_app, if_neg (by omega), Nat.sub_self]; rfl
  show sumTo f.length (fun i => if i ≤ k then co (f ++ [x]) i * g (k - i) else 0) + (if f.length ≤ k then co (f ++ [x]) f.length * g (k - f.length) else 0) = _
  rw [e, e2]
theorem sol_some {c b : List Int} (hb : b ≠ []) : ∀ {n p : Nat} {l f q : List Int}, solGo b n p l f = some q → f.length = p → p + n = solN c b → l.length = c.length → (∀ k, co c k = cv f.length (co f) (co b) k + co l k) →
    Ct q ∧ ∀ k, co c k = cv q.length (co q) (co b) k
  | 0, p, l, f, q, h, hf, hn, hl, he => by
    rw [solGo] at h
    split at h
    · rename_i h0
      cases h
      refine ⟨ct_trim f, fun k => ?_⟩
      have hl0 : co l k = 0 := by rw [← co_trim, h0, co_nil]
      rw [he k, hl0]
      rw [show cv (trim f).length (co (trim f)) (co b) k = cv f.length (co (trim f)) (co b) k from (cv_le (trim_len f) fun i hi => co_ge hi).symm]
      rw [cv_congr (f := co f) (f' := co (trim f)) (fun i _ => (co_trim f i).symm) (fun _ => rfl)]
      omega
    · cases h
  | n + 1, p, l, f, q, h, hf, hn, hl, he => by
    rw [solGo] at h
    split at h
    · cases h
    · have hlb : p + b.length ≤ l.length := by
        unfold solN at hn
        omega
      refine sol_some hb h (by rw [List.length_append, List.length_singleton, hf]) (by omega) (by rw [len_subAt]; exact hl) fun k => ?_
      rw [cv_app, co_subAt hlb, hf, he k, hf]
      omega
theorem sol_prod {c b q : List Int} (hb : b ≠ []) (hb0 : co b 0 ≠ 0) (hq : Ct q) (hlen : q.length ≤ solN c b) : ∀ {n p : Nat} {l f : List Int}, f.length = p → p + n = solN c b → l.length = c.length → (∀ j, j < p → co f j = co q j) →
    (∀ k, co l k = cv (solN c b) (fun i => co q i - co f i) (co b) k) → solGo b n p l f = some q
  | 0, p, l, f, hf, hn, hl, hj, he => by
    rw [solGo]
    have z : ∀ i, co q i - co f i = 0 := fun i => by
      by_cases hi : i < p
      · rw [hj i hi]; omega
      · rw [co_ge (a := q) (by omega), co_ge (a := f) (by omega)]; rfl
    rw [if_pos (trim_nil fun k => by rw [he k, cv_zero fun i _ => z i])]
    refine congrArg some (ct_ext (ct_trim f) hq fun k => ?_)
    rw [co_trim]
    have := z k
    omega
  | n + 1, p, l, f, hf, hn, hl, hj, he => by
    have hfp : co f p = 0 := co_ge (by omega)
    have hlow : co l p = co q p * co b 0 := by
      rw [he p, cv_low (by omega) fun i hi => ?_]
      · show (co q p - co f p) * co b 0 = _
        rw [hfp, Int.sub_zero]
      · show co q i - co f i = 0
        rw [hj i hi]; omega
    have hd : co b 0 ∣ co l p := by rw [hlow]; exact Int.dvd_mul_left _ _
    have hx : (co l p).fdiv (co b 0) = co q p := by
      have := fdiv_dvd hd
      rw [hlow] at this ⊢
      exact Int.eq_of_mul_eq_mul_right hb0 this
    rw [solGo, if_neg (fun z => z (fmod_dvd.mpr hd)), hx]
    have hlb : p + b.length ≤ l.length := by
      unfold solN at hn
      omega
    refine sol_prod hb hb0 hq hlen (by rw [List.length_append, List.length_singleton, hf]) (by omega) (by rw [len_subAt]; exact hl) (fun j hj' => ?_) fun k => ?_
    · rw [co_app]
      split
      · exact hj j (by omega)
      · rw [show j - f.length = 0 by omega, show j = p by omega]; rfl
    · rw [co_subAt hlb, he k]
      have hput := cv_put (N := solN c b) (s := p) (k := k) (f := fun i => co q i - co (f ++ [co q p]) i) (f' := fun i => co q i - co f i) (g := co b) (c := co q p) (by omega) (fun i => by
        show co q i - co f i = if p = i then co q p else co q i - co (f ++ [co q p]) i
        rw [co_app]
        by_cases e : p = i
        · subst e; rw [if_pos rfl, hfp]; omega
        · rw [if_neg e]
          split
          · rfl
          · rw [co_ge (a := f) (by omega), co_ge (a := [co q p]) (by simp; omega)]) (by
        show co q p - co (f ++ [co q p]) p = 0
        rw [co_app, if_neg (by omega), show p - f.length = 0 by omega, co_zero]; omega)
      rw [hput]
      omega
theorem sol_div {c b : List Int} (hc : Ct c) (hb : Ct b) (hne : b ≠ []) (hb0 : co b 0 ≠ 0) : solC c b = if (divC c b).2 = [] then some (divC c b).1 else none := by
  have D := divC_ok hc hb hne
  split
  · rename_i h
    refine sol_prod hne hb0 D.ctq D.leq rfl (by rw [Nat.zero_add]) rfl (fun j hj => absurd hj (Nat.not_lt_zero _)) fun k => ?_
    rw [D.eq (solN c b) k D.leq, h, co_nil]
    have : cv (solN c b) (co (divC c b).1) (co b) k = cv (solN c b) (fun i => co (divC c b).1 i - co [] i) (co b) k := cv_congr (fun i _ => by rw [co_nil]; omega) (fun _ => rfl)
    omega
  · rename_i h
    cases e : solC c b with
    | none => rfl
    | some q =>
      obtain ⟨cq, hq⟩ := sol_some (c := c) hne e rfl (by rw [Nat.zero_add]) rfl fun k => by
        show co c k = cv 0 _ _ k + co c k
        have : cv 0 (co []) (co b) k = 0 := rfl
        omega
      rw [divC_prod hc hb hne cq hq] at h
      exact absurd rfl h
/-! number times counts -/
theorem mul_one_list {a : List Int} {n : Int} {k : Nat} (hn : n ≠ 0) : co (mulC a [n]) k = n * co a k := by
  rw [co_mulC]
  unfold cv
  by_cases hk : k < a.length
  · rw [sumTo_one hk fun i hi hne => ?_]
    · rw [if_pos (Nat.le_refl _), Nat.sub_self, co_zero, Int.mul_comm]
    · split
      · rw [co_ge (a := [n]) (by simp; omega), Int.mul_zero]
      · rfl
  · rw [co_ge (a := a) (by omega), Int.mul_zero]
    refine sumTo_zero fun i hi => ?_
    split
    · rw [co_ge (a := [n]) (by simp; omega), Int.mul_zero]
    · rfl
theorem ct_ne {a : List Int} (h : Ct a) (k : Nat) (hk : co a k ≠ 0) : a ≠ [] := fun z => hk (by rw [z, co_nil])
/-- some times by, divided by number times by -/
theorem shares {s b : List Int} {n : Int} (hs : Ct s) (hb : Ct b) (hne : b ≠ []) (hn : n ≠ 0) : ((divC (mulC s b) (mulC b [n])).2 = [] ↔ ∀ k, n ∣ co s k) := by
  have hgne : mulC b [n] ≠ [] := ct_ne ct_mulC (b.length - 1) (by
    rw [mul_one_list hn]
    exact Int.mul_ne_zero hn (ct_last hb hne))
  constructor
  · intro h k
    have e := divC_some ct_mulC ct_mulC hgne h
    obtain ⟨N, h1, h2⟩ : ∃ N, (divC (mulC s b) (mulC b [n])).1.length ≤ N ∧ s.length ≤ N := ⟨max (divC (mulC s b) (mulC b [n])).1.length s.length, by omega, by omega⟩
    have key := rest_none (N := N) (d := fun i => co s i - n * co (divC (mulC s b) (mulC b [n])).1 i) (l := []) hb hne ct_nil (fun i hi => by
      show co s i - n * co _ i = 0
      rw [co_ge (a := s) (by omega), co_ge (a := (divC (mulC s b) (mulC b [n])).1) (by omega), Int.mul_zero]; rfl) (fun k => by
      have a1 : cv N (fun i => n * co (divC (mulC s b) (mulC b [n])).1 i) (co b) k = n * cv N (co (divC (mulC s b) (mulC b [n])).1) (co b) k := cv_mull n
      have a2 : cv N (co (divC (mulC s b) (mulC b [n])).1) (co (mulC b [n])) k = n * cv N (co (divC (mulC s b) (mulC b [n])).1) (co b) k := by
        rw [cv_congr (f' := co (divC (mulC s b) (mulC b [n])).1) (g := co (mulC b [n])) (g' := fun i => n * co b i) (fun _ _ => rfl) (fun i => mul_one_list hn), cv_mulr]
      rw [cv_sub, a1, ← co_mulC_le h2, e k, co_nil, ← cv_le h1 fun i hi => co_ge hi, a2]
      omega) (.inl (by simp; exact List.length_pos_iff.mpr hne))
    have := key.2 k
    have this : co s k - n * co (divC (mulC s b) (mulC b [n])).1 k = 0 := this
    exact ⟨co (divC (mulC s b) (mulC b [n])).1 k, by omega⟩
  · intro h
    have hq : ∀ k, co (trim ((List.range s.length).map fun k => co s k / n)) k = co s k / n := fun k => by
      rw [co_trim, co_map_range (n := s.length) fun i hi => by rw [co_ge hi]; exact Int.zero_ediv n]
    have := divC_prod (c := mulC s b) (b := mulC b [n]) (r := trim ((List.range s.length).map fun k => co s k / n)) ct_mulC ct_mulC hgne (ct_trim _) fun k => by
      have hl : (trim ((List.range s.length).map fun k => co s k / n)).length ≤ s.length := by
        refine Nat.le_trans (trim_len _) ?_
        rw [List.length_map, List.length_range]
        exact Nat.le_refl _
      rw [co_mulC, ← cv_le hl fun i hi => co_ge hi]
      rw [cv_congr (f := co (trim ((List.range s.length).map fun k => co s k / n))) (f' := fun k => co s k / n) (g := co (mulC b [n])) (g' := fun i => n * co b i) (fun i _ => hq i) (fun i => mul_one_list hn), cv_mulr, ← cv_mull]
      refine cv_congr (fun i _ => ?_) fun _ => rfl
      exact (Int.mul_ediv_cancel' (h i)).symm
    rw [this]
theorem mul_div {s b : List Int} (hs : Ct s) (hb : Ct b) (hne : b ≠ []) : divC (mulC s b) b = (s, []) := divC_prod ct_mulC hb hne hs fun k => co_mulC
/-! x to the low + step less x to the low -/
theorem sumTo_shift {h : Nat → Int} {N : Nat} : ∀ {M : Nat}, N ≤ M → sumTo M (fun k => if N ≤ k then h (k - N) else 0) = sumTo (M - N) h
  | 0, hM => by
    have : N = 0 := by omega
    subst this; rfl
  | M + 1, hM => by
    by_cases e : N = M + 1
    · subst e
      rw [Nat.sub_self]
      refine sumTo_zero fun i hi => ?_
      rw [if_neg (by omega)]
    · rw [show M + 1 - N = (M - N) + 1 by omega]
      show sumTo M _ + (if N ≤ M then h (M - N) else 0) = sumTo (M - N) h + h (M - N)
      rw [sumTo_shift (by omega), if_pos (by omega)]
theorem ann {f g w : Nat → Int} {d M : Nat} (hg : ∀ j, d ≤ j → g j = 0) (hw : ∀ i, sumTo d (fun j => g j * w (i + j)) = 0) : ∀ {N : Nat}, N + d ≤ M → sumTo M (fun k => cv N f g k * w k) = 0
  | 0, _ => sumTo_zero fun i _ => by
    show (0 : Int) * w i = 0
    rw [Int.zero_mul]
  | N + 1, h => by
    have e : sumTo M (fun k => cv (N + 1) f g k * w k) = sumTo M (fun k => cv N f g k * w k + f N * (if N ≤ k then (fun j => g j * w (N + j)) (k - N) else 0)) := sumTo_congr fun k _ => by
      show (cv N f g k + (if N ≤ k then f N * g (k - N) else 0)) * w k = _
      by_cases hk : N ≤ k
      · rw [if_pos hk, if_pos hk, Int.add_mul]
        show _ = cv N f g k * w k + f N * (g (k - N) * w (N + (k - N)))
        rw [show N + (k - N) = k by omega, Int.mul_assoc]
      · rw [if_neg hk, if_neg hk, Int.mul_zero, Int.add_zero, Int.add_zero]
    have sh := sumTo_shift (h := fun j => g j * w (N + j)) (N := N) (M := M) (by omega)
    rw [e, sumTo_add, ann hg hw (by omega), sumTo_mul, sh, sumTo_le (n := d) (by omega) fun i hi => by rw [hg i hi, Int.zero_mul], hw, Int.mul_zero]
    rfl
/-- a product by b, of finitely many numbers -/
def DvB (b : List Int) (c : Nat → Int) : Prop := ∃ (N : Nat) (f : Nat → Int), (∀ i, N ≤ i → f i = 0) ∧ ∀ k, c k = cv N f (co b) k
theorem DvB.add {b : List Int} {c c' : Nat → Int} (h : DvB b c) (h' : DvB b c') : DvB b (fun k => c k + c' k) := by
  obtain ⟨N, f, h1, h2⟩ := h
  obtain ⟨N', f', h1', h2'⟩ := h'
  refine ⟨max N N', fun i => f i - (fun i => - f' i) i, fun i hi => ?_, fun k => ?_⟩
  · show f i - - f' i = 0
    rw [h1 i (by omega), h1' i (by omega)]; rfl
  · have e1 : cv (max N N') f (co b) k = cv N f (co b) k := cv_le (by omega) h1
    have e2 : cv (max N N') (fun i => - f' i) (co b) k = cv N' (fun i => - f' i) (co b) k := cv_le (by omega) fun i hi => by show - f' i = 0; rw [h1' i hi]; rfl
    have e3 : cv N' (fun i => - f' i) (co b) k = - cv N' f' (co b) k := by
      have := cv_mull (N := N') (f := f') (g := co b) (k := k) (-1)
      rw [cv_congr (f' := fun i => -1 * f' i) (fun i _ => by omega) fun _ => rfl, this]
      omega
    show c k + c' k = _
    rw [cv_sub, e1, e2, e3, h2 k, h2' k]
    omega
theorem DvB.shift {b u : List Int} (a : Nat) : DvB b (fun k => if a ≤ k then cv u.length (co u) (co b) (k - a) else 0) := by
  refine ⟨a + u.length, fun i => if a ≤ i then co u (i - a) else 0, fun i hi => ?_, fun k => ?_⟩
  · show (if a ≤ i then co u (i - a) else 0) = 0
    rw [if_pos (by omega), co_ge (by omega)]
  · show _ = sumTo (a + u.length) fun i => if i ≤ k then (if a ≤ i then co u (i - a) else 0) * co b (k - i) else 0
    have e : sumTo (a + u.length) (fun i => if i ≤ k then (if a ≤ i then co u (i - a) else 0) * co b (k - i) else 0) = sumTo (a + u.length) (fun i => if a ≤ i then (fun j => if a + j ≤ k then co u j * co b (k - (a + j)) else 0) (i - a) else 0) := sumTo_congr fun i _ => by
      by_cases h : a ≤ i
      · rw [if_pos h, if_pos h]
        show _ = (if a + (i - a) ≤ k then co u (i - a) * co b (k - (a + (i - a))) else 0)
        rw [show a + (i - a) = i by omega]
      · rw [if_neg h, if_neg h, Int.zero_mul]
        split <;> rfl
    have sh := sumTo_shift (h := fun j => if a + j ≤ k then co u j * co b (k - (a + j)) else 0) (N := a) (M := a + u.length) (by omega)
    rw [e, sh, show a + u.length - a = u.length by omega]
    show (if a ≤ k then cv u.length (co u) (co b) (k - a) else 0) = _
    by_cases h : a ≤ k
    · rw [if_pos h]
      refine sumTo_congr fun j _ => ?_
      by_cases hj : j ≤ k - a
      · rw [if_pos hj, if_pos (by omega), show k - (a + j) = k - a - j by omega]
      · rw [if_neg hj, if_neg (by omega)]
    · rw [if_neg h]
      refine (sumTo_zero fun j _ => ?_).symm
      rw [if_neg (by omega)]
theorem DvB.divC {b c : List Int} (hc : Ct c) (hb : Ct b) (hne : b ≠ []) (h : DvB b (co c)) : (divC c b).2 = [] := by
  obtain ⟨N, f, h1, h2⟩ := h
  have e : ∀ i, co (trim ((List.range N).map f)) i = f i := fun i => by rw [co_trim, co_map_range h1]
  have hl : (trim ((List.range N).map f)).length ≤ N := by
    refine Nat.le_trans (trim_len _) ?_
    rw [List.length_map, List.length_range]
    exact Nat.le_refl _
  rw [divC_prod hc hb hne (ct_trim ((List.range N).map f)) fun k => by
    rw [← cv_le hl fun i hi => co_ge hi, h2 k]
    exact cv_congr (fun i _ => (e i).symm) fun _ => rfl]
def dl (a k : Nat) : Int := if k = a then 1 else 0
theorem pow_dvb {b u : List Int} {n : Nat} (hu : ∀ k, cv u.length (co u) (co b) k = dl n k - dl 0 k) (low : Nat) : ∀ m : Nat, DvB b (fun k => dl (low + n * m) k - dl low k)
  | 0 => ⟨0, fun _ => 0, fun _ _ => rfl, fun k => by
    show dl (low + n * 0) k - dl low k = 0
    rw [Nat.mul_zero, Nat.add_zero, Int.sub_self]⟩
  | m + 1 => by
    have h := (pow_dvb hu low m).add (DvB.shift (b := b) (u := u) (low + n * m))
    refine cast (congrArg (DvB b) (funext fun k => ?_)) h
    show (dl (low + n * m) k - dl low k) + (if low + n * m ≤ k then cv u.length (co u) (co b) (k - (low + n * m)) else 0) = dl (low + n * (m + 1)) k - dl low k
    rw [hu]
    unfold dl
    have : n * (m + 1) = n * m + n := Nat.mul_succ n m
    rw [this]
    repeat' split
    all_goals omega
theorem pow_div {b u : List Int} {n : Nat} (hb : Ct b) (hne : b ≠ []) (hu : ∀ k, cv u.length (co u) (co b) k = dl n k - dl 0 k) (w : Bool → Nat → Int) (hw : ∀ s i, sumTo b.length (fun j => co b j * w s (i + j)) = 0)
    (hd : ∀ a c, (∀ s, w s a = w s c) → a % n = c % n) {c : List Int} (hc : Ct c) {low step : Nat} (hco : ∀ k, co c k = dl (low + step) k - dl low k) : (divC c b).2 = [] ↔ step % n = 0 := by
  constructor
  · intro h
    have e := divC_some hc hb hne h
    have key : ∀ s, w s (low + step) = w s low := fun s => by
      have z := ann (f := co (divC c b).1) (g := co b) (w := w s) (d := b.length) (M := (divC c b).1.length + b.length + low + step + 1) (fun j hj => co_ge hj) (hw s) (N := (divC c b).1.length) (by omega)
      have z2 : sumTo ((divC c b).1.length + b.length + low + step + 1) (fun k => (dl (low + step) k * w s k) - (dl low k * w s k)) = 0 := by
        rw [← z]
        refine sumTo_congr fun k _ => ?_
        rw [← e k, hco k, Int.sub_mul]
      rw [sumTo_sub, sumTo_one (m := low + step) (by omega) fun i _ hi => by unfold dl; rw [if_neg hi, Int.zero_mul], sumTo_one (m := low) (by omega) fun i _ hi => by unfold dl; rw [if_neg hi, Int.zero_mul]] at z2
      unfold dl at z2
      rw [if_pos rfl, if_pos rfl] at z2
      omega
    have := hd _ _ key
    have h3 := Nat.sub_mod_eq_zero_of_mod_eq this
    rwa [show low + step - low = step by omega] at h3
  · intro h
    have hs : step = n * (step / n) := by
      have := Nat.div_add_mod step n
      omega
    have := pow_dvb hu low (step / n)
    rw [← hs] at this
    refine DvB.divC hc hb hne (cast (congrArg (DvB b) (funext fun k => ?_)) this)
    exact (hco k).symm
/-- two tables of a round of n -/
def tw (n : Nat) (t0 t1 : List Int) (s : Bool) (k : Nat) : Int := if s then t0.getD (k % n) 0 else t1.getD (k % n) 0
theorem tw_mod {n : Nat} {t0 t1 : List Int} {s : Bool} {i j : Nat} : tw n t0 t1 s (i + j) = tw n t0 t1 s (i % n + j) := by
  unfold tw
  rw [Nat.add_mod i j n, Nat.add_mod (i % n) j n, Nat.mod_mod]
theorem pow_tab {b u t0 t1 : List Int} {n : Nat} (hb : Ct b) (hne : b ≠ []) (hn : 0 < n) (hu : ∀ k, k < u.length + b.length + n + 1 → cv u.length (co u) (co b) k = dl n k - dl 0 k)
    (hw : ∀ s : Bool, ∀ r, r < n → sumTo b.length (fun j => co b j * tw n t0 t1 s (r + j)) = 0) (hd : ∀ a, a < n → ∀ c, c < n → (∀ s : Bool, tw n t0 t1 s a = tw n t0 t1 s c) → a = c)
    {c : List Int} (hc : Ct c) {low step : Nat} (hco : ∀ k, co c k = dl (low + step) k - dl low k) : (divC c b).2 = [] ↔ step % n = 0 := by
  refine pow_div hb hne (u := u) (fun k => ?_) (tw n t0 t1) (fun s i => ?_) (fun a c h => ?_) hc hco
  · by_cases hk : k < u.length + b.length + n + 1
    · exact hu k hk
    · rw [cv_beyond (by omega)]
      unfold dl
      rw [if_neg (by omega), if_neg (by omega)]; rfl
  · rw [sumTo_congr (g := fun j => co b j * tw n t0 t1 s (i % n + j)) fun j _ => by rw [tw_mod]]
    exact hw s _ (Nat.mod_lt i hn)
  · refine hd _ (Nat.mod_lt a hn) _ (Nat.mod_lt c hn) fun s => ?_
    have := h s
    unfold tw at this ⊢
    rw [Nat.mod_mod, Nat.mod_mod]
    exact this
section
variable {c : List Int} {low step : Nat} (hc : Ct c) (hco : ∀ k, co c k = dl (low + step) k - dl low k)
include hc hco
theorem pow3 : (divC c [1, 1, 1]).2 = [] ↔ step % 3 = 0 := pow_tab (b := [1, 1, 1]) (u := [-1, 1]) (t0 := [1, 0, -1]) (t1 := [0, -1, 1]) (show trim [1, 1, 1] = [1, 1, 1] from rfl) (by decide) (by decide) (by decide +kernel) (by decide +kernel) (by decide +kernel) hc hco
theorem pow6 : (divC c [1, -1, 1]).2 = [] ↔ step % 6 = 0 := pow_tab (b := [1, -1, 1]) (u := [-1, -1, 0, 1, 1]) (t0 := [1, 1, 0, -1, -1, 0]) (t1 := [1, 0, -1, -1, 0, 1]) (show trim [1, -1, 1] = [1, -1, 1] from rfl) (by decide) (by decide) (by decide +kernel) (by decide +kernel) (by decide +kernel) hc hco
theorem pow4 : (divC c [1, 0, 1]).2 = [] ↔ step % 4 = 0 := pow_tab (b := [1, 0, 1]) (u := [-1, 0, 1]) (t0 := [1, 1, -1, -1]) (t1 := [1, -1, -1, 1]) (show trim [1, 0, 1] = [1, 0, 1] from rfl) (by decide) (by decide) (by decide +kernel) (by decide +kernel) (by decide +kernel) hc hco
theorem pow1 : (divC c [-1, 1]).2 = [] ↔ step % 1 = 0 := pow_tab (b := [-1, 1]) (u := [1]) (t0 := [1]) (t1 := [1]) (show trim [-1, 1] = [-1, 1] from rfl) (by decide) (by decide) (by decide +kernel) (by decide +kernel) (by decide +kernel) hc hco
theorem pow2 : (divC c [1, 1]).2 = [] ↔ step % 2 = 0 := pow_tab (b := [1, 1]) (u := [-1, 1]) (t0 := [1, -1]) (t1 := [1, -1]) (show trim [1, 1] = [1, 1] from rfl) (by decide) (by decide) (by decide +kernel) (by decide +kernel) (by decide +kernel) hc hco
end
end Po

set_option Elab.async false
set_option linter.all false
set_option maxRecDepth 100000
set_option maxHeartbeats 1200000
/-! DL: what an expression is worth, as data; a frozen heap F within the heap H; lists that the def itself may change, apart. -/
namespace DL
open Evl (sq_of st_of sz_of sz_lt rMax2 ixN_nat)
open L2 PySem PySem.Spec PyProof.Rows

theorem same_new {H : Hp} {p : Addr} {o : HO} (h : H p = none) : Same H (upd H p o) := fun b x e => by
  rw [upd_ne (ne_of_none e h)]
  exact e
theorem same_upd_out {F H : Hp} {p : Addr} {o : HO} (e : Same F H) (h : F p = none) : Same F (upd H p o) := fun b x q => by
  rw [upd_ne (ne_of_none q h)]
  exact e b x q
theorem same_upd_both {F H : Hp} {p : Addr} {o : HO} (e : Same F H) : Same (upd F p o) (upd H p o) := fun b x q => by
  by_cases hb : b = p
  · subst hb; rw [upd_same] at q ⊢; exact q
  · rw [upd_ne hb] at q ⊢; exact e b x q
theorem same_rd {H H' : Hp} {a : Addr} {u : HO} (e : Same H H') (h : Rd H a u) : Rd H' a u := by
  rcases h with h | ⟨o, h⟩
  · exact Or.inl (e a _ h)
  · exact Or.inr ⟨o, e a _ h⟩
theorem same_l {K : PySem.W.Frag} {H H' : Hp} {a : Addr} {xs : List V} (e : Same H H') (h : SqL K H a xs) : SqL K H' a xs := by
  rcases h with h | h
  · exact Or.inl (same_rd e h)
  · exact Or.inr h
theorem same_t {K : PySem.W.Frag} {H H' : Hp} {a : Addr} {xs : List V} (e : Same H H') (h : SqT K H a xs) : SqT K H' a xs := by
  rcases h with h | h
  · exact Or.inl (same_rd e h)
  · exact Or.inr h
theorem fresh_back {H H' : Hp} {p : Addr} (e : Same H H') (h : H' p = none) : H p = none := e.free h

mutual
theorem dp_mono {K : PySem.W.Frag} {H H' : Hp} (e : Same H H') : ∀ {d : PyData} {v : V}, Dp K H v d → Dp K H' v d
  | .none, _, h => by cases h; exact .non
  | .bool b, _, h => by cases h; exact .bl b
  | .int i, _, h => by cases h; exact .int i
  | .str x, _, h => by cases h; exact .str x
  | .list ds, _, h => by
    cases h with
    | lst hs ha => exact .lst (same_l e hs) (dpAll_mono e ha)
  | .tuple ds, _, h => by
    cases h with
    | tup hs ha => exact .tup (same_t e hs) (dpAll_mono e ha)
  | .dict _, _, h => by cases h
theorem dpAll_mono {K : PySem.W.Frag} {H H' : Hp} (e : Same H H') : ∀ {ds : List PyData} {vs : List V}, DpAll K H vs ds → DpAll K H' vs ds
  | [], _, h => by cases h; exact .nil
  | d :: ds, _, h => by
    cases h with
    | cons h1 h2 => exact .cons (dp_mono e h1) (dpAll_mono e h2)
end
section
variable {K : PySem.W.Frag} {H F : Hp} {v : V} {vs us : List V} {d : PyData} {ds es : List PyData}
theorem dp_int {i : Int} (h : Dp K H v (.int i)) : v = .int i := by cases h; rfl
theorem dp_bool {b : Bool} (h : Dp K H v (.bool b)) : v = .bl b := by cases h; rfl
theorem dp_str {x : Str} (h : Dp K H v (.str x)) : v = .str x := by cases h; rfl
theorem dp_none (h : Dp K H v .none) : v = .non := by cases h; rfl
theorem dp_list (h : Dp K H v (.list ds)) : ∃ a xs, v = .ref a ∧ SqL K H a xs ∧ DpAll K H xs ds := by cases h with | lst hs ha => exact ⟨_, _, rfl, hs, ha⟩
theorem dp_tuple (h : Dp K H v (.tuple ds)) : ∃ a xs, v = .ref a ∧ SqT K H a xs ∧ DpAll K H xs ds := by cases h with | tup hs ha => exact ⟨_, _, rfl, hs, ha⟩
theorem dpAll_len : ∀ {ds : List PyData} {vs : List V}, DpAll K H vs ds → vs.length = ds.length
  | [], _, h => by cases h; rfl
  | d :: ds, _, h => by cases h with | cons h1 h2 => rw [List.length_cons, List.length_cons, dpAll_len h2]
theorem dpAll_get : ∀ {ds : List PyData} {vs : List V} {i : Nat} {d : PyData}, DpAll K H vs ds → ds[i]? = some d → ∃ v, vs[i]? = some v ∧ Dp K H v d
  | [], _, _, _, _, e => by simp at e
  | d :: ds, _, 0, d', h, e => by
    cases h with
    | cons h1 h2 =>
      have e1 : d = d' := by simpa using e
      subst e1
      exact ⟨_, rfl, h1⟩
  | d :: ds, _, i + 1, d', h, e => by
    cases h with
    | cons h1 h2 =>
      obtain ⟨v, h3, h4⟩ := dpAll_get (i := i) h2 (by simpa using e)
      exact ⟨v, by simpa using h3, h4⟩
theorem dpAll_at {i : Nat} (h : DpAll K H vs ds) (e : vs[i]? = some v) : ∃ d, ds[i]? = some d ∧ Dp K H v d := by
  have hl := dpAll_len h
  obtain ⟨hi, _⟩ := List.getElem?_eq_some_iff.mp e
  have hi' : i < ds.length := by omega
  obtain ⟨w, h3, h4⟩ := dpAll_get h (List.getElem?_eq_getElem hi')
  rw [h3] at e
  cases e
  exact ⟨_, List.getElem?_eq_getElem hi', h4⟩
theorem dpAll_app : ∀ {ds : List PyData} {vs : List V}, DpAll K H vs ds → DpAll K H us es → DpAll K H (vs ++ us) (ds ++ es)
  | [], _, h, h' => by cases h; exact h'
  | d :: ds, _, h, h' => by cases h with | cons h1 h2 => exact .cons h1 (dpAll_app h2 h')
theorem dpAll_take : ∀ {n : Nat} {ds : List PyData} {vs : List V}, DpAll K H vs ds → DpAll K H (vs.take n) (ds.take n)
  | 0, _, _, _ => by rw [List.take_zero, List.take_zero]; exact .nil
  | n + 1, [], _, h => by cases h; exact .nil
  | n + 1, d :: ds, _, h => by cases h with | cons h1 h2 => exact .cons h1 (dpAll_take h2)
theorem dpAll_drop : ∀ {n : Nat} {ds : List PyData} {vs : List V}, DpAll K H vs ds → DpAll K H (vs.drop n) (ds.drop n)
  | 0, _, _, h => h
  | n + 1, [], _, h => by cases h; exact .nil
  | n + 1, d :: ds, _, h => by
    cases h with
    | cons h1 h2 =>
      rw [List.drop_succ_cons, List.drop_succ_cons]
      exact dpAll_drop h2
theorem dpAll_set : ∀ {n : Nat} {ds : List PyData} {vs : List V}, DpAll K H vs ds → Dp K H v d → DpAll K H (vs.set n v) (ds.set n d)
  | _, [], _, h, _ => by cases h; exact .nil
  | 0, e :: ds, _, h, q => by cases h with | cons h1 h2 => exact .cons q h2
  | n + 1, e :: ds, _, h, q => by cases h with | cons h1 h2 => exact .cons h1 (dpAll_set h2 q)
theorem dpAll_dropLast (h : DpAll K H vs ds) : DpAll K H vs.dropLast ds.dropLast := by
  rw [List.dropLast_eq_take, List.dropLast_eq_take, dpAll_len h]
  exact dpAll_take h
theorem dpAll_ints : ∀ ns : List Int, DpAll K H (ns.map V.int) (ns.map PyData.int)
  | [] => .nil
  | n :: ns => .cons (.int n) (dpAll_ints ns)
theorem dpAll_ints' : ∀ {ns : List Int} {vs : List V}, DpAll K H vs (ns.map PyData.int) → vs = ns.map V.int
  | [], _, h => by cases h; rfl
  | n :: ns, _, h => by
    cases h with
    | cons h1 h2 => rw [dp_int h1, dpAll_ints' h2]; rfl
theorem dpAll_bools' : ∀ {ns : List Bool} {vs : List V}, DpAll K H vs (ns.map PyData.bool) → vs = ns.map V.bl
  | [], _, h => by cases h; rfl
  | n :: ns, _, h => by
    cases h with
    | cons h1 h2 => rw [dp_bool h1, dpAll_bools' h2]; rfl
end

/-- a tuple of ints, a list of ints -/
abbrev tupI (ns : List Int) : PyData := .tuple (ns.map PyData.int)
abbrev lstI (ns : List Int) : PyData := .list (ns.map PyData.int)

/-! ### steps: the frozen heap and the heap grow -/
structure Stp (F H F' H' : Hp) : Prop where
  hh : Same H H'
  ff : Same F F'
  fh : Same F' H'
  nw : ∀ p, F p = none → H p ≠ none → F' p = none
theorem some_of_same {H H' : Hp} {p : Addr} (e : Same H H') (h : H p ≠ none) : H' p ≠ none := fun z => h (e.free z)
theorem Stp.refl {F H : Hp} (e : Same F H) : Stp F H F H := ⟨.refl _, .refl _, e, fun _ h _ => h⟩
theorem Stp.trans {F H F1 H1 F2 H2 : Hp} (a : Stp F H F1 H1) (b : Stp F1 H1 F2 H2) : Stp F H F2 H2 :=
  ⟨a.hh.trans b.hh, a.ff.trans b.ff, b.fh, fun p h h' => b.nw p (a.nw p h h') (some_of_same a.hh h')⟩

theorem Stp.alloc {F H F1 H1 : Hp} {p : Addr} {o : HO} (a : Stp F H F1 H1) (h : H1 p = none) : Stp F H (upd F1 p o) (upd H1 p o) where
  hh := a.hh.trans (same_new h)
  ff := a.ff.trans (same_new (fresh_back a.fh h))
  fh := same_upd_both a.fh
  nw := fun q h1 h2 => by
    have hq : q ≠ p := fun e => h2 (by subst e; exact a.hh.free h)
    rw [upd_ne hq]
    exact a.nw q h1 h2
/-- a new object that stays outside the frozen heap -/
theorem Stp.allocO {F H F1 H1 : Hp} {p : Addr} {o : HO} (a : Stp F H F1 H1) (h : H1 p = none) : Stp F H F1 (upd H1 p o) where
  hh := a.hh.trans (same_new h)
  ff := a.ff
  fh := a.fh.trans (same_new h)
  nw := a.nw

/-! ### types: what is true of a value, kept as the heap grows -/
structure Ty where
  p : V → Hp → Prop
  m : ∀ {v : V} {F F' : Hp}, Same F F' → p v F → p v F'
def TD (K : PySem.W.Frag) (d : PyData) : Ty := ⟨fun v F => Dp K F v d, fun e h => dp_mono e h⟩
def TX (w : V) : Ty := ⟨fun v _ => v = w, fun _ h => h⟩
def T0 : Ty := ⟨fun _ _ => True, fun _ h => h⟩
/-- an object there -/
def TyO (P : Addr → Hp → Prop) (m : ∀ {a : Addr} {F F' : Hp}, Same F F' → P a F → P a F') : Ty := ⟨fun v F => ∃ a, v = .ref a ∧ P a F, fun e ⟨a, h1, h2⟩ => ⟨a, h1, m e h2⟩⟩

def All2 (F : Hp) : List V → List Ty → Prop
  | [], [] => True
  | v :: vs, T :: Ts => T.p v F ∧ All2 F vs Ts
  | _, _ => False
theorem All2.mono {F F' : Hp} (e : Same F F') : ∀ {vs : List V} {Ts : List Ty}, All2 F vs Ts → All2 F' vs Ts
  | [], [], _ => trivial
  | _ :: _, T :: _, h => ⟨T.m e h.1, All2.mono e h.2⟩
  | [], _ :: _, h => h.elim
  | _ :: _, [], h => h.elim
theorem All2.len {F : Hp} : ∀ {vs : List V} {Ts : List Ty}, All2 F vs Ts → vs.length = Ts.length
  | [], [], _ => rfl
  | _ :: _, _ :: _, h => congrArg (· + 1) (All2.len h.2)
  | [], _ :: _, h => h.elim
  | _ :: _, [], h => h.elim
theorem all2_td {K : PySem.W.Frag} {F : Hp} : ∀ {vs : List V} {ds : List PyData}, All2 F vs (ds.map (TD K)) ↔ DpAll K F vs ds
  | [], [] => ⟨fun _ => .nil, fun _ => trivial⟩
  | v :: vs, d :: ds => ⟨fun h => .cons h.1 (all2_td.mp h.2), fun h => by cases h with | cons h1 h2 => exact ⟨h1, all2_td.mpr h2⟩⟩
  | [], _ :: _ => ⟨fun h => h.elim, fun h => by cases h⟩
  | _ :: _, [] => ⟨fun h => h.elim, fun h => by cases h⟩

abbrev Sl := Option Ty
def SlOk (F : Hp) (o : Option V) : Sl → Prop
  | none => True
  | some T => ∃ v, o = some v ∧ T.p v F
def Env (F : Hp) : L2.St → List Sl → Prop
  | [], [] => True
  | o :: σ, s :: ss => SlOk F o s ∧ Env F σ ss
  | _, _ => False
theorem Env.mono {F F' : Hp} (e : Same F F') : ∀ {σ : L2.St} {ss : List Sl}, Env F σ ss → Env F' σ ss
  | [], [], _ => trivial
  | _ :: _, none :: _, h => ⟨trivial, Env.mono e h.2⟩
  | _ :: _, some T :: _, h => ⟨by obtain ⟨v, h1, h2⟩ := h.1; exact ⟨v, h1, T.m e h2⟩, Env.mono e h.2⟩
  | [], _ :: _, h => h.elim
  | _ :: _, [], h => h.elim
theorem Env.get {F : Hp} : ∀ {σ : L2.St} {ss : List Sl} {i : Nat} {T : Ty}, Env F σ ss → ss[i]? = some (some T) → ∃ v, σ[i]? = some (some v) ∧ T.p v F
  | [], [], _, _, _, e => by simp at e
  | o :: σ, s :: ss, 0, T, h, e => by
    have e1 : s = some T := by simpa using e
    subst e1
    obtain ⟨v, h1, h2⟩ := h.1
    exact ⟨v, by rw [h1]; rfl, h2⟩
  | o :: σ, s :: ss, i + 1, T, h, e => by
    obtain ⟨v, h1, h2⟩ := Env.get (i := i) h.2 (by simpa using e)
    exact ⟨v, by simpa using h1, h2⟩
  | [], _ :: _, _, _, h, _ => h.elim
  | _ :: _, [], _, _, h, _ => h.elim
theorem Env.set {F : Hp} {v : V} {T : Ty} (q : T.p v F) : ∀ {σ : L2.St} {ss : List Sl} {i : Nat}, Env F σ ss → Env F (σ.set i (some v)) (ss.set i (some T))
  | [], [], _, _ => trivial
  | o :: σ, s :: ss, 0, h => ⟨⟨v, rfl, q⟩, h.2⟩
  | o :: σ, s :: ss, i + 1, h => ⟨h.1, Env.set q h.2⟩
  | [], _ :: _, _, h => h.elim
  | _ :: _, [], _, h => h.elim
theorem Env.unset {F : Hp} {x : Option V} : ∀ {σ : L2.St} {ss : List Sl} {i : Nat}, Env F σ ss → Env F (σ.set i x) (ss.set i none)
  | [], [], _, _ => trivial
  | o :: σ, s :: ss, 0, h => ⟨trivial, h.2⟩
  | o :: σ, s :: ss, i + 1, h => ⟨h.1, Env.unset h.2⟩
  | [], _ :: _, _, h => h.elim
  | _ :: _, [], _, h => h.elim
theorem Env.len {F : Hp} : ∀ {σ : L2.St} {ss : List Sl}, Env F σ ss → σ.length = ss.length
  | [], [], _ => rfl
  | _ :: _, _ :: _, h => congrArg (· + 1) (Env.len h.2)
  | [], _ :: _, h => h.elim
  | _ :: _, [], h => h.elim
def wipeS (ss : List Sl) : List Nat → List Sl
  | [] => ss
  | v :: vs => (wipeS ss vs).set v none
theorem Env.wipe {F : Hp} {σ : L2.St} {ss : List Sl} (h : Env F σ ss) : ∀ vs : List Nat, Env F (wipe σ vs) (wipeS ss vs)
  | [] => h
  | _ :: vs => Env.unset (Env.wipe h vs)
theorem env_nones {F : Hp} : ∀ n : Nat, Env F (List.replicate n none) (List.replicate n none)
  | 0 => trivial
  | n + 1 => ⟨trivial, env_nones n⟩
theorem env_app {F : Hp} {σ : L2.St} {ss : List Sl} (h : Env F σ ss) : ∀ {vs : List V} {Ts : List Ty}, All2 F vs Ts → Env F (vs.map some ++ σ) (Ts.map some ++ ss)
  | [], [], _ => h
  | v :: vs, T :: Ts, q => ⟨⟨v, rfl, q.1⟩, env_app h q.2⟩
  | [], _ :: _, q => q.elim
  | _ :: _, [], q => q.elim
theorem env_start {F : Hp} {N : List Str} {vs : List V} {Ts : List Ty} (q : All2 F vs Ts) : Env F (L2.start N vs) (Ts.map some ++ List.replicate (N.length - Ts.length) none) := by
  unfold L2.start
  rw [q.len]
  exact env_app (env_nones _) q

/-! ### what an expression evaluates to -/
def Ev (te : TE) (σ : L2.St) (F : Hp) (T : Ty) : Prop := ∀ H, Same F H → ∀ Q : VK, (∀ v F2 H2, Stp F H F2 H2 → T.p v F2 → Q v H2) → te σ H Q
def EvT (tt : TT) (σ : L2.St) (F : Hp) (b : Bool) : Prop := ∀ H, Same F H → ∀ Q : Bool → Hp → Prop, (∀ F2 H2, Stp F H F2 H2 → Q b H2) → tt σ H Q
def EvA (ta : TA) (σ : L2.St) (F : Hp) (Ts : List Ty) : Prop := ∀ H, Same F H → ∀ Q : List V → Hp → Prop, (∀ vs F2 H2, Stp F H F2 H2 → All2 F2 vs Ts → Q vs H2) → ta σ H Q
def EvO (to : L2.TO) (σ : L2.St) (F : Hp) (o : Option Int) : Prop := ∀ H, Same F H → ∀ Q : Option Int → Hp → Prop, (∀ F2 H2, Stp F H F2 H2 → Q o H2) → to σ H Q
/-- a new list, of these values -/
def EvN (K : PySem.W.Frag) (te : TE) (σ : L2.St) (F : Hp) (ds : List PyData) : Prop := ∀ H, Same F H → ∀ Q : VK, (∀ p xs F2 H2, Stp F H F2 H2 → H2 p = none → DpAll K F2 xs ds → Q (.ref p) (upd H2 p (.lst xs))) → te σ H Q
def RV (r : R2) (T1 T2 : Ty) (F : Hp) (T3 : Ty) : Prop := ∀ x y F1 H, Same F F1 → Same F1 H → T1.p x F1 → T2.p y F1 → ∀ Q : VK, (∀ v F2 H2, Stp F1 H F2 H2 → T3.p v F2 → Q v H2) → r x y H Q
def RU (r : V → Hp → VK → Prop) (T1 : Ty) (F : Hp) (T3 : Ty) : Prop := ∀ x F1 H, Same F F1 → Same F1 H → T1.p x F1 → ∀ Q : VK, (∀ v F2 H2, Stp F1 H F2 H2 → T3.p v F2 → Q v H2) → r x H Q
def RC (r : List V → Hp → VK → Prop) (Ts : List Ty) (F : Hp) (T3 : Ty) : Prop := ∀ xs F1 H, Same F F1 → Same F1 H → All2 F1 xs Ts → ∀ Q : VK, (∀ v F2 H2, Stp F1 H F2 H2 → T3.p v F2 → Q v H2) → r xs H Q
def RS (r : V → Option Int → Option Int → Hp → VK → Prop) (T1 : Ty) (lo hi : Option Int) (F : Hp) (T3 : Ty) : Prop := ∀ x F1 H, Same F F1 → Same F1 H → T1.p x F1 → ∀ Q : VK, (∀ v F2 H2, Stp F1 H F2 H2 → T3.p v F2 → Q v H2) → r x lo hi H Q

/-- what both frozen heaps know -/
def joinH (F G : Hp) : Hp := fun a => match F a with | some o => some o | none => G a
theorem join_l {F G : Hp} : Same F (joinH F G) := fun a o h => by unfold joinH; rw [h]
theorem join_r {F G H : Hp} (h1 : Same F H) (h2 : Same G H) : Same G (joinH F G) := fun a o h => by
  unfold joinH
  cases e : F a with
  | none => exact h
  | some u =>
    have q1 := h1 a u e
    have q2 := h2 a o h
    rw [q1] at q2
    exact q2
theorem join_h {F G H : Hp} (h1 : Same F H) (h2 : Same G H) : Same (joinH F G) H := fun a o h => by
  unfold joinH at h
  cases e : F a with
  | none => rw [e] at h; exact h2 a o h
  | some u => rw [e] at h; cases h; exact h1 a o e
/-- from a base that knows more -/
theorem Stp.up {F F1 H G H2 : Hp} (e : Same F F1) (f : Same F1 H) (a : Stp F H G H2) : Stp F1 H (joinH F1 G) H2 ∧ Same G (joinH F1 G) := by
  have h1 : Same F1 H2 := f.trans a.hh
  refine ⟨⟨a.hh, join_l, join_h h1 a.fh, fun p q r => ?_⟩, join_r h1 a.fh⟩
  unfold joinH
  rw [q]
  exact a.nw p (e.free q) r
section
variable {K : PySem.W.Frag} {σ : L2.St} {F F' H : Hp} {ta tb te : TE} {t u : TT} {T T1 T2 T3 : Ty} {Ts : List Ty} {ss : List Sl} {r : R2}
theorem Ev.up (h : Ev te σ F T) (e : Same F F') : Ev te σ F' T := fun H f Q q =>
  h H (e.trans f) Q fun v F2 H2 s hv => by
    obtain ⟨s2, g⟩ := s.up e f
    exact q v _ H2 s2 (T.m g hv)
theorem EvT.up {b : Bool} (h : EvT t σ F b) (e : Same F F') : EvT t σ F' b := fun H f Q q =>
  h H (e.trans f) Q fun F2 H2 s => q _ H2 (s.up e f).1
theorem EvA.up {ta : TA} (h : EvA ta σ F Ts) (e : Same F F') : EvA ta σ F' Ts := fun H f Q q =>
  h H (e.trans f) Q fun v F2 H2 s hv => by
    obtain ⟨s2, g⟩ := s.up e f
    exact q v _ H2 s2 (hv.mono g)
theorem ev_var {i : Nat} (E : Env F σ ss) (h : ss[i]? = some (some T)) : Ev (tVar i) σ F T := fun H f Q q => by
  obtain ⟨v, h1, h2⟩ := E.get h
  exact ⟨v, h1, q v F H (.refl f) h2⟩
theorem ev_int {i : Int} : Ev (tC (.int i)) σ F (TD K (.int i)) := fun H f Q q => q _ F H (.refl f) (.int i)
theorem ev_bool {b : Bool} : Ev (tC (.bl b)) σ F (TD K (.bool b)) := fun H f Q q => q _ F H (.refl f) (.bl b)
theorem ev_none : Ev (tC .non) σ F (TD K .none) := fun H f Q q => q _ F H (.refl f) .non
theorem ev_str {x : Str} : Ev (tC (.str x)) σ F (TD K (.str x)) := fun H f Q q => q _ F H (.refl f) (.str x)
theorem ev_ty {n : String} : Ev (tC (.ty n)) σ F (TX (.ty n)) := fun H f Q q => q _ F H (.refl f) rfl
theorem ev_op (ha : Ev ta σ F T1) (hb : Ev tb σ F T2) (hr : RV r T1 T2 F T3) : Ev (tOp r ta tb) σ F T3 := fun H f Q q =>
  ha H f _ fun x F1 H1 s1 hx => (hb.up s1.ff) H1 s1.fh _ fun y F2 H2 s2 hy =>
    hr x y F2 H2 (s1.ff.trans s2.ff) s2.fh (T1.m s2.ff hx) hy Q fun v F3 H3 s3 hv => q v F3 H3 ((s1.trans s2).trans s3) hv
theorem ev_un {r : V → Hp → VK → Prop} (ha : Ev ta σ F T1) (hr : RU r T1 F T3) : Ev (tUn r ta) σ F T3 := fun H f Q q =>
  ha H f _ fun x F1 H1 s1 hx => hr x F1 H1 s1.ff s1.fh hx Q fun v F3 H3 s3 hv => q v F3 H3 (s1.trans s3) hv
theorem ev_cb {r : List V → Hp → VK → Prop} {ta : TA} (ha : EvA ta σ F Ts) (hr : RC r Ts F T3) : Ev (tCB r ta) σ F T3 := fun H f Q q =>
  ha H f _ fun x F1 H1 s1 hx => hr x F1 H1 s1.ff s1.fh hx Q fun v F3 H3 s3 hv => q v F3 H3 (s1.trans s3) hv
theorem ea_nil : EvA tNil σ F [] := fun H f Q q => q [] F H (.refl f) trivial
theorem ea_cons {ta : TE} {tr : TA} (ha : Ev ta σ F T) (hb : EvA tr σ F Ts) : EvA (tCons ta tr) σ F (T :: Ts) := fun H f Q q =>
  ha H f _ fun x F1 H1 s1 hx => (hb.up s1.ff) H1 s1.fh _ fun vs F2 H2 s2 hy => q (x :: vs) F2 H2 (s1.trans s2) ⟨T.m s2.ff hx, hy⟩
theorem ev_tup {ta : TA} {ds : List PyData} (ha : EvA ta σ F (ds.map (TD K))) (hl : ds.length ≤ 100000) : Ev (tTup ta) σ F (TD K (.tuple ds)) := fun H f Q q =>
  ha H f _ fun vs F1 H1 s1 hv => by
    have hd := all2_td.mp hv
    refine ⟨sz_of (by rw [dpAll_len hd]; exact hl), fun p hp => ?_⟩
    exact q (.ref p) _ _ (s1.alloc hp) (.tup (st_of upd_same) (dpAll_mono (same_new (fresh_back s1.fh hp)) hd))
theorem en_lst {ta : TA} {ds : List PyData} (ha : EvA ta σ F (ds.map (TD K))) (hl : ds.length ≤ 100000) : EvN K (tLst ta) σ F ds := fun H f Q q =>
  ha H f _ fun vs F1 H1 s1 hv => by
    have hd := all2_td.mp hv
    exact ⟨sz_of (by rw [dpAll_len hd]; exact hl), fun p hp => q p vs F1 H1 s1 hp hd⟩
/-- a new list, frozen at once -/
theorem ev_new {ds : List PyData} (h : EvN K te σ F ds) : Ev te σ F (TD K (.list ds)) := fun H f Q q =>
  h H f Q fun p xs F1 H1 s1 hp hd => q (.ref p) _ _ (s1.alloc hp) (.lst (sq_of upd_same) (dpAll_mono (same_new (fresh_back s1.fh hp)) hd))
theorem ev_lst {ta : TA} {ds : List PyData} (ha : EvA ta σ F (ds.map (TD K))) (hl : ds.length ≤ 100000) : Ev (tLst ta) σ F (TD K (.list ds)) := ev_new (en_lst ha hl)
theorem eo_none : EvO tNoPart σ F none := fun H f Q q => q F H (.refl f)
theorem eo_some {i : Int} (h : Ev te σ F (TD K (.int i))) : EvO (tPart te) σ F (some i) := fun H f Q q =>
  h H f _ fun v F1 H1 s hv => ⟨i, dp_int hv, q F1 H1 s⟩
theorem EvO.up {to : L2.TO} {o : Option Int} (h : EvO to σ F o) (e : Same F F') : EvO to σ F' o := fun H f Q q =>
  h H (e.trans f) Q fun F2 H2 s => q _ H2 (s.up e f).1
theorem ev_sl {r : V → Option Int → Option Int → Hp → VK → Prop} {tl th : L2.TO} {lo hi : Option Int} (h : Ev te σ F T1) (h1 : EvO tl σ F lo) (h2 : EvO th σ F hi) (hr : RS r T1 lo hi F T3) : Ev (tSl r te tl th) σ F T3 := fun H f Q q =>
  h H f _ fun x F1 H1 s1 hx => (h1.up s1.ff) H1 s1.fh _ fun F2 H2 s2 => (h2.up (s1.ff.trans s2.ff)) H2 s2.fh _ fun F3 H3 s3 =>
    hr x F3 H3 ((s1.ff.trans s2.ff).trans s3.ff) s3.fh (T1.m (s2.ff.trans s3.ff) hx) Q fun v F4 H4 s4 hv => q v F4 H4 (((s1.trans s2).trans s3).trans s4) hv
theorem ev_is (h : Ev te σ F T) (e : T = T1) : Ev te σ F T1 := e ▸ h
theorem ev_weak (h : Ev te σ F T) (e : ∀ v F', Same F F' → T.p v F' → T1.p v F') : Ev te σ F T1 := fun H f Q q => h H f Q fun v F2 H2 s hv => q v F2 H2 s (e v F2 s.ff hv)
/-! tests -/
theorem et_test {b : Bool} (h : Ev te σ F (TD K (.bool b))) : EvT (tTest te) σ F b := fun H f Q q => h H f _ fun v F1 H1 s hv => ⟨b, dp_bool hv, q F1 H1 s⟩
theorem et_B {b : Bool} (h : Ev te σ F (TD K (.bool b))) : EvT (tB te) σ F b := fun H f Q q => h H f _ fun v F1 H1 s hv => ⟨b, dp_bool hv, q F1 H1 s⟩
theorem et_yes : EvT tYes σ F true := fun H f Q q => q F H (.refl f)
theorem et_is {a b : Bool} (h : EvT t σ F a) (e : a = b) : EvT t σ F b := e ▸ h
theorem et_not {a : Bool} (h : EvT t σ F a) : EvT (tNot t) σ F (!a) := fun H f Q q => h H f _ fun F1 H1 s => q F1 H1 s
theorem et_and {a b : Bool} (h1 : EvT t σ F a) (h2 : a = true → EvT u σ F b) : EvT (tAnd t u) σ F (a && b) := fun H f Q q => h1 H f _ fun F1 H1 s => by
  cases a with
  | true =>
    show u σ H1 Q
    exact (h2 rfl).up s.ff H1 s.fh _ fun F2 H2 s2 => q F2 H2 (s.trans s2)
  | false =>
    show Q false H1
    exact q F1 H1 s
theorem et_or {a b : Bool} (h1 : EvT t σ F a) (h2 : a = false → EvT u σ F b) : EvT (tOr t u) σ F (a || b) := fun H f Q q => h1 H f _ fun F1 H1 s => by
  cases a with
  | true =>
    show Q true H1
    exact q F1 H1 s
  | false =>
    show u σ H1 Q
    exact (h2 rfl).up s.ff H1 s.fh _ fun F2 H2 s2 => q F2 H2 (s.trans s2)
theorem ev_andV {a b : Bool} (h1 : Ev ta σ F (TD K (.bool a))) (h2 : a = true → Ev tb σ F (TD K (.bool b))) : Ev (tAndV ta tb) σ F (TD K (.bool (a && b))) := fun H f Q q => h1 H f _ fun v F1 H1 s hv => ⟨a, dp_bool hv, by
  cases a with
  | true =>
    show tb σ H1 Q
    exact (h2 rfl).up s.ff H1 s.fh _ fun w F2 H2 s2 hw => q w F2 H2 (s.trans s2) hw
  | false =>
    show Q (.bl false) H1
    exact q _ F1 H1 s (.bl false)⟩
theorem ev_orV {a b : Bool} (h1 : Ev ta σ F (TD K (.bool a))) (h2 : a = false → Ev tb σ F (TD K (.bool b))) : Ev (tOrV ta tb) σ F (TD K (.bool (a || b))) := fun H f Q q => h1 H f _ fun v F1 H1 s hv => ⟨a, dp_bool hv, by
  cases a with
  | true =>
    show Q (.bl true) H1
    exact q _ F1 H1 s (.bl true)
  | false =>
    show tb σ H1 Q
    exact (h2 rfl).up s.ff H1 s.fh _ fun w F2 H2 s2 hw => q w F2 H2 (s.trans s2) hw⟩
theorem ev_notV {a : Bool} (h1 : Ev ta σ F (TD K (.bool a))) : Ev (tNotV ta) σ F (TD K (.bool (!a))) := fun H f Q q => h1 H f _ fun v F1 H1 s hv => ⟨a, dp_bool hv, q _ F1 H1 s (.bl _)⟩
theorem ev_if {b : Bool} (h : EvT t σ F b) (h1 : b = true → Ev ta σ F T) (h2 : b = false → Ev tb σ F T) : Ev (tIf t ta tb) σ F T := fun H f Q q => h H f _ fun F1 H1 s => by
  cases b with
  | true =>
    show ta σ H1 Q
    exact (h1 rfl).up s.ff H1 s.fh _ fun w F2 H2 s2 hw => q w F2 H2 (s.trans s2) hw
  | false =>
    show tb σ H1 Q
    exact (h2 rfl).up s.ff H1 s.fh _ fun w F2 H2 s2 hw => q w F2 H2 (s.trans s2) hw
end
end DL

set_option Elab.async false
set_option linter.all false
set_option maxRecDepth 100000
set_option maxHeartbeats 1200000
namespace DL
open Evl (sq_of st_of sz_of sz_lt rMax2 ixN_nat)
open L2 PySem PySem.Spec PyProof.Rows
section
variable {X : Cx}
/-- list + list, of any lists that are read -/
def rCatL (K : PySem.W.Frag) : R2 := fun x y H Q => ∃ l b xs zs, x = .ref l ∧ y = .ref b ∧ SqL K H l xs ∧ SqL K H b zs ∧ xs.length + zs.length ≤ sizeLine ∧ ∀ p, H p = none → Q (.ref p) (upd H p (.lst (xs ++ zs)))
theorem op_catL : OpR X (binaryOp .Add) (rCatL X.K) := by
  intro pn s σ H x y v u Q I rx ry hc0
  obtain ⟨l, b, xs, zs, rfl, rfl, hH, hB, hz, q⟩ := hc0
  cases rx
  cases ry
  obtain ⟨its, r, ⟨⟨cls, dd, data, sl⟩, n, ho, hc, _, hd⟩, _⟩ := I.list hH
  obtain ⟨its2, r2, ⟨⟨cls2, dd2, data2, sl2⟩, n2, ho2, hc2, _, hd2⟩, _⟩ := I.list hB
  simp only at hc hd hc2 hd2
  subst hc hd hc2 hd2
  have e : its.toArray ++ its2.toArray = (its ++ its2).toArray := by simp
  have hsz : its.length + its2.length ≤ sizeLine := by rw [← r.length, ← r2.length]; exact hz
  refine concat_meets ⟨_, ho, rfl⟩ ⟨_, ho2, rfl⟩ noFill_list_add seq_list_add PySem.F.slot_list_add PySem.F.entry_list_add (PySem.F.args_list_add_2 _ _) (list_addW l b its.toArray its2.toArray n n2 dd dd2 sl sl2 (by simpa using hsz)) ⟨ho, ho2, ?_⟩
  rw [e]
  exact ⟨.ref _, _, I.lnew (t' := s.toks) (r.append r2) (by rw [List.length_append]; exact hz), rfl, q _ I.fresh⟩
/-- xs[i], by getItem alone (for xs[i] op= e) -/
def rGetL (K : PySem.W.Frag) : V → V → Hp → VK → Prop := fun x y H Q => ∃ p xs i j v, x = .ref p ∧ y = .int i ∧ SqL K H p xs ∧ i = ((j : Nat) : Int) ∧ xs[j]? = some v ∧ Q v H
theorem get_list : PGet X (rGetL X.K) := by
  intro pn s σ H x y v u Q I rx ry hc0
  obtain ⟨p, xs, i, j, w, rfl, rfl, kq, rfl, he, q⟩ := hc0
  cases rx
  obtain ⟨t, rfl⟩ := ry
  obtain ⟨its, r, pl, _⟩ := I.list kq
  obtain ⟨w', ew, rw'⟩ := r.get he
  have hl := r.length
  have hn := line63
  have hj : j < xs.length := (List.getElem?_eq_some_iff.mp he).1
  exact wpAny_getItem_list pl.isList (by omega) (by omega) (by rw [Int.toNat_natCast]; simpa using ew) ⟨w, H, I, rw', q⟩

/-! ### operators of any types -/
def CMulA (i j : Int) : Prop := CMul i j ∨ CMulW i j
theorem CMulA.ok {i j : Int} (h : CMulA i j) : IntMulOk i j := by
  rcases h with h | h
  · exact h.ok
  · exact h.ok
theorem op_mulA : OpR X (binaryOp .Mult) (rI CMulA fun i j => .int (i * j)) := opI fun _ _ _ _ _ _ _ hc q => mul_int q hc.ok
def rAddS : R2 := fun x y H Q => ∃ i j, x = .str i ∧ y = .str j ∧ i.length + j.length ≤ sizeLine ∧ Q (.str (i ++ j)) H
def rAddA (K : PySem.W.Frag) : R2 := fun x y H Q => ((rI0 fun i j => .int (i + j)) x y H Q ∨ rCatA K x y H Q) ∨ (rCatL K x y H Q ∨ rAddS x y H Q)
theorem op_addA : OpR X (binaryOp .Add) (rAddA X.K) := OpR.or (OpR.or op_add op_catA) (OpR.or op_catL op_add_str)
def rMulA (K : PySem.W.Frag) : R2 := fun x y H Q => (rI CMulA fun i j => .int (i * j)) x y H Q ∨ rRep x y H Q
theorem op_mulAny : OpR X (binaryOp .Mult) (rMulA X.K) := OpR.or op_mulA op_rep
def CDivA (_ j : Int) : Prop := j ≠ 0 ∧ j.natAbs.log2 < 9000
theorem cdiv_of {i j : Int} (h0 : j ≠ 0) {b : Nat} (hb : j.natAbs < 2 ^ b) (h1 : 0 < b) (h9 : b ≤ 9000) : CDivA i j := ⟨h0, Nat.lt_of_lt_of_le (PySem.Flt.log2_lt_of h1 hb) h9⟩
def rDivA : R2 := rI CDivA fun i j => .int (i.fdiv j)
def rModA : R2 := rI (fun _ j => j ≠ 0) fun i j => .int (i.fmod j)
def rPowA : R2 := rI CPow fun i j => .int (i ^ j.toNat)
def rSubA : R2 := rI0 fun i j => .int (i - j)
theorem op_divA : OpR X (binaryOp .FloorDiv) rDivA := opI fun i j _ _ _ _ _ hc q => floordiv_int hc.1 q (.inl (PyProof.noPylong_of_log2 hc.2))
theorem op_modA : OpR X (binaryOp .Mod) rModA := op_modN
theorem op_powA : OpR X (binaryOp .Pow) rPowA := op_pow
theorem op_subA : OpR X (binaryOp .Sub) rSubA := op_sub
def rLtA : R2 := rI0 fun i j => .bl (decide (i < j))
def rLeA : R2 := rI0 fun i j => .bl (decide (i ≤ j))
def rGtA : R2 := rI0 fun i j => .bl (decide (j < i))
def rGeA : R2 := rI0 fun i j => .bl (decide (j ≤ i))
theorem op_ltA : OpR X (compareOp .Lt) rLtA := op_lt
theorem op_leA : OpR X (compareOp .LtE) rLeA := op_le
theorem op_gtA : OpR X (compareOp .Gt) rGtA := op_gt
theorem op_geA : OpR X (compareOp .GtE) rGeA := op_ge
def rIsNA : R2 := fun x y H Q => y = .non ∧ Q (.bl (decide (x = .non))) H
def rIsNotA : R2 := fun x y H Q => y = .non ∧ Q (.bl (!decide (x = .non))) H
theorem op_isNA : OpR X (compareOp .Is) rIsNA := op_isN
theorem op_isNotA : OpR X (compareOp .IsNot) rIsNotA := op_notN
theorem sl_any : SlR X (fun x lo hi H Q => rSlL X.K x lo hi H Q ∨ rSlA X.K x lo hi H Q) := SlR.or sl_list sl_tupA
def rSl (K : PySem.W.Frag) : V → Option Int → Option Int → Hp → VK → Prop := fun x lo hi H Q => rSlL K x lo hi H Q ∨ rSlA K x lo hi H Q
theorem sl_anyA : SlR X (rSl X.K) := sl_any
def rLen (K : PySem.W.Frag) : List V → Hp → VK → Prop := fun xs H Q => (∃ p ys, xs = [.ref p] ∧ (SqL K H p ys ∨ SqT K H p ys) ∧ Q (.int ys.length) H) ∨ (∃ z, xs = [.str z] ∧ z.length ≤ sizeLine ∧ Q (.int z.length) H)
theorem call_lenA : CallR X (.builtin "len") (rLen X.K) := CallR.or call_len_seq call_len_str
def rListOf (K : PySem.W.Frag) : List V → Hp → VK → Prop := fun xs H Q => ∃ p ys, xs = [.ref p] ∧ (SqL K H p ys ∨ SqT K H p ys) ∧ ∀ l, H l = none → Q (.ref l) (upd H l (.lst ys))
theorem call_listA : CallR X (.type "list") (rListOf X.K) := call_list_of
def rTupleOf (K : PySem.W.Frag) : List V → Hp → VK → Prop := fun xs H Q => ∃ p ys, xs = [.ref p] ∧ ((SqL K H p ys ∧ ∀ l, H l = none → Q (.ref l) (upd H l (.tup ys))) ∨ (SqT K H p ys ∧ Q (.ref p) H))
theorem call_tupleA : CallR X (.type "tuple") (rTupleOf X.K) := call_tuple_of
def rInt : List V → Hp → VK → Prop := fun xs H Q => (∃ i, xs = [.int i] ∧ Q (.int i) H) ∨ ∃ k, xs = [.bl k] ∧ Q (.int (if k then 1 else 0)) H
theorem call_intA : CallR X (.type "int") rInt := call_int1
def rAbs : List V → Hp → VK → Prop := fun xs H Q => ∃ i, xs = [.int i] ∧ Q (.int (if i < 0 then -i else i)) H
theorem call_absA : CallR X (.builtin "abs") rAbs := call_abs
theorem call_maxA (hc : X.calm = true) : CallR X (.builtin "max") rMax2 := call_max2 hc
end

section
variable {K : PySem.W.Frag} {F : Hp} {T T1 T2 T3 : Ty} {i j : Int} {d e : PyData} {ds es : List PyData}
theorem rv_int {r : R2} {z : V} {d : PyData} (hz : ∀ F, Dp K F z d) (h : ∀ H Q, Q z H → r (.int i) (.int j) H Q) : RV r (TD K (.int i)) (TD K (.int j)) F (TD K d) := fun x y F1 H f f1 hx hy Q q => by
  rw [dp_int hx, dp_int hy]
  exact h H Q (q z F1 H (.refl f1) (hz _))
theorem rv_add : RV (rAddA K) (TD K (.int i)) (TD K (.int j)) F (TD K (.int (i + j))) := rv_int (fun _ => .int _) fun H Q q => .inl (.inl ⟨i, j, rfl, rfl, q⟩)
theorem rv_sub : RV rSubA (TD K (.int i)) (TD K (.int j)) F (TD K (.int (i - j))) := rv_int (fun _ => .int _) fun H Q q => ⟨i, j, rfl, rfl, q⟩
theorem rv_mul (h : CMulA i j) : RV (rMulA K) (TD K (.int i)) (TD K (.int j)) F (TD K (.int (i * j))) := rv_int (fun _ => .int _) fun H Q q => .inl ⟨i, j, rfl, rfl, h, q⟩
theorem rv_divW (h : CDivA i j) : RV rDivA (TD K (.int i)) (TD K (.int j)) F (TD K (.int (i.fdiv j))) := rv_int (fun _ => .int _) fun H Q q => ⟨i, j, rfl, rfl, h, q⟩
theorem rv_div (h : j ≠ 0 ∧ j.natAbs < 1073741824) : RV rDivA (TD K (.int i)) (TD K (.int j)) F (TD K (.int (i.fdiv j))) := rv_divW (cdiv_of (b := 30) h.1 (by have := h.2; omega) (by decide) (by decide))
theorem rv_mod (h : j ≠ 0) : RV rModA (TD K (.int i)) (TD K (.int j)) F (TD K (.int (i.fmod j))) := rv_int (fun _ => .int _) fun H Q q => ⟨i, j, rfl, rfl, h, q⟩
theorem rv_pow (h : CPow i j) : RV rPowA (TD K (.int i)) (TD K (.int j)) F (TD K (.int (i ^ j.toNat))) := rv_int (fun _ => .int _) fun H Q q => ⟨i, j, rfl, rfl, h, q⟩
theorem rv_lt : RV rLtA (TD K (.int i)) (TD K (.int j)) F (TD K (.bool (decide (i < j)))) := rv_int (fun _ => .bl _) fun H Q q => ⟨i, j, rfl, rfl, q⟩
theorem rv_le : RV rLeA (TD K (.int i)) (TD K (.int j)) F (TD K (.bool (decide (i ≤ j)))) := rv_int (fun _ => .bl _) fun H Q q => ⟨i, j, rfl, rfl, q⟩
theorem rv_gt : RV rGtA (TD K (.int i)) (TD K (.int j)) F (TD K (.bool (decide (j < i)))) := rv_int (fun _ => .bl _) fun H Q q => ⟨i, j, rfl, rfl, q⟩
theorem rv_ge : RV rGeA (TD K (.int i)) (TD K (.int j)) F (TD K (.bool (decide (j ≤ i)))) := rv_int (fun _ => .bl _) fun H Q q => ⟨i, j, rfl, rfl, q⟩
def isNone : PyData → Bool
  | .none => true
  | _ => false
theorem dp_isNone {H : Hp} {v : V} (h : Dp K H v d) : decide (v = .non) = isNone d := by
  cases h <;> first | rfl | exact decide_eq_false (by intro z; cases z)
theorem rv_isN : RV rIsNA (TD K d) (TD K .none) F (TD K (.bool (isNone d))) := fun x y F1 H f f1 hx hy Q q =>
  ⟨dp_none hy, by rw [dp_isNone hx]; exact q _ F1 H (.refl f1) (.bl _)⟩
theorem rv_isNot : RV rIsNotA (TD K d) (TD K .none) F (TD K (.bool (!isNone d))) := fun x y F1 H f f1 hx hy Q q =>
  ⟨dp_none hy, by rw [dp_isNone hx]; exact q _ F1 H (.refl f1) (.bl _)⟩
/-- the data is of a shape that == takes -/
abbrev Sh (d : PyData) : Prop := SeqAt.shaped d = true
theorem rv_eq (h1 : Sh d) (h2 : Sh e) : RV (rEqD K) (TD K d) (TD K e) F (TD K (.bool (PyData.eqv d e))) := fun x y F1 H f f1 hx hy Q q =>
  ⟨d, e, dp_mono f1 hx, dp_mono f1 hy, h1, h2, q _ F1 H (.refl f1) (.bl _)⟩
theorem rv_ne (h1 : Sh d) (h2 : Sh e) : RV (rNeD K) (TD K d) (TD K e) F (TD K (.bool (!PyData.eqv d e))) := fun x y F1 H f f1 hx hy Q q =>
  ⟨d, e, dp_mono f1 hx, dp_mono f1 hy, h1, h2, q _ F1 H (.refl f1) (.bl _)⟩
theorem rv_catT (hl : ds.length + es.length ≤ 100000) : RV (rAddA K) (TD K (.tuple ds)) (TD K (.tuple es)) F (TD K (.tuple (ds ++ es))) := fun x y F1 H f f1 hx hy Q q => by
  obtain ⟨a, xs, rfl, h1, h2⟩ := dp_tuple hx
  obtain ⟨b, ys, rfl, h3, h4⟩ := dp_tuple hy
  refine .inl (.inr ⟨a, b, xs, ys, rfl, rfl, same_t f1 h1, same_t f1 h3, sz_of (by rw [dpAll_len h2, dpAll_len h4]; exact hl), fun e => ?_, fun _ e => ?_, fun _ _ p hp => ?_⟩)
  · subst e
    cases h2
    exact q _ F1 H (.refl f1) hy
  · subst e
    cases h4
    rw [List.append_nil] at q
    exact q _ F1 H (.refl f1) hx
  · have m := same_new (o := .tup (xs ++ ys)) (fresh_back f1 hp)
    exact q _ _ _ ((Stp.refl f1).alloc hp) (.tup (st_of upd_same) (dpAll_app (dpAll_mono m h2) (dpAll_mono m h4)))
/-- a new list: by an operator, by a call, by a slice -/
def RVN (K : PySem.W.Frag) (r : R2) (T1 T2 : Ty) (F : Hp) (ds : List PyData) : Prop := ∀ x y F1 H, Same F F1 → Same F1 H → T1.p x F1 → T2.p y F1 → ∀ Q : VK, (∀ p xs, H p = none → DpAll K F1 xs ds → Q (.ref p) (upd H p (.lst xs))) → r x y H Q
def RCN (K : PySem.W.Frag) (r : List V → Hp → VK → Prop) (Ts : List Ty) (F : Hp) (ds : List PyData) : Prop := ∀ vs F1 H, Same F F1 → Same F1 H → All2 F1 vs Ts → ∀ Q : VK, (∀ p xs, H p = none → DpAll K F1 xs ds → Q (.ref p) (upd H p (.lst xs))) → r vs H Q
def RSN (K : PySem.W.Frag) (r : V → Option Int → Option Int → Hp → VK → Prop) (T1 : Ty) (lo hi : Option Int) (F : Hp) (ds : List PyData) : Prop := ∀ x F1 H, Same F F1 → Same F1 H → T1.p x F1 → ∀ Q : VK, (∀ p xs, H p = none → DpAll K F1 xs ds → Q (.ref p) (upd H p (.lst xs))) → r x lo hi H Q
variable {σ : L2.St} {ta tb te : TE}
theorem en_op {r : R2} (ha : Ev ta σ F T1) (hb : Ev tb σ F T2) (hr : RVN K r T1 T2 F ds) : EvN K (tOp r ta tb) σ F ds := fun H f Q q =>
  ha H f _ fun x F1 H1 s1 hx => (hb.up s1.ff) H1 s1.fh _ fun y F2 H2 s2 hy =>
    hr x y F2 H2 (s1.ff.trans s2.ff) s2.fh (T1.m s2.ff hx) hy Q fun p xs hp hd => q p xs F2 H2 (s1.trans s2) hp hd
theorem en_cb {r : List V → Hp → VK → Prop} {ta : TA} {Ts : List Ty} (ha : EvA ta σ F Ts) (hr : RCN K r Ts F ds) : EvN K (tCB r ta) σ F ds := fun H f Q q =>
  ha H f _ fun x F1 H1 s1 hx => hr x F1 H1 s1.ff s1.fh hx Q fun p xs hp hd => q p xs F1 H1 s1 hp hd
theorem en_sl {r : V → Option Int → Option Int → Hp → VK → Prop} {tl th : L2.TO} {lo hi : Option Int} (h : Ev te σ F T1) (h1 : EvO tl σ F lo) (h2 : EvO th σ F hi) (hr : RSN K r T1 lo hi F ds) : EvN K (tSl r te tl th) σ F ds := fun H f Q q =>
  h H f _ fun x F1 H1 s1 hx => (h1.up s1.ff) H1 s1.fh _ fun F2 H2 s2 => (h2.up (s1.ff.trans s2.ff)) H2 s2.fh _ fun F3 H3 s3 =>
    hr x F3 H3 ((s1.ff.trans s2.ff).trans s3.ff) s3.fh (T1.m (s2.ff.trans s3.ff) hx) Q fun p xs hp hd => q p xs F3 H3 ((s1.trans s2).trans s3) hp hd
theorem rn_catL (hl : ds.length + es.length ≤ 100000) : RVN K (rAddA K) (TD K (.list ds)) (TD K (.list es)) F (ds ++ es) := fun x y F1 H f f1 hx hy Q q => by
  obtain ⟨a, xs, rfl, h1, h2⟩ := dp_list hx
  obtain ⟨b, ys, rfl, h3, h4⟩ := dp_list hy
  exact .inr (.inl ⟨a, b, xs, ys, rfl, rfl, same_l f1 h1, same_l f1 h3, sz_of (by rw [dpAll_len h2, dpAll_len h4]; exact hl), fun p hp => q p _ hp (dpAll_app h2 h4)⟩)
/-- a list just made, times an int -/
theorem dpAll_rep {H : Hp} {vs : List V} (h : DpAll K H vs ds) : ∀ n : Nat, DpAll K H (List.replicate n vs).flatten (List.replicate n ds).flatten
  | 0 => .nil
  | n + 1 => by
    simp only [List.replicate_succ, List.flatten_cons]
    exact dpAll_app h (dpAll_rep h n)
theorem en_rep {k : Int} (ha : EvN K ta σ F ds) (hb : Ev tb σ F (TD K (.int k))) (hk : -100000 ≤ k ∧ k ≤ 100000) (hl : ds.length * k.toNat ≤ 100000) : EvN K (tOp (rMulA K) ta tb) σ F (List.replicate k.toNat ds).flatten := fun H f Q q =>
  ha H f _ fun p xs F1 H1 s1 hp hd => by
    have s2 := s1.alloc (o := .lst xs) hp
    refine (hb.up s2.ff) _ s2.fh _ fun y F3 H3 s3 hy => ?_
    rw [dp_int hy]
    have e : H3 p = some (.lst xs) := s3.hh p _ upd_same
    refine .inr ⟨p, k, xs, rfl, rfl, e, by omega, by omega, sz_of (by rw [dpAll_len hd]; exact hl), fun r hr => ?_⟩
    exact q r _ F3 H3 (s2.trans s3) hr (dpAll_rep (dpAll_mono ((same_new (fresh_back s1.fh hp)).trans s3.ff) hd) _)
theorem rn_list_l : RCN K (rListOf K) [TD K (.list ds)] F ds := fun vs F1 H f f1 hv Q q => by
  match vs, hv with
  | [v], hv =>
    obtain ⟨a, xs, rfl, h1, h2⟩ := dp_list hv.1
    exact ⟨a, xs, rfl, .inl (same_l f1 h1), fun l hl => q l xs hl h2⟩
theorem rn_list_t : RCN K (rListOf K) [TD K (.tuple ds)] F ds := fun vs F1 H f f1 hv Q q => by
  match vs, hv with
  | [v], hv =>
    obtain ⟨a, xs, rfl, h1, h2⟩ := dp_tuple hv.1
    exact ⟨a, xs, rfl, .inr (same_t f1 h1), fun l hl => q l xs hl h2⟩
theorem rc_tuple_l : RC (rTupleOf K) [TD K (.list ds)] F (TD K (.tuple ds)) := fun vs F1 H f f1 hv Q q => by
  match vs, hv with
  | [v], hv =>
    obtain ⟨a, xs, rfl, h1, h2⟩ := dp_list hv.1
    exact ⟨a, xs, rfl, .inl ⟨same_l f1 h1, fun l hl => q _ _ _ ((Stp.refl f1).alloc hl) (.tup (st_of upd_same) (dpAll_mono (same_new (fresh_back f1 hl)) h2))⟩⟩
theorem rc_tuple_t : RC (rTupleOf K) [TD K (.tuple ds)] F (TD K (.tuple ds)) := fun vs F1 H f f1 hv Q q => by
  match vs, hv with
  | [v], hv =>
    obtain ⟨a, xs, rfl, h1, h2⟩ := dp_tuple hv.1
    exact ⟨a, xs, rfl, .inr ⟨same_t f1 h1, q _ _ _ (Stp.refl f1) hv.1⟩⟩
theorem rc_len_l : RC (rLen K) [TD K (.list ds)] F (TD K (.int ds.length)) := fun vs F1 H f f1 hv Q q => by
  match vs, hv with
  | [v], hv =>
    obtain ⟨a, xs, rfl, h1, h2⟩ := dp_list hv.1
    exact .inl ⟨a, xs, rfl, .inl (same_l f1 h1), by rw [dpAll_len h2]; exact q _ _ _ (Stp.refl f1) (.int _)⟩
theorem rc_len_t : RC (rLen K) [TD K (.tuple ds)] F (TD K (.int ds.length)) := fun vs F1 H f f1 hv Q q => by
  match vs, hv with
  | [v], hv =>
    obtain ⟨a, xs, rfl, h1, h2⟩ := dp_tuple hv.1
    exact .inl ⟨a, xs, rfl, .inr (same_t f1 h1), by rw [dpAll_len h2]; exact q _ _ _ (Stp.refl f1) (.int _)⟩
theorem rc_len_s {z : Str} (hz : z.length ≤ 100000) : RC (rLen K) [TD K (.str z)] F (TD K (.int z.length)) := fun vs F1 H f f1 hv Q q => by
  match vs, hv with
  | [v], hv => exact .inr ⟨z, by rw [dp_str hv.1], sz_of hz, q _ _ _ (Stp.refl f1) (.int _)⟩
theorem rc_int : RC rInt [TD K (.int i)] F (TD K (.int i)) := fun vs F1 H f f1 hv Q q => by
  match vs, hv with
  | [v], hv => exact .inl ⟨i, by rw [dp_int hv.1], q _ _ _ (Stp.refl f1) (.int _)⟩
theorem rc_intb {b : Bool} : RC rInt [TD K (.bool b)] F (TD K (.int (if b then 1 else 0))) := fun vs F1 H f f1 hv Q q => by
  match vs, hv with
  | [v], hv => exact .inr ⟨b, by rw [dp_bool hv.1], q _ _ _ (Stp.refl f1) (.int _)⟩
theorem rc_abs : RC rAbs [TD K (.int i)] F (TD K (.int (if i < 0 then -i else i))) := fun vs F1 H f f1 hv Q q => by
  match vs, hv with
  | [v], hv => exact ⟨i, by rw [dp_int hv.1], q _ _ _ (Stp.refl f1) (.int _)⟩
theorem rc_max : RC rMax2 [TD K (.int i), TD K (.int j)] F (TD K (.int (if j > i then j else i))) := fun vs F1 H f f1 hv Q q => by
  match vs, hv with
  | [v, w], hv => exact ⟨i, j, by rw [dp_int hv.1, dp_int hv.2.1], q _ _ _ (Stp.refl f1) (.int _)⟩
theorem rc_all {bs : List Bool} : RC (rAll K) [TD K (.list (bs.map .bool))] F (TD K (.bool (bs.all id))) := fun vs F1 H f f1 hv Q q => by
  match vs, hv with
  | [v], hv =>
    obtain ⟨a, xs, rfl, h1, h2⟩ := dp_list hv.1
    refine ⟨a, bs, rfl, ?_, q _ _ _ (Stp.refl f1) (.bl _)⟩
    rw [← dpAll_bools' h2]
    exact same_l f1 h1
theorem rc_sum {ns : List Int} : RC (rSum K) [TD K (.list (ns.map .int))] F (TD K (.int ns.sum)) := fun vs F1 H f f1 hv Q q => by
  match vs, hv with
  | [v], hv =>
    obtain ⟨a, xs, rfl, h1, h2⟩ := dp_list hv.1
    refine ⟨a, ns, rfl, ?_, q _ _ _ (Stp.refl f1) (.int _)⟩
    rw [← dpAll_ints' h2]
    exact same_l f1 h1
/-- an item -/
theorem atI_map {xs : List V} (h : DpAll K F xs ds) {i : Int} (e : atI ds i = some d) : ∃ v, atI xs i = some v ∧ Dp K F v d := by
  unfold atI at e ⊢
  rw [dpAll_len h]
  cases z : ixN ds.length i with
  | none => rw [z] at e; cases e
  | some k =>
    rw [z] at e
    obtain ⟨v, h1, h2⟩ := dpAll_get h (i := k) (d := d) e
    exact ⟨v, h1, h2⟩
theorem rv_ixL (e : atI ds i = some d) : RV (rIx K) (TD K (.list ds)) (TD K (.int i)) F (TD K d) := fun x y F1 H f f1 hx hy Q q => by
  obtain ⟨a, xs, rfl, h1, h2⟩ := dp_list hx
  obtain ⟨v, h3, h4⟩ := atI_map h2 e
  rw [dp_int hy]
  exact .inl ⟨a, xs, i, v, rfl, rfl, same_l f1 h1, h3, q v F1 H (.refl f1) h4⟩
theorem rv_ixT (e : atI ds i = some d) : RV (rIx K) (TD K (.tuple ds)) (TD K (.int i)) F (TD K d) := fun x y F1 H f f1 hx hy Q q => by
  obtain ⟨a, xs, rfl, h1, h2⟩ := dp_tuple hx
  obtain ⟨v, h3, h4⟩ := atI_map h2 e
  rw [dp_int hy]
  exact .inr (.inl ⟨a, xs, i, v, rfl, rfl, same_t f1 h1, h3, q v F1 H (.refl f1) h4⟩)
/-- slices -/
def cutD (xs : List PyData) (lo hi : Option Int) : List PyData := (xs.drop (HT.sIx xs.length 0 lo)).take (HT.sIx xs.length xs.length hi - HT.sIx xs.length 0 lo)
theorem dpAll_cut {H : Hp} {xs : List V} {lo hi : Option Int} (h : DpAll K H xs ds) : DpAll K H (cutV xs lo hi) (cutD ds lo hi) := by
  unfold cutV cutD
  rw [dpAll_len h]
  exact dpAll_take (dpAll_drop h)
theorem rn_slL {lo hi : Option Int} : RSN K (rSl K) (TD K (.list ds)) lo hi F (cutD ds lo hi) := fun x F1 H f f1 hx Q q => by
  obtain ⟨a, xs, rfl, h1, h2⟩ := dp_list hx
  exact .inl ⟨a, xs, rfl, same_l f1 h1, fun p hp => q p _ hp (dpAll_cut h2)⟩
end
end DL

set_option Elab.async false
set_option linter.all false
set_option maxRecDepth 100000
set_option maxHeartbeats 1200000
/-! enumerate(tuple), as enumerate(list) -/
namespace DL
open Evl (sq_of st_of sz_of sz_lt rMax2 ixN_nat)
open L2 PySem PySem.Spec PyProof.Rows
open Sem (wp)
open AutoSeq1 (wpAny_loadPart') -- own reading
abbrev enumO (a : Addr) : Obj := { cls := .type "enumerate", data := .fields #[.none, .bool false, .ref a, rawInt 0, .none, .none] }
theorem meets_enumerate_newT (l : Addr) (all0 : Array Value) (n : Nat) (dc0 : Option Addr) (sl : Array (Option Value)) :
    Meets (Builtin.«enumerate.__new__» ⟨[.type "enumerate", .ref l], []⟩) (fun _ R s => s.heap.get? l = some { cls := .type "tuple", dict := dc0, data := .seq all0 n, slots := sl } ∧
      R (.ok (.ret (.ref (s.heap.push { cls := .type "tuple_iterator", data := .fields #[.ref l, .int 0 0] }).objs.size)))
        { s with heap := (s.heap.push { cls := .type "tuple_iterator", data := .fields #[.ref l, .int 0 0] }).push (enumO s.heap.objs.size) }) :=
  .of_wp fun pg w Ar R s h => by
    obtain ⟨h0, g, d, k0, o0⟩ := s; obtain ⟨kl, h⟩ := h
    have sb0 := sub_enumerate
    have isT : Heap.IsTuple (Shared.heap ⟨h0, g, d, k0, o0⟩) l all0 := ⟨_, kl, rfl, n, rfl⟩
    wp_walk using wpAny_loadPart' kl
    refine wpAny_stack_any fun sn => wpAny_pure ?_
    split
    · rename_i c _ _ _ _ _
      cases hce : (c == Value.type "enumerate")
      · wp_walk using wpAny_loadPart' kl, wpAny_pyIter_tuple isT
        exact ⟨_, rfl, h⟩
      · wp_walk using wpAny_loadPart' kl, wpAny_pyIter_tuple isT
        exact ⟨_, rfl, h⟩
    · wp_walk using wpAny_loadPart' kl, wpAny_pyIter_tuple isT
      exact ⟨_, rfl, h⟩
section
variable {pg : Program} {w : World} {Ar : Around} {Ex : Value → Shared → Prop} {s : Shared}
theorem call_enumerate_tuple {l : Addr} {all0 : Array Value} {Q : Value → Shared → Prop} (isT : s.heap.IsTuple l all0)
    (h : ∀ g', IsEnum g' (s.heap.objs.size + 1) s.heap.objs.size 0 .none → g'.IsTupleIter s.heap.objs.size l 0 → g'.objs.size = s.heap.objs.size + 2 →
      (∀ b o, s.heap.get? b = some o → g'.get? b = some o) → Q (.ref (s.heap.objs.size + 1)) { s with heap := g' }) :
    wpAny (model pg w) Ar (call (.type "enumerate") [.ref l]) Q Ex s := by
  obtain ⟨⟨c, dc0, dt, sl⟩, kl, kc, n, kd⟩ := isT
  replace kc : c = .type "tuple" := kc
  replace kd : dt = .seq all0 n := kd
  subst kc kd
  refine callType_new F.called_enumerate (by decide) (F.typeCall_enumerate_1 _) (F.newCall_enumerate_1 _) (fun ob => F.args_object_init_2 ob _) F.entry_enumerate_new
    (meets_enumerate_newT l all0 n dc0 sl) ⟨kl, ?_⟩
  have sz0 : (s.heap.push { cls := .type "tuple_iterator", data := .fields #[.ref l, .int 0 0] }).objs.size = s.heap.objs.size + 1 := Heap.size_push ..
  show _ ∧ _
  rw [sz0]
  have ke : IsEnum ((s.heap.push { cls := .type "tuple_iterator", data := .fields #[.ref l, .int 0 0] }).push
      (enumO s.heap.objs.size)) (s.heap.objs.size + 1) s.heap.objs.size 0 .none := by
    have := Heap.get?_push_size (o := enumO s.heap.objs.size) (s.heap.push { cls := .type "tuple_iterator", data := .fields #[.ref l, .int 0 0] })
      rfl
    rw [sz0] at this; exact this
  refine ⟨⟨_, ke, rfl⟩, h _ ke ⟨_, Heap.get?_push_of_some _ (Heap.get?_push_size _ rfl), rfl, rfl⟩ (by rw [Heap.size_push, sz0]) fun b o x => Heap.get?_push_of_some _ (Heap.get?_push_of_some _ x)⟩
end
theorem wpAny_pyNext_enum_endT {pg : Program} {w : World} {Ar : Around} {Ex : Value → Shared → Prop} {s : Shared} {e it l : Addr} {i : Nat} {all0 : Array Value} {was : Value} {Q : Option Value → Shared → Prop} (hh : Ar.handled = none)
    (ke : IsEnum s.heap e it i was) (kit : s.heap.IsTupleIter it l i) (kl : s.heap.IsTuple l all0) (kx : all0[i]? = none)
    (kQ : ∀ g', Heap.ExtBut it s.heap g' → Q none { s with heap := g' }) : wpAny (model pg w) Ar (pyNext (.ref e)) Q Ex s := by
  have kT : s.TypeIs (.ref e) "enumerate" := ⟨_, ke, rfl⟩
  unfold pyNext
  refine wpAny_bind (wpAny_attempt (wpAny_callSpecial?_slot (name := Str.ofString "__next__") kT F.slot_enumerate_next
    (wpAny_call_entry F.slot_enumerate_next kT F.entry_enumerate_next ?_ (F.args_enumerate_next_1 _))))
  change wpAny _ _ (field (.ref e) 2 >>= _) _ _ _
  refine wpAny_bind (wpAny_field ke rfl (x := .ref it) rfl ?_)
  refine wpAny_bind (wpAny_nextOf_tuple_end hh kit kl kx fun g' x he' hx' => ?_)
  obtain ⟨o, ho, kc⟩ := hx'
  refine wpAny_bind (wpAny_isInstance (T := "StopIteration") (b := true) ⟨o, ho, kc⟩ isSubtype_stop ?_)
  exact wpAny_pure (kQ _ he')
def IteT (K : PySem.W.Frag) (a : Addr) : It :=
  ⟨fun i H => ∃ (xs : List V) (x : V), SqT K H a xs ∧ xs[i]? = some x, fun i H v H' => ∃ T x, v = .ref T ∧ H T = none ∧ H' = upd H T (.tup [.int (i : Nat), x]) ∧ ∀ xs, SqT K H a xs → xs[i]? = some x, fun i H => ∃ xs : List V, SqT K H a xs ∧ xs.length ≤ i⟩
theorem turn_enumT {P : Program} {w : World} {K : PySem.W.Frag} {elts : List Expr} {kk : Nat} {tpos : Pos} (a e it : Addr) :
    Turn P w K (.Tuple elts kk tpos) (IteT K a) [e, it] e (fun i h => (∃ was, IsEnum h e it ((i : Nat) : Int) was) ∧ h.IsTupleIter it a i ∧ e ≠ it ∧ a ≠ it ∧ a ≠ e) where
  mem := by simp
  obj := fun i h sn b kb => by
    obtain ⟨⟨was, ke⟩, ⟨o, ho, kc, kd⟩, _⟩ := sn
    have eb2 : b = e ∨ b = it := by simpa using kb
    rcases eb2 with c | c
    · rw [c]; exact ⟨_, ke, fun v q => nomatch q⟩
    · rw [c]; exact ⟨o, ho, fun v q => by rw [kd] at q; cases q⟩
  keep := fun i h g' sn k => let ⟨⟨was, ke⟩, hi, n1⟩ := sn; ⟨⟨was, k e (by simp) _ ke⟩, hi.at fun o q => k it (by simp) o q, n1⟩
  item := by
    intro X aP aw aK kc i pn s σ H Ex I fp sn kg
    subst aP aw aK
    obtain ⟨⟨was, ke⟩, kit, n1, n2, n3⟩ := sn
    obtain ⟨xs, x, kq, kx⟩ := kg
    obtain ⟨ys, ry, p, sz0⟩ := I.tuple kq
    obtain ⟨u, ku, kr⟩ := ry.get kx
    have le1 : e < s.heap.objs.size := Heap.lt_size ke
    have le2 : it < s.heap.objs.size := by obtain ⟨_, q, _⟩ := kit; exact Heap.lt_size q
    have Dr := Draws.tuple (prog := X.prog) (w := X.w) (A := X.A.in1) (I.ok.hd kc) it a n2 ys.toArray
    have hlt : i < ys.toArray.size := by
      rw [List.size_toArray]
      exact (List.getElem?_eq_some_iff.mp ku).1
    refine wpAny_pyNext_enum_itemD Dr ke ⟨kit, show s.heap.IsTuple a ys.toArray from p⟩ hlt n1 (by simp [n1, Ne.symm n3]) fun u' g' k0 hP' ho hst' kT ksz kk2 => ?_
    have hu' : u' = u := by
      have p1 : ys.toArray[i]? = some u' := hP'
      have q2 : ys.toArray[i]? = some u := by simpa using ku
      rw [p1] at q2
      exact Option.some.inj q2
    subst hu'
    have hit' := hst'.1
    refine ⟨_, rfl, wpAny_letOwnedTupleGo_enum (s := { s with heap := g', toks := k0 + 1 }) ho fun h'' he' sb => ?_⟩
    have hT2 : h''.get? s.heap.objs.size = some { cls := .type "tuple", data := .seq #[.int i k0, u'] } := (sb.2 _ (Nat.ne_of_gt le1)).trans kT
    have made : ObjOk X.prog X.w (upd H s.heap.objs.size (.tup [.int (i : Nat), x])) h'' s.heap.objs.size (.tup [.int (i : Nat), x]) :=
      ⟨by show 2 ≤ sizeLine; decide, [.int i k0, u'], .cons ⟨_, rfl⟩ (.cons kr .nil), ⟨_, hT2, rfl, _, rfl⟩⟩
    have J1 : Inv X pn σ (upd H s.heap.objs.size (.tup [.int (i : Nat), x])) { s with heap := h'', toks := k0 + 1 } :=
      I.turnedNew (ch := [e, it]) (fun b ob kb q => (sb.2 b (fun c => kb (by simp [c]))).trans (kk2 b ob (fun c => kb (by simp [c])) (fun c => kb (by simp [c])) q)) fp (Nat.le_refl _) made
    refine ⟨.ref s.heap.objs.size, _, J1, rfl, ⟨_, x, rfl, I.hok.fresh (Nat.le_refl _), rfl, fun ys hy => by rw [I.tuple_inj hy kq]; exact kx⟩, ⟨⟨u', ?_⟩, hit'.at fun o q => (sb.2 it (Ne.symm n1)).trans q, n1, n2, n3⟩, fun b kb => ?_⟩
    · have ei : ((i + 1 : Nat) : Int) = (i : Int) + 1 := by omega
      rw [ei]; exact he'
    · have lb : b < s.heap.objs.size := by
        have eb2 : b = e ∨ b = it := by simpa using kb
        rcases eb2 with c | c
        · rw [c]; exact le1
        · rw [c]; exact le2
      rw [upd_ne (Nat.ne_of_lt lb)]
      exact (fp b kb).1
  done := by
    intro X aP aw aK kc i pn s σ H Ex I fp sn kg
    subst aP aw aK
    obtain ⟨⟨was, ke⟩, kit, n1, n2, n3⟩ := sn
    obtain ⟨xs, kq, kx⟩ := kg
    obtain ⟨ys, ry, p, sz0⟩ := I.tuple kq
    obtain ⟨w0, w1, w2, w3, w4, w5⟩ := fp it (by simp)
    have kl := ry.length
    have Dr := Draws.tuple (prog := X.prog) (w := X.w) (A := X.A.in1) (I.ok.hd kc) it a n2 ys.toArray
    -- the end: i is the length
    refine wpAny_pyNext_enum_endT (I.ok.hd kc) ke kit (show s.heap.IsTuple a ys.toArray from p) (by simp; omega) fun g' eb => ⟨rfl, I.turned (t' := s.toks) (fun b o kb q => eb b o kb q) w0 w1 w3 w4 w5⟩
  self := fun Ar i s Q Ex sn h => let ⟨⟨_, ke⟩, _⟩ := sn; wpAny_pyIter_enum ke h
def iEnumT (K : PySem.W.Frag) (ta : TA) : TI := fun σ H R => ta σ H fun vs G1 => ∃ a xs, vs = [.ref a] ∧ SqT K G1 a xs ∧ R (IteT K a) G1
/-- one reading of a walk, or another -/
theorem piOr {X : Cx} {tg l : Expr} {w1 w2 : TI} (a : PI X tg l w1) (b : PI X tg l w2) : PI X tg l (fun σ H R => w1 σ H R ∨ w2 σ H R) :=
  ⟨fun pn s σ H R I h => h.elim (a.run pn s σ H R I) (b.run pn s σ H R I)⟩
theorem pi_enumT {X : Cx} {e : Expr} {ta : TA} {p pos tpos : Pos} {elts : List Expr} {kk : Nat} (kg : Gl X "enumerate") (km : X.mg "enumerate" = none) (ka : PA X [e] ta) (ks : starEach [e] X.env = [(false, eval e X.env)] := by rfl) :
    PI X (.Tuple elts kk tpos) (.Call (.Name "enumerate" p) [e] [] pos) (iEnumT X.K ta) := ⟨fun pn s σ H R I h => by
  refine Call_ (ld_blt I kg km boot_enumerate (PyProof.Rows.callWith_type1 (thn (ka.run pos pn s σ H _ I h) ?_) ks rfl))
  rintro us t1 ⟨vs, G1, J1, rr, a, xs, rfl, kq, q⟩
  cases rr with
  | cons r rs =>
    cases rs
    cases r
    obtain ⟨ys, ry, isT, _⟩ := J1.tuple kq
    have la : a < t1.heap.objs.size := let ⟨_, e, _⟩ := isT; Heap.lt_size e
    refine call_enumerate_tuple (show t1.heap.IsTuple a ys.toArray from isT) fun g ke kit _ kk2 => wpAny_pyIter_enum ke ?_
    exact ⟨t1.heap.objs.size + 1, [t1.heap.objs.size + 1, t1.heap.objs.size], _, _, G1, rfl, J1.kept (t' := t1.toks) kk2, turn_enumT a _ _,
      ⟨⟨.none, ke⟩, kit, Nat.succ_ne_self _, Nat.ne_of_lt la, Nat.ne_of_lt (Nat.lt_succ_of_lt la)⟩, fun b kb =>
        have le : t1.heap.objs.size ≤ b := by
          rcases List.mem_cons.mp kb with c | c
          · rw [c]; exact Nat.le_succ _
          · exact Nat.le_of_eq (List.mem_singleton.mp c).symm
        J1.fpOk le (J1.hok.fresh le), q⟩⟩
/-- enumerate of a list, of a tuple -/
def iEnumA (K : PySem.W.Frag) (ta : TA) : TI := fun σ H R => iEnum K ta σ H R ∨ iEnumT K ta σ H R
theorem pi_enumA {X : Cx} {e : Expr} {ta : TA} {p pos tpos : Pos} {elts : List Expr} {kk : Nat} (kg : Gl X "enumerate") (km : X.mg "enumerate" = none) (ka : PA X [e] ta) (ks : starEach [e] X.env = [(false, eval e X.env)] := by rfl) :
    PI X (.Tuple elts kk tpos) (.Call (.Name "enumerate" p) [e] [] pos) (iEnumA X.K ta) := piOr (pi_enum kg km ka ks) (pi_enumT kg km ka ks)
end DL

set_option Elab.async false
set_option linter.all false
set_option maxRecDepth 100000
set_option maxHeartbeats 1200000
/-! statements, loops, calls, over the frozen heap and the lists that a def owns -/
namespace DL
open Evl (sq_of st_of sz_of sz_lt rMax2 ixN_nat)
open L2 PySem PySem.Spec PyProof.Rows

/-- from the entry (F0, H0): the frozen heap grew, the heap is as it was but at M -/
structure Gr (M : List Addr) (F0 H0 F H : Hp) : Prop where
  ff : Same F0 F
  fh : Same F H
  hh : ∀ a o, a ∉ M → H0 a = some o → H a = some o
  nw : ∀ p, F0 p = none → H0 p ≠ none → F p = none
  al : ∀ p, H0 p ≠ none → H p ≠ none
theorem Gr.refl {M : List Addr} {F H : Hp} (e : Same F H) : Gr M F H F H := ⟨.refl _, e, fun _ _ _ h => h, fun _ h _ => h, fun _ h => h⟩
theorem Gr.step {M : List Addr} {F0 H0 F H F2 H2 : Hp} (g : Gr M F0 H0 F H) (s : Stp F H F2 H2) : Gr M F0 H0 F2 H2 :=
  ⟨g.ff.trans s.ff, s.fh, fun a o h h' => s.hh a o (g.hh a o h h'), fun p h h' => s.nw p (g.nw p h h') (g.al p h'), fun p h => some_of_same s.hh (g.al p h)⟩
theorem Gr.stp {F0 H0 F H : Hp} (g : Gr [] F0 H0 F H) : Stp F0 H0 F H := ⟨fun a o h => g.hh a o (List.not_mem_nil) h, g.ff, g.fh, g.nw⟩
/-- a call that changes at N (within M, or new since the entry) -/
theorem Gr.trans {M N : List Addr} {F0 H0 F H F2 H2 : Hp} (g : Gr M F0 H0 F H) (s : Gr N F H F2 H2) (hn : ∀ p ∈ N, p ∈ M ∨ H0 p = none) : Gr M F0 H0 F2 H2 :=
  ⟨g.ff.trans s.ff, s.fh, fun a o h h' => s.hh a o (fun hm => by
      rcases hn a hm with q | q
      · exact h q
      · rw [q] at h'; cases h') (g.hh a o h h'), fun p h h' => s.nw p (g.nw p h h') (g.al p h'), fun p h => s.al p (g.al p h)⟩

/-- what is true of the frozen heap, and stays so -/
structure Fact where
  p : Hp → Prop
  m : ∀ {F F' : Hp}, Same F F' → p F → p F'
def Fact.mark (Fw : Hp) : Fact := ⟨fun F => Same Fw F, fun e h => h.trans e⟩
abbrev Ow := List (Addr × HO)
structure S (M : List Addr) (W : List Fact) (F0 H0 F H : Hp) (σ : L2.St) (ss : List Sl) (O : Ow) : Prop where
  gr : Gr M F0 H0 F H
  env : Env F σ ss
  own : ∀ q ∈ O, F q.1 = none ∧ H q.1 = some q.2 ∧ (q.1 ∈ M ∨ H0 q.1 = none)
  nd : (O.map (·.1)).Nodup
  mrk : ∀ m ∈ W, m.p F
section
variable {K : PySem.W.Frag} {M N : List Addr} {W : List Fact} {F0 H0 F H F2 H2 F' : Hp} {σ : L2.St} {ss : List Sl} {O : Ow} {T T1 : Ty} {te ta tb : TE} {D : Ends} {ds es : List PyData}
theorem S.fh (s : S M W F0 H0 F H σ ss O) : Same F H := s.gr.fh
theorem S.step (s : S M W F0 H0 F H σ ss O) (st : Stp F H F2 H2) : S M W F0 H0 F2 H2 σ ss O where
  gr := s.gr.step st
  env := s.env.mono st.ff
  own := fun q hq => by
    obtain ⟨h1, h2, h3⟩ := s.own q hq
    exact ⟨st.nw _ h1 (by rw [h2]; exact fun z => by cases z), st.hh _ _ h2, h3⟩
  nd := s.nd
  mrk := fun m hm => m.m st.ff (s.mrk m hm)
theorem S.set {v : V} {i : Nat} (s : S M W F0 H0 F H σ ss O) (h : T.p v F) : S M W F0 H0 F H (σ.set i (some v)) (ss.set i (some T)) O := ⟨s.gr, Env.set h s.env, s.own, s.nd, s.mrk⟩
theorem S.wipe (s : S M W F0 H0 F H σ ss O) (vs : List Nat) : S M W F0 H0 F H (wipe σ vs) (wipeS ss vs) O := ⟨s.gr, s.env.wipe vs, s.own, s.nd, s.mrk⟩
/-- only the heap grows -/
theorem S.heap (s : S M W F0 H0 F H σ ss O) (h : Same H H2) : S M W F0 H0 F H2 σ ss O :=
  s.step ⟨h, .refl _, s.fh.trans h, fun _ h _ => h⟩
theorem S.envH (s : S M W F0 H0 F H σ ss O) : Env H σ ss := s.env.mono s.fh
theorem Env.re {F : Hp} {σ : L2.St} {ss : List Sl} {i : Nat} {T T' : Ty} (E : Env F σ ss) (h : ss[i]? = some (some T)) (k : ∀ v, T.p v F → T'.p v F) : Env F σ (ss.set i (some T')) := by
  obtain ⟨v, h1, h2⟩ := E.get h
  have := Env.set (i := i) (k v h2) E
  have e : σ.set i (some v) = σ := by
    obtain ⟨hi, h3⟩ := List.getElem?_eq_some_iff.mp h1
    rw [← h3]
    exact List.set_getElem_self hi
  rw [e] at this
  exact this
theorem S.re {i : Nat} (s : S M W F0 H0 F H σ ss O) (h : ss[i]? = some (some T)) (k : ∀ v, T.p v F → T1.p v F) : S M W F0 H0 F H σ (ss.set i (some T1)) O := ⟨s.gr, s.env.re h k, s.own, s.nd, s.mrk⟩
/-- an owned list, read where it stands -/
theorem S.mem {k : Nat} {p : Addr} {o : HO} (s : S M W F0 H0 F H σ ss O) (h : O[k]? = some (p, o)) : F p = none ∧ H p = some o ∧ (p ∈ M ∨ H0 p = none) :=
  s.own (p, o) (List.mem_of_getElem? h)
theorem S.look {i k : Nat} {p : Addr} {xs : List V} {ss' : List Sl} (s : S M W F0 H0 F H σ ss O) (E : Env H σ ss') (h : ss'[i]? = some (some (TX (.ref p)))) (ho : O[k]? = some (p, .lst xs)) (hd : DpAll K H xs ds) : Env H σ (ss'.set i (some (TD K (.list ds)))) :=
  E.re h fun v e => by
    have e' : v = .ref p := e
    subst e'
    exact .lst (sq_of (s.mem ho).2.1) hd
theorem S.lookI {i k : Nat} {p : Addr} {ns : List Int} {ss' : List Sl} (s : S M W F0 H0 F H σ ss O) (E : Env H σ ss') (h : ss'[i]? = some (some (TX (.ref p)))) (ho : O[k]? = some (p, .lst (ns.map V.int))) : Env H σ (ss'.set i (some (TD K (lstI ns)))) :=
  s.look E h ho (dpAll_ints ns)
theorem nodup_idx {O : Ow} {k : Nat} {p : Addr} {o : HO} (nd : (O.map (·.1)).Nodup) (h : O[k]? = some (p, o)) {j : Nat} {q : Addr × HO} (hj : O[j]? = some q) (hk : j ≠ k) : q.1 ≠ p := by
  intro e
  have h3 : (O.map (·.1))[j]? = some p := by rw [List.getElem?_map, hj]; exact congrArg some e
  have h4 : (O.map (·.1))[k]? = some p := by rw [List.getElem?_map, h]; rfl
  obtain ⟨h5, _⟩ := List.getElem?_eq_some_iff.mp h3
  exact hk ((List.getElem?_inj h5 nd).mp (h3.trans h4.symm))
theorem S.mut {k : Nat} {p : Addr} {o o' : HO} (s : S M W F0 H0 F H σ ss O) (h : O[k]? = some (p, o)) : S M W F0 H0 F (upd H p o') σ ss (O.set k (p, o')) where
  gr := by
    obtain ⟨h1, h2, h3⟩ := s.mem h
    refine ⟨s.gr.ff, same_upd_out s.fh h1, fun a u hm e => ?_, s.gr.nw, fun q hq => ?_⟩
    · rw [upd_ne]
      · exact s.gr.hh a u hm e
      · intro z
        subst z
        rcases h3 with h3 | h3
        · exact hm h3
        · rw [h3] at e; cases e
    · by_cases z : q = p
      · subst z; rw [upd_same]; exact fun z => by cases z
      · rw [upd_ne z]; exact s.gr.al q hq
  env := s.env
  own := fun q hq => by
    obtain ⟨j, hj⟩ := List.getElem?_of_mem hq
    rw [List.getElem?_set] at hj
    obtain ⟨h1, h2, h3⟩ := s.mem h
    split at hj
    · split at hj
      · cases hj
        exact ⟨h1, upd_same, h3⟩
      · cases hj
    · rename_i hne
      have hn := nodup_idx s.nd h hj (Ne.symm hne)
      obtain ⟨g1, g2, g3⟩ := s.own q (List.mem_of_getElem? hj)
      exact ⟨g1, by rw [upd_ne hn]; exact g2, g3⟩
  nd := by
    have e : (O.set k (p, o')).map (·.1) = O.map (·.1) := by
      rw [List.map_set]
      obtain ⟨h1, h2⟩ := List.getElem?_eq_some_iff.mp h
      have : p = (O.map (·.1))[k]'(by simpa using h1) := by simp [h2]
      rw [this]
      exact List.set_getElem_self _
    rw [e]
    exact s.nd
  mrk := s.mrk
/-- a new object that the def owns -/
theorem S.push {p : Addr} {o : HO} (s : S M W F0 H0 F H σ ss O) (h : H p = none) : S M W F0 H0 F (upd H p o) σ ss ((p, o) :: O) where
  gr := s.gr.step ((Stp.refl s.fh).allocO h)
  env := s.env
  own := fun q hq => by
    rcases List.mem_cons.mp hq with e | hq
    · subst e
      refine ⟨fresh_back s.fh h, upd_same, .inr ?_⟩
      cases e : H0 p with
      | none => rfl
      | some u => exact absurd h (s.gr.al p (by rw [e]; exact fun z => by cases z))
    · obtain ⟨g1, g2, g3⟩ := s.own q hq
      exact ⟨g1, by rw [upd_ne (ne_of_none g2 h)]; exact g2, g3⟩
  nd := by
    rw [List.map_cons, List.nodup_cons]
    refine ⟨fun hm => ?_, s.nd⟩
    obtain ⟨q, hq, e⟩ := List.mem_map.mp hm
    obtain ⟨_, g2, _⟩ := s.own q hq
    rw [e, h] at g2
    cases g2
  mrk := s.mrk
/-- an owned object that is given up: frozen from now on -/
theorem S.freeze {k : Nat} {p : Addr} {o : HO} (s : S M W F0 H0 F H σ ss O) (h : O[k]? = some (p, o)) (hp : H0 p = none) : S M W F0 H0 (upd F p o) H σ ss (O.eraseIdx k) where
  gr := by
    obtain ⟨h1, h2, h3⟩ := s.mem h
    refine ⟨s.gr.ff.trans (same_new h1), fun a u e => ?_, s.gr.hh, fun q h4 h5 => ?_, s.gr.al⟩
    · by_cases z : a = p
      · subst z; rw [upd_same] at e; cases e; exact h2
      · rw [upd_ne z] at e; exact s.fh a u e
    · have z : q ≠ p := fun z => h5 (by subst z; exact hp)
      rw [upd_ne z]
      exact s.gr.nw q h4 h5
  env := s.env.mono (same_new (s.mem h).1)
  own := fun q hq => by
    obtain ⟨j, hj⟩ := List.getElem?_of_mem hq
    rw [List.getElem?_eraseIdx] at hj
    have hn : q.1 ≠ p := by
      split at hj
      · exact nodup_idx s.nd h hj (by omega)
      · exact nodup_idx s.nd h hj (by omega)
    have hm : q ∈ O := by split at hj <;> exact List.mem_of_getElem? hj
    obtain ⟨g1, g2, g3⟩ := s.own q hm
    exact ⟨by rw [upd_ne hn]; exact g1, g2, g3⟩
  nd := by
    exact s.nd.sublist ((List.eraseIdx_sublist ..).map _)
  mrk := fun m hm => m.m (same_new (s.mem h).1) (s.mrk m hm)
theorem S.drop {k : Nat} (s : S M W F0 H0 F H σ ss O) : S M W F0 H0 F H σ ss (O.eraseIdx k) :=
  ⟨s.gr, s.env, fun q hq => s.own q (List.mem_of_mem_eraseIdx hq), by
    exact s.nd.sublist ((List.eraseIdx_sublist ..).map _), s.mrk⟩

/-- marks -/
theorem S.fact (s : S M W F0 H0 F H σ ss O) {f : Fact} (e : f.p F) : S M (f :: W) F0 H0 F H σ ss O := ⟨s.gr, s.env, s.own, s.nd, fun m hm => by
  rcases List.mem_cons.mp hm with e' | hm
  · subst e'; exact e
  · exact s.mrk m hm⟩
theorem S.unfact {f : Fact} (s : S M (f :: W) F0 H0 F H σ ss O) : S M W F0 H0 F H σ ss O := ⟨s.gr, s.env, s.own, s.nd, fun m hm => s.mrk m (List.mem_cons_of_mem _ hm)⟩
theorem S.mark (s : S M W F0 H0 F H σ ss O) {Fw : Hp} (e : Same Fw F) : S M (Fact.mark Fw :: W) F0 H0 F H σ ss O := ⟨s.gr, s.env, s.own, s.nd, fun m hm => by
  rcases List.mem_cons.mp hm with e' | hm
  · subst e'; exact e
  · exact s.mrk m hm⟩
theorem S.unmark {Fw : Hp} (s : S M (Fact.mark Fw :: W) F0 H0 F H σ ss O) : S M W F0 H0 F H σ ss O ∧ Same Fw F := ⟨⟨s.gr, s.env, s.own, s.nd, fun m hm => s.mrk m (List.mem_cons_of_mem _ hm)⟩, s.mrk (Fact.mark Fw) List.mem_cons_self⟩
/-! ### statements -/
theorem s_seq {t u : TS} (h : t { D with nx := u D } σ H) : tSeq t u D σ H := h
theorem s_asg {i : Nat} (s : S M W F0 H0 F H σ ss O) (h : Ev te σ F T) (k : ∀ v F H, S M W F0 H0 F H (σ.set i (some v)) (ss.set i (some T)) O → D.nx (σ.set i (some v)) H) : tAsg te (gName i) D σ H :=
  h H s.fh _ fun v F2 H2 st hv => k v F2 H2 ((s.step st).set hv)
/-- read at the heap as it stands, owned lists too; an int, a truth -/
theorem s_asgI {i : Nat} {n : Int} (s : S M W F0 H0 F H σ ss O) (h : Ev te σ H (TD K (.int n))) (k : ∀ H, S M W F0 H0 F H (σ.set i (some (.int n))) (ss.set i (some (TD K (.int n)))) O → D.nx (σ.set i (some (.int n))) H) : tAsg te (gName i) D σ H :=
  h H (.refl _) _ fun v F2 H2 st hv => by
    have e := dp_int hv
    subst e
    exact k H2 ((s.heap st.hh).set (.int n))
theorem s_own {i : Nat} (s : S M W F0 H0 F H σ ss O) (h : EvN K te σ F ds) (k : ∀ p xs F H, S M W F0 H0 F H (σ.set i (some (.ref p))) (ss.set i (some (TX (.ref p)))) ((p, .lst xs) :: O) → DpAll K F xs ds → H0 p = none → D.nx (σ.set i (some (.ref p))) H) : tAsg te (gName i) D σ H :=
  h H s.fh _ fun p xs F2 H2 st hp hd => by
    have s1 := (s.step st).push (o := .lst xs) hp
    have s2 : S M W F0 H0 F2 (upd H2 p (.lst xs)) (σ.set i (some (.ref p))) (ss.set i (some (TX (.ref p)))) ((p, .lst xs) :: O) := s1.set rfl
    refine k p xs F2 _ s2 hd ?_
    cases e : H0 p with
    | none => rfl
    | some u => exact absurd hp ((s.step st).gr.al p (by rw [e]; exact fun z => by cases z))
theorem s_ownI {i : Nat} {ns : List Int} (s : S M W F0 H0 F H σ ss O) (h : EvN K te σ F (ns.map .int)) (k : ∀ p F H, S M W F0 H0 F H (σ.set i (some (.ref p))) (ss.set i (some (TX (.ref p)))) ((p, .lst (ns.map V.int)) :: O) → H0 p = none → D.nx (σ.set i (some (.ref p))) H) : tAsg te (gName i) D σ H :=
  s_own s h fun p xs F H s' hd hp => by
    have e := dpAll_ints' hd
    subst e
    exact k p F H s' hp
theorem s_if {tt : TT} {t u : TS} {b : Bool} (s : S M W F0 H0 F H σ ss O) (h : EvT tt σ H b) (h1 : b = true → ∀ H, S M W F0 H0 F H σ ss O → t D σ H) (h2 : b = false → ∀ H, S M W F0 H0 F H σ ss O → u D σ H) : tIfS tt t u D σ H :=
  h H (.refl _) _ fun F2 H2 st => by
    cases b with
    | true =>
      show t D σ H2
      exact h1 rfl H2 (s.heap st.hh)
    | false =>
      show u D σ H2
      exact h2 rfl H2 (s.heap st.hh)
theorem s_ifT {tt : TT} {t u : TS} (s : S M W F0 H0 F H σ ss O) (h : EvT tt σ H true) (h1 : ∀ H, S M W F0 H0 F H σ ss O → t D σ H) : tIfS tt t u D σ H := s_if s h (fun _ => h1) (fun z => by cases z)
theorem s_ifF {tt : TT} {t u : TS} (s : S M W F0 H0 F H σ ss O) (h : EvT tt σ H false) (h1 : ∀ H, S M W F0 H0 F H σ ss O → u D σ H) : tIfS tt t u D σ H := s_if s h (fun z => by cases z) (fun _ => h1)
theorem s_next (h : D.nx σ H) : tNext D σ H := h
theorem s_ret (s : S M W F0 H0 F H σ ss O) (h : Ev te σ F T) (k : ∀ v F H, S M W F0 H0 F H σ ss O → T.p v F → D.rt v H) : tRet te D σ H :=
  h H s.fh _ fun v F2 H2 st hv => k v F2 H2 (s.step st) hv
/-- a truth, an int, reckoned at the heap as it stands -/
theorem s_retH (s : S M W F0 H0 F H σ ss O) (h : Ev te σ H T) (k : ∀ v F2 H2, S M W F0 H0 F H2 σ ss O → T.p v F2 → D.rt v H2) : tRet te D σ H :=
  h H (.refl _) _ fun v F2 H2 st hv => k v F2 H2 (s.heap st.hh) hv
theorem s_drop (s : S M W F0 H0 F H σ ss O) (h : Ev te σ F T) (k : ∀ H F, S M W F0 H0 F H σ ss O → D.nx σ H) : tDrop te D σ H :=
  h H s.fh _ fun v F2 H2 st hv => k H2 F2 (s.step st)

/-! a new tuple, of these values, made at the heap as it stands -/
def EvU (te : TE) (σ : L2.St) (F : Hp) (xs : List V) : Prop := ∀ H, Same F H → ∀ Q : VK, (∀ p F2 H2, Stp F H F2 H2 → H2 p = none → Q (.ref p) (upd H2 p (.tup xs))) → te σ H Q
def EvL (te : TE) (σ : L2.St) (F : Hp) (xs : List V) : Prop := ∀ H, Same F H → ∀ Q : VK, (∀ p F2 H2, Stp F H F2 H2 → H2 p = none → Q (.ref p) (upd H2 p (.lst xs))) → te σ H Q
/-- a list, a tuple, of just these values -/
def TL (K : PySem.W.Frag) (xs : List V) : Ty := ⟨fun v F => ∃ a, v = .ref a ∧ SqL K F a xs, fun e ⟨a, h1, h2⟩ => ⟨a, h1, same_l e h2⟩⟩
def TT' (K : PySem.W.Frag) (xs : List V) : Ty := ⟨fun v F => ∃ a, v = .ref a ∧ SqT K F a xs, fun e ⟨a, h1, h2⟩ => ⟨a, h1, same_t e h2⟩⟩
theorem evL_ty {xs : List V} (h : EvL te σ F xs) : Ev te σ F (TL K xs) := fun H f Q q => h H f Q fun p F2 H2 st hp => q (.ref p) _ _ (st.alloc hp) ⟨p, rfl, sq_of upd_same⟩
theorem S.lookL {i k : Nat} {p : Addr} {xs : List V} {ss' : List Sl} (s : S M W F0 H0 F H σ ss O) (E : Env H σ ss') (h : ss'[i]? = some (some (TX (.ref p)))) (ho : O[k]? = some (p, .lst xs)) : Env H σ (ss'.set i (some (TL K xs))) :=
  E.re h fun v e => ⟨p, e, sq_of (s.mem ho).2.1⟩
theorem el_sl {tl th : L2.TO} {lo hi : Option Int} {xs : List V} (h : Ev te σ F (TL K xs)) (h1 : EvO tl σ F lo) (h2 : EvO th σ F hi) : EvL (tSl (rSl K) te tl th) σ F (cutV xs lo hi) := fun H f Q q =>
  h H f _ fun x F1 H1 s1 hx => (h1.up s1.ff) H1 s1.fh _ fun F2 H2 s2 => (h2.up (s1.ff.trans s2.ff)) H2 s2.fh _ fun F3 H3 s3 => by
    obtain ⟨a, rfl, ha⟩ := hx
    exact .inl ⟨a, xs, rfl, same_l ((s2.ff.trans s3.ff).trans s3.fh) ha, fun p hp => q p F3 H3 ((s1.trans s2).trans s3) hp⟩
theorem eu_tuple {xs : List V} (h : Ev te σ F (TL K xs)) : EvU (tCB (rTupleOf K) (tCons te tNil)) σ F xs := fun H f Q q =>
  h H f _ fun x F1 H1 s1 hx => by
    obtain ⟨a, rfl, ha⟩ := hx
    exact ⟨a, xs, rfl, .inl ⟨same_l s1.fh ha, fun p hp => q p F1 H1 s1 hp⟩⟩
theorem el_list {xs : List V} (h : Ev te σ F (TL K xs)) : EvL (tCB (rListOf K) (tCons te tNil)) σ F xs := fun H f Q q =>
  h H f _ fun x F1 H1 s1 hx => by
    obtain ⟨a, rfl, ha⟩ := hx
    exact ⟨a, xs, rfl, .inl (same_l s1.fh ha), fun p hp => q p F1 H1 s1 hp⟩
theorem s_retU {xs : List V} (s : S M W F0 H0 F H σ ss O) (h : EvU te σ H xs) (hd : DpAll K F xs ds) (k : ∀ v F H, S M W F0 H0 F H σ ss O → Dp K F v (.tuple ds) → D.rt v H) : tRet te D σ H :=
  h H (.refl _) _ fun p F2 H2 st hp => by
    have s2 := s.heap st.hh
    have s3 := s2.step ((Stp.refl s2.fh).alloc (o := .tup xs) hp)
    exact k (.ref p) _ _ s3 (.tup (st_of upd_same) (dpAll_mono (same_new (fresh_back s2.fh hp)) hd))
theorem s_asgU {i : Nat} {xs : List V} (s : S M W F0 H0 F H σ ss O) (h : EvU te σ H xs) (hd : DpAll K F xs ds) (k : ∀ v F H, S M W F0 H0 F H (σ.set i (some v)) (ss.set i (some (TD K (.tuple ds)))) O → D.nx (σ.set i (some v)) H) : tAsg te (gName i) D σ H :=
  h H (.refl _) _ fun p F2 H2 st hp => by
    have s2 := s.heap st.hh
    have s3 := s2.step ((Stp.refl s2.fh).alloc (o := .tup xs) hp)
    exact k (.ref p) _ _ (s3.set (show (TD K (.tuple ds)).p _ _ from .tup (st_of upd_same) (dpAll_mono (same_new (fresh_back s2.fh hp)) hd)))

/-! owned lists changed -/
theorem s_append {i k : Nat} {p : Addr} {xs : List V} (s : S M W F0 H0 F H σ ss O) (hi : ss[i]? = some (some (TX (.ref p)))) (ho : O[k]? = some (p, .lst xs)) (h : Ev te σ F T) (hz : xs.length < 100000)
    (q : ∀ v F H, T.p v F → S M W F0 H0 F H σ ss (O.set k (p, .lst (xs ++ [v]))) → D.nx σ H) : tDrop (tBM K "list" rAppend (tVar i) (tCons te tNil)) D σ H := by
  obtain ⟨w, h1, h2⟩ := s.env.get hi
  have e : w = .ref p := h2
  subst e
  refine ⟨_, h1, .inl ⟨rfl, xs, sq_of (s.mem ho).2.1⟩, h H s.fh _ fun v F2 H2 st hv => ?_⟩
  have s2 := s.step st
  exact ⟨p, xs, v, rfl, rfl, (s2.mem ho).2.1, sz_lt hz, q v F2 _ hv (s2.mut ho)⟩
/-- the value an int, reckoned at the heap as it stands -/
theorem s_appendI {i k : Nat} {p : Addr} {xs : List V} {n : Int} (s : S M W F0 H0 F H σ ss O) (hi : ss[i]? = some (some (TX (.ref p)))) (ho : O[k]? = some (p, .lst xs)) (h : Ev te σ H (TD K (.int n))) (hz : xs.length < 100000)
    (q : ∀ H, S M W F0 H0 F H σ ss (O.set k (p, .lst (xs ++ [.int n]))) → D.nx σ H) : tDrop (tBM K "list" rAppend (tVar i) (tCons te tNil)) D σ H := by
  obtain ⟨w, h1, h2⟩ := s.env.get hi
  have e : w = .ref p := h2
  subst e
  refine ⟨_, h1, .inl ⟨rfl, xs, sq_of (s.mem ho).2.1⟩, h H (.refl _) _ fun v F2 H2 st hv => ?_⟩
  have s2 := s.heap st.hh
  have e := dp_int hv
  subst e
  exact ⟨p, xs, _, rfl, rfl, (s2.mem ho).2.1, sz_lt hz, q _ (s2.mut ho)⟩
theorem s_pop {i k : Nat} {p : Addr} {xs : List V} (s : S M W F0 H0 F H σ ss O) (hi : ss[i]? = some (some (TX (.ref p)))) (ho : O[k]? = some (p, .lst xs)) (hx : xs ≠ [])
    (q : ∀ H, S M W F0 H0 F H σ ss (O.set k (p, .lst xs.dropLast)) → D.nx σ H) : tDrop (tBM0 K "list" rPop (tVar i)) D σ H := by
  obtain ⟨w, h1, h2⟩ := s.env.get hi
  have e : w = .ref p := h2
  subst e
  have hl : 0 < xs.length := List.length_pos_iff.mpr hx
  exact ⟨_, h1, .inl ⟨rfl, xs, sq_of (s.mem ho).2.1⟩, p, xs, xs[xs.length - 1], rfl, rfl, (s.mem ho).2.1, List.getElem?_eq_getElem (by omega), q _ (s.mut ho)⟩
theorem s_setI {i k j : Nat} {p : Addr} {xs : List V} {n : Int} (s : S M W F0 H0 F H σ ss O) (hi : ss[i]? = some (some (TX (.ref p)))) (ho : O[k]? = some (p, .lst xs)) (h : Ev te σ H (TD K (.int n))) (hx : ∀ H', Same H H' → Ev ta σ H' (TD K (.int (j : Int)))) (hj : j < xs.length)
    (q : ∀ H, S M W F0 H0 F H σ ss (O.set k (p, .lst (xs.set j (.int n)))) → D.nx σ H) : tAsg te (gSub (tVar i) ta rSetL) D σ H := by
  refine h H (.refl _) _ fun v F2 H2 st hv => ?_
  have s2 := s.heap st.hh
  obtain ⟨w, h1, h2⟩ := s2.env.get hi
  have e : w = .ref p := h2
  subst e
  have e := dp_int hv
  subst e
  refine ⟨_, h1, hx H2 st.hh H2 (.refl _) _ fun u F3 H3 st3 hu => ?_⟩
  have s3 := s2.heap st3.hh
  exact ⟨p, xs, j, j, rfl, dp_int hu, (s3.mem ho).2.1, ixN_nat hj, q _ (s3.mut ho)⟩
theorem s_augI {i k j : Nat} {p : Addr} {xs : List V} {n m : Int} {f : Int → Int → Int} (s : S M W F0 H0 F H σ ss O) (hi : ss[i]? = some (some (TX (.ref p)))) (ho : O[k]? = some (p, .lst xs)) (hx : Ev ta σ H (TD K (.int (j : Int)))) (hj : xs[j]? = some (.int m)) (h : ∀ H', Same H H' → Ev te σ H' (TD K (.int n)))
    (q : ∀ H, S M W F0 H0 F H σ ss (O.set k (p, .lst (xs.set j (.int (f m n))))) → D.nx σ H) : tAugS (tVar i) ta te (rGetL K) (ipI f) rSetL D σ H := by
  obtain ⟨w, h1, h2⟩ := s.env.get hi
  have e : w = .ref p := h2
  subst e
  refine ⟨_, h1, hx H (.refl _) _ fun u F2 H2 st hu => ?_⟩
  have s2 := s.heap st.hh
  refine ⟨p, xs, j, j, .int m, rfl, dp_int hu, sq_of (s2.mem ho).2.1, rfl, hj, h H2 st.hh H2 (.refl _) _ fun v F3 H3 st3 hv => ?_⟩
  have s3 := s2.heap st3.hh
  exact ⟨m, n, rfl, dp_int hv, p, xs, j, j, rfl, dp_int hu, (s3.mem ho).2.1, ixN_nat (List.getElem?_eq_some_iff.mp hj).1, q _ (s3.mut ho)⟩
theorem s_augN {i : Nat} {n m : Int} {f : Int → Int → Int} (s : S M W F0 H0 F H σ ss O) (hi : ss[i]? = some (some (TD K (.int m)))) (h : Ev te σ H (TD K (.int n)))
    (q : ∀ H, S M W F0 H0 F H (σ.set i (some (.int (f m n)))) (ss.set i (some (TD K (.int (f m n))))) O → D.nx (σ.set i (some (.int (f m n)))) H) : tAug i te (ipI f) D σ H := by
  obtain ⟨w, h1, h2⟩ := s.env.get hi
  have e := dp_int h2
  subst e
  refine ⟨_, h1, h H (.refl _) _ fun v F2 H2 st hv => ?_⟩
  exact ⟨m, n, rfl, dp_int hv, q _ ((s.heap st.hh).set (show (TD K (.int (f m n))).p _ _ from .int _))⟩
end
end DL

set_option Elab.async false
set_option linter.all false
set_option maxRecDepth 100000
set_option maxHeartbeats 1200000
/-! what loops and comprehensions walk; calls -/
namespace DL
open Evl (sq_of st_of sz_of sz_lt rMax2 ixN_nat)
open L2 PySem PySem.Spec PyProof.Rows
def iSeq (K : PySem.W.Frag) (tl : TE) : TI := fun σ H R => iList K tl σ H R ∨ iTup K tl σ H R
theorem pi_seq {X : Cx} {tg l : Expr} {tl : TE} (hl : PE X l tl) : PI X tg l (iSeq X.K tl) := piOr (pi_list hl) (pi_tup hl)

/-- J walks the data ds, wherever F is frozen -/
structure WalkD (K : PySem.W.Frag) (J : It) (F : Hp) (ds : List PyData) : Prop where
  go : ∀ i H, Same F H → i < ds.length → J.go i H
  stop : ∀ H, Same F H → J.stop ds.length H
  yld : ∀ i H x H' F1, Same F F1 → Same F1 H → J.yld i H x H' → ∀ d, ds[i]? = some d → ∃ F2, Stp F1 H F2 H' ∧ Dp K F2 x d
def EvI (K : PySem.W.Frag) (wi : TI) (σ : L2.St) (F : Hp) (ds : List PyData) : Prop := ∀ H, Same F H → ∀ R, (∀ J F2 H2, Stp F H F2 H2 → WalkD K J F2 ds → R J H2) → wi σ H R
section
variable {K : PySem.W.Frag} {σ : L2.St} {F F' H : Hp} {te : TE} {ta : TA} {ds es : List PyData}
theorem walkD_list {a : Addr} {xs : List V} (h : SqL K F a xs) (hd : DpAll K F xs ds) : WalkD K (Itl K a) F ds where
  go := fun i H e hi => by
    obtain ⟨v, h1, _⟩ := dpAll_get hd (List.getElem?_eq_getElem hi)
    exact ⟨xs, v, same_l e h, h1⟩
  stop := fun H e => ⟨xs, same_l e h, by rw [dpAll_len hd]; exact Nat.le_refl _⟩
  yld := fun i H x H' F1 e f y d hi => by
    obtain ⟨rfl, y⟩ := y
    obtain ⟨v, h1, h2⟩ := dpAll_get hd hi
    have := y xs (same_l (e.trans f) h)
    rw [h1] at this
    cases this
    exact ⟨F1, .refl f, dp_mono e h2⟩
theorem walkD_tuple {a : Addr} {xs : List V} (h : SqT K F a xs) (hd : DpAll K F xs ds) : WalkD K (Itt K a) F ds where
  go := fun i H e hi => by
    obtain ⟨v, h1, _⟩ := dpAll_get hd (List.getElem?_eq_getElem hi)
    exact ⟨xs, v, same_t e h, h1⟩
  stop := fun H e => ⟨xs, same_t e h, by rw [dpAll_len hd]; exact Nat.le_refl _⟩
  yld := fun i H x H' F1 e f y d hi => by
    obtain ⟨rfl, y⟩ := y
    obtain ⟨v, h1, h2⟩ := dpAll_get hd hi
    have := y xs (same_t (e.trans f) h)
    rw [h1] at this
    cases this
    exact ⟨F1, .refl f, dp_mono e h2⟩
/-- range(lo, lo + n) as data -/
def rangeD (lo : Int) (n : Nat) : List PyData := (List.range n).map fun i => .int (lo + (i : Nat))
theorem walkD_range {lo : Int} {n : Nat} : WalkD K (Itr lo n) F (rangeD lo n) where
  go := fun i H e hi => by
    have h : i < n := by simpa [rangeD] using hi
    exact h
  stop := fun H e => by simp [rangeD, Itr]
  yld := fun i H x H' F1 e f y d hi => by
    obtain ⟨rfl, rfl⟩ := y
    obtain ⟨h1, h2⟩ := List.getElem?_eq_some_iff.mp hi
    have : d = .int (lo + (i : Nat)) := by rw [← h2]; simp [rangeD]
    subst this
    exact ⟨F1, .refl f, .int _⟩
/-- enumerate(..) as data -/
def enumD (ds : List PyData) : List PyData := ds.mapIdx fun i d => .tuple [.int (i : Nat), d]
theorem enumD_get {i : Nat} {d : PyData} (h : ds[i]? = some d) : (enumD ds)[i]? = some (.tuple [.int (i : Nat), d]) := by
  unfold enumD
  rw [List.getElem?_mapIdx, h]
  rfl
theorem enumD_len : (enumD ds).length = ds.length := by unfold enumD; exact List.length_mapIdx
theorem enumD_at {i : Nat} {e : PyData} (h : (enumD ds)[i]? = some e) : ∃ d, ds[i]? = some d ∧ e = .tuple [.int (i : Nat), d] := by
  have hi : i < ds.length := by
    obtain ⟨h1, _⟩ := List.getElem?_eq_some_iff.mp h
    rwa [enumD_len] at h1
  have h2 := List.getElem?_eq_getElem hi
  rw [enumD_get h2] at h
  exact ⟨_, h2, (Option.some.inj h).symm⟩
theorem walkD_enumL {a : Addr} {xs : List V} (h : SqL K F a xs) (hd : DpAll K F xs ds) : WalkD K (Ite K a) F (enumD ds) where
  go := fun i H e hi => by
    rw [enumD_len] at hi
    obtain ⟨v, h1, _⟩ := dpAll_get hd (List.getElem?_eq_getElem hi)
    exact ⟨xs, v, same_l e h, h1⟩
  stop := fun H e => ⟨xs, same_l e h, by rw [dpAll_len hd, enumD_len]; exact Nat.le_refl _⟩
  yld := fun i H x H' F1 e f y d hi => by
    obtain ⟨T, u, rfl, hT, rfl, y⟩ := y
    obtain ⟨d', h3, rfl⟩ := enumD_at hi
    obtain ⟨v, h1, h2⟩ := dpAll_get hd h3
    have := y xs (same_l (e.trans f) h)
    rw [h1] at this
    cases this
    exact ⟨_, (Stp.refl f).alloc hT, .tup (st_of upd_same) (.cons (.int _) (.cons (dp_mono (e.trans (same_new (fresh_back f hT))) h2) .nil))⟩
theorem walkD_enumT {a : Addr} {xs : List V} (h : SqT K F a xs) (hd : DpAll K F xs ds) : WalkD K (IteT K a) F (enumD ds) where
  go := fun i H e hi => by
    rw [enumD_len] at hi
    obtain ⟨v, h1, _⟩ := dpAll_get hd (List.getElem?_eq_getElem hi)
    exact ⟨xs, v, same_t e h, h1⟩
  stop := fun H e => ⟨xs, same_t e h, by rw [dpAll_len hd, enumD_len]; exact Nat.le_refl _⟩
  yld := fun i H x H' F1 e f y d hi => by
    obtain ⟨T, u, rfl, hT, rfl, y⟩ := y
    obtain ⟨d', h3, rfl⟩ := enumD_at hi
    obtain ⟨v, h1, h2⟩ := dpAll_get hd h3
    have := y xs (same_t (e.trans f) h)
    rw [h1] at this
    cases this
    exact ⟨_, (Stp.refl f).alloc hT, .tup (st_of upd_same) (.cons (.int _) (.cons (dp_mono (e.trans (same_new (fresh_back f hT))) h2) .nil))⟩
theorem ei_list (h : Ev te σ F (TD K (.list ds))) : EvI K (iSeq K te) σ F ds := fun H f R q =>
  .inl (h H f _ fun v F2 H2 s hv => by
    obtain ⟨a, xs, rfl, h1, h2⟩ := dp_list hv
    exact ⟨a, rfl, ⟨xs, same_l s.fh h1⟩, q _ F2 H2 s (walkD_list h1 h2)⟩)
theorem ei_tuple (h : Ev te σ F (TD K (.tuple ds))) : EvI K (iSeq K te) σ F ds := fun H f R q =>
  .inr (h H f _ fun v F2 H2 s hv => by
    obtain ⟨a, xs, rfl, h1, h2⟩ := dp_tuple hv
    exact ⟨a, rfl, ⟨xs, same_t s.fh h1⟩, q _ F2 H2 s (walkD_tuple h1 h2)⟩)
theorem ei_enumL (h : Ev te σ F (TD K (.list ds))) : EvI K (iEnumA K (tCons te tNil)) σ F (enumD ds) := fun H f R q =>
  .inl (h H f _ fun v F2 H2 s hv => by
    obtain ⟨a, xs, rfl, h1, h2⟩ := dp_list hv
    exact ⟨a, xs, rfl, same_l s.fh h1, q _ F2 H2 s (walkD_enumL h1 h2)⟩)
theorem ei_enumT (h : Ev te σ F (TD K (.tuple ds))) : EvI K (iEnumA K (tCons te tNil)) σ F (enumD ds) := fun H f R q =>
  .inr (h H f _ fun v F2 H2 s hv => by
    obtain ⟨a, xs, rfl, h1, h2⟩ := dp_tuple hv
    exact ⟨a, xs, rfl, same_t s.fh h1, q _ F2 H2 s (walkD_enumT h1 h2)⟩)
theorem ei_range1 {n : Int} (h : EvA ta σ F [TD K (.int n)]) (hn : -(2 ^ 62) ≤ n ∧ n < 2 ^ 62) : EvI K (iRng1 ta) σ F (rangeD 0 n.toNat) := fun H f R q =>
  h H f _ fun vs F2 H2 s hv => by
    match vs, hv with
    | [v], hv => exact ⟨n, by rw [dp_int hv.1], hn.1, hn.2, q _ F2 H2 s walkD_range⟩
theorem ei_range2 {lo n : Int} (h : EvA ta σ F [TD K (.int lo), TD K (.int n)]) (hl : -(2 ^ 62) ≤ lo ∧ lo < 2 ^ 62) (hn : -(2 ^ 62) ≤ n ∧ n < 2 ^ 62) : EvI K (iRng2 ta) σ F (rangeD lo (n - lo).toNat) := fun H f R q =>
  h H f _ fun vs F2 H2 s hv => by
    match vs, hv with
    | [v, w], hv => exact ⟨lo, n, by rw [dp_int hv.1, dp_int hv.2.1], ⟨hl.1, hl.2, hn.1, hn.2⟩, q _ F2 H2 s walkD_range⟩
theorem EvI.up {wi : TI} (h : EvI K wi σ F ds) (e : Same F F') : EvI K wi σ F' ds := fun H f R q =>
  h H (e.trans f) R fun J F2 H2 s hv => by
    obtain ⟨s2, g⟩ := s.up e f
    exact q J _ H2 s2 ⟨fun i H e' => hv.go i H (g.trans e'), fun H e' => hv.stop H (g.trans e'), fun i H x H' F1 e1 => hv.yld i H x H' F1 (g.trans e1)⟩

/-! ### for -/
variable {M : List Addr} {W : List Fact} {F0 H0 : Hp} {ss : List Sl} {O : Ow} {D : Ends}
/-- the state between two turns -/
def Bt (M : List Addr) (W : List Fact) (F0 H0 : Hp) (I : Nat → List Sl → Ow → Prop) (i : Nat) : L2.St → Hp → Prop := fun σ H => ∃ F ss O, I i ss O ∧ S M W F0 H0 F H σ ss O
theorem Bt.of {I : Nat → List Sl → Ow → Prop} {i : Nat} (hI : I i ss O) (s : S M W F0 H0 F H σ ss O) : Bt M W F0 H0 I i σ H := ⟨F, ss, O, hI, s⟩
theorem s_for {wi : TI} {g : TG} {tb : TS} (s : S M W F0 H0 F H σ ss O) (hw : EvI K wi σ F ds) (I : Nat → List Sl → Ow → Prop) (h0 : I 0 ss O)
    (hs : ∀ (Fw : Hp) i d x σ F H ss O, ds[i]? = some d → I i ss O → S M (Fact.mark Fw :: W) F0 H0 F H σ ss O → Dp K F x d → g x σ H fun σ2 H2 => tb { D with nx := Bt M (Fact.mark Fw :: W) F0 H0 I (i + 1), ct := Bt M (Fact.mark Fw :: W) F0 H0 I (i + 1), bk := D.nx } σ2 H2)
    (hd : ∀ σ F H ss O, I ds.length ss O → S M W F0 H0 F H σ ss O → D.nx σ H) : tFor wi g tb D σ H := by
  refine hw H s.fh _ fun J Fw H2 st w => ?_
  refine ⟨fun i m σ H => i + m = ds.length ∧ Bt M (Fact.mark Fw :: W) F0 H0 I i σ H, ⟨ds.length, by omega, Fw, ss, O, h0, (s.step st).mark (.refl _)⟩, ?_⟩
  rintro i m σ H ⟨em, F, ss, O, hI, s⟩
  obtain ⟨s', e⟩ := s.unmark
  by_cases hi : i < ds.length
  · refine .inr ⟨w.go i H (e.trans s.fh) hi, Bt M (Fact.mark Fw :: W) F0 H0 I (i + 1), fun σ' H' hN => ⟨m - 1, by omega, by omega, hN⟩, fun x H' hy => ?_⟩
    obtain ⟨F2, st2, hx⟩ := w.yld i H x H' F e s.fh hy _ (List.getElem?_eq_getElem hi)
    exact hs Fw i _ x σ F2 H' ss O (List.getElem?_eq_getElem hi) hI (s.step st2) hx
  · have : i = ds.length := by omega
    subst this
    exact .inl ⟨w.stop H (e.trans s.fh), hd σ F H ss O hI s'⟩
/-- targets -/
theorem g_tup2 {i j : Nat} {x : V} {d1 d2 : PyData} {Q : L2.St → Hp → Prop} (s : S M W F0 H0 F H σ ss O) (h : Dp K F x (.tuple [d1, d2])) (k : ∀ v w, S M W F0 H0 F H ((σ.set i (some v)).set j (some w)) ((ss.set i (some (TD K d1))).set j (some (TD K d2))) O → Q ((σ.set i (some v)).set j (some w)) H) :
    gTup K 2 (gCons (gName i) (gCons (gName j) gNil)) x σ H Q := by
  obtain ⟨a, xs, rfl, h1, h2⟩ := dp_tuple h
  cases h2 with
  | cons q1 h2 =>
    cases h2 with
    | cons q2 h2 =>
      cases h2
      exact ⟨a, _, rfl, same_t s.fh h1, rfl, _, _, rfl, _, _, rfl, rfl, k _ _ ((s.set (show (TD K d1).p _ _ from q1)).set (show (TD K d2).p _ _ from q2))⟩
theorem g_tup3 {i j l : Nat} {x : V} {d1 d2 d3 : PyData} {Q : L2.St → Hp → Prop} (s : S M W F0 H0 F H σ ss O) (h : Dp K F x (.tuple [d1, d2, d3])) (k : ∀ v w u, S M W F0 H0 F H (((σ.set i (some v)).set j (some w)).set l (some u)) (((ss.set i (some (TD K d1))).set j (some (TD K d2))).set l (some (TD K d3))) O → Q (((σ.set i (some v)).set j (some w)).set l (some u)) H) :
    gTup K 3 (gCons (gName i) (gCons (gName j) (gCons (gName l) gNil))) x σ H Q := by
  obtain ⟨a, xs, rfl, h1, h2⟩ := dp_tuple h
  cases h2 with
  | cons q1 h2 =>
    cases h2 with
    | cons q2 h2 =>
      cases h2 with
      | cons q3 h2 =>
        cases h2
        exact ⟨a, _, rfl, same_t s.fh h1, rfl, _, _, rfl, _, _, rfl, _, _, rfl, rfl, k _ _ _ (((s.set (show (TD K d1).p _ _ from q1)).set (show (TD K d2).p _ _ from q2)).set (show (TD K d3).p _ _ from q3))⟩
/-! ### while -/
def Wt (M : List Addr) (W : List Fact) (F0 H0 : Hp) (I : Nat → List Sl → Ow → Prop) (m : Nat) : L2.St → Hp → Prop := fun σ H => ∃ m', m' < m ∧ Bt M W F0 H0 I m' σ H
theorem Wt.of {I : Nat → List Sl → Ow → Prop} {m m' : Nat} (hm : m' < m) (hI : I m' ss O) (s : S M W F0 H0 F H σ ss O) : Wt M W F0 H0 I m σ H := ⟨m', hm, F, ss, O, hI, s⟩
theorem s_while {tc : TT} {tb : TS} (s : S M W F0 H0 F H σ ss O) (I : Nat → List Sl → Ow → Prop) (m0 : Nat) (h0 : I m0 ss O)
    (hs : ∀ m σ H1 F1 ss O, I m ss O → S M W F0 H0 F1 H1 σ ss O → ∃ b, EvT tc σ H1 b ∧ (b = true → ∀ H2, S M W F0 H0 F1 H2 σ ss O → tb { D with nx := Wt M W F0 H0 I m, ct := Wt M W F0 H0 I m, bk := D.nx } σ H2) ∧ (b = false → ∀ H2, S M W F0 H0 F1 H2 σ ss O → D.nx σ H2)) : tWhile tc tb D σ H := by
  refine ⟨fun m σ H => Bt M W F0 H0 I m σ H, ⟨m0, F, ss, O, h0, s⟩, ?_⟩
  rintro m σ H1 ⟨F1, ss, O, hI, s⟩
  obtain ⟨b, ht, k1, k2⟩ := hs m σ H1 F1 ss O hI s
  refine ht H1 (.refl _) _ fun F2 H2 st => ?_
  cases b with
  | true =>
    rw [if_pos rfl]
    exact ⟨_, fun σ' H' hN => hN, k1 rfl H2 (s.heap st.hh)⟩
  | false =>
    rw [if_neg Bool.false_ne_true]
    exact k2 rfl H2 (s.heap st.hh)

/-! ### a comprehension that changes nothing -/
theorem wipe_idem_set {σ : L2.St} {vs : List Nat} {j : Nat} {x : V} (h : j ∈ vs) : wipe ((wipe σ vs).set j (some x)) vs = wipe σ vs := by
  apply List.ext_getElem?
  intro n
  have key : ∀ (τ : L2.St) (n : Nat), (wipe τ vs)[n]? = if n ∈ vs then τ[n]?.map (fun _ => none) else τ[n]? := by
    intro τ n
    clear h
    induction vs generalizing n with
    | nil => simp [wipe]
    | cons v vs ih =>
      show ((wipe τ vs).set v none)[n]? = _
      rw [List.getElem?_set]
      by_cases e : v = n
      · subst e
        rw [if_pos rfl]
        simp only [wipe_length, List.mem_cons, true_or, if_true]
        by_cases hl : v < τ.length
        · rw [if_pos hl, List.getElem?_eq_getElem hl]; rfl
        · rw [if_neg hl, List.getElem?_eq_none (by omega)]; rfl
      · rw [if_neg e, ih]
        have : (n ∈ v :: vs) = (n ∈ vs) := by
          simp only [List.mem_cons, eq_iff_iff]
          exact ⟨fun h => h.resolve_left (fun z => e z.symm), .inr⟩
        simp only [this]
  rw [key, key]
  by_cases hn : n ∈ vs
  · rw [if_pos hn, if_pos hn, List.getElem?_set]
    split
    · rename_i e
      subst e
      split
      · rename_i hl
        rw [wipe_length] at hl
        rw [List.getElem?_eq_getElem hl]; rfl
      · rename_i hl
        rw [wipe_length] at hl
        rw [List.getElem?_eq_none (by omega)]
    · rw [key, if_pos hn]
      cases σ[n]? with
      | none => rfl
      | some _ => rfl
  · have hjn : j ≠ n := fun e => hn (by rw [← e]; exact h)
    rw [if_neg hn, if_neg hn, List.getElem?_set, if_neg hjn, key, if_neg hn]

def minus (H : Hp) (L : Addr) : Hp := fun a => if a = L then none else H a
theorem minus_at {H : Hp} {L : Addr} : minus H L L = none := by unfold minus; rw [if_pos rfl]
theorem minus_ne {H : Hp} {L a : Addr} (h : a ≠ L) : minus H L a = H a := by unfold minus; rw [if_neg h]
theorem minus_le {H : Hp} {L : Addr} : Same (minus H L) H := fun a o h => by
  by_cases e : a = L
  · subst e; rw [minus_at] at h; cases h
  · rw [minus_ne e] at h; exact h
theorem minus_upd {H : Hp} {L : Addr} {o : HO} : minus (upd H L o) L = minus H L := by
  funext a
  by_cases e : a = L
  · subst e; rw [minus_at, minus_at]
  · rw [minus_ne e, minus_ne e, upd_ne e]
theorem upd_minus {H : Hp} {L : Addr} {o : HO} (h : H L = some o) : upd (minus H L) L o = H := by
  funext a
  by_cases e : a = L
  · subst e; rw [upd_same, h]
  · rw [upd_ne e, minus_ne e]
theorem minus_new {H : Hp} {L : Addr} (h : H L = none) : minus H L = H := by
  funext a
  by_cases e : a = L
  · subst e; rw [minus_at, h]
  · rw [minus_ne e]
theorem stp_minus {Fw H2 F3 F4 H4 : Hp} {L : Addr} (a : Stp Fw H2 F3 (minus H L)) (b : Stp F3 H F4 H4) (hL : H L ≠ none) : Stp Fw H2 F4 (minus H4 L) := by
  have f3 : F3 L = none := a.fh.free minus_at
  have f4 : F4 L = none := b.nw L f3 hL
  refine ⟨fun c o h => ?_, a.ff.trans b.ff, fun c o h => ?_, fun p h1 h2 => ?_⟩
  · have h1 := a.hh c o h
    have e : c ≠ L := fun z => by subst z; rw [minus_at] at h1; cases h1
    rw [minus_ne e] at h1 ⊢
    exact b.hh c o h1
  · have e : c ≠ L := fun z => by subst z; rw [f4] at h; cases h
    rw [minus_ne e]
    exact b.fh c o h
  · exact b.nw p (a.nw p h1 h2) (some_of_same minus_le (some_of_same a.hh h2))
/-- each item at its turn: kept or not, and what is made of it -/
theorem en_lc {wi : TI} {tt : TT} {te : TE} {vs : List Nat} {j : Nat} (hj : j ∈ vs) (hw : EvI K wi σ F ds) (keep : Nat → Bool) (f : Nat → PyData) (hl : ds.length ≤ 100000)
    (ht : ∀ i d F' x, ds[i]? = some d → Same F F' → Dp K F' x d → EvT tt ((wipe σ vs).set j (some x)) F' (keep i))
    (he : ∀ i d F' x, ds[i]? = some d → keep i = true → Same F F' → Dp K F' x d → Ev te ((wipe σ vs).set j (some x)) F' (TD K (f i))) :
    EvN K (tLc wi (gName j) tt te vs) σ F (((List.range ds.length).filter keep).map f) := fun H fh Q q => by
  refine hw H fh _ fun J Fw H2 st w L hL => ?_
  refine ⟨fun i m H => i + m = ds.length ∧ ∃ F3 acc, Stp Fw H2 F3 (minus H L) ∧ H L = some (.lst acc) ∧ DpAll K F3 acc (((List.range i).filter keep).map f) ∧ acc.length ≤ i, ⟨ds.length, by omega, Fw, [], ?_, upd_same, .nil, Nat.le_refl _⟩, ?_⟩
  · rw [minus_upd, minus_new hL]
    exact .refl st.fh
  · rintro i m H ⟨em, F3, acc, s3, eL, hacc, hlen⟩
    have fH : Same F3 H := s3.fh.trans minus_le
    by_cases hi : i < ds.length
    · refine .inr ⟨w.go i H (s3.ff.trans fH) hi, fun H => ∃ F3 acc, Stp Fw H2 F3 (minus H L) ∧ H L = some (.lst acc) ∧ DpAll K F3 acc (((List.range (i + 1)).filter keep).map f) ∧ acc.length ≤ i + 1, fun H' hN => ⟨m - 1, by omega, by omega, hN⟩, fun x H' hy => ?_⟩
      have hd := List.getElem?_eq_getElem hi
      obtain ⟨F4, s4, hx⟩ := w.yld i H x H' F3 s3.ff fH hy _ hd
      have hLs : H L ≠ none := by rw [eL]; exact fun z => by cases z
      have s34 := stp_minus s3 s4 hLs
      have eL4 : H' L = some (.lst acc) := s4.hh _ _ eL
      refine ⟨wipe_idem_set hj, ?_⟩
      refine ht i _ F4 x hd (st.ff.trans s34.ff) hx H' s4.fh _ fun F5 H5 s5 => ?_
      have hLs4 : H' L ≠ none := by rw [eL4]; exact fun z => by cases z
      have s35 := stp_minus s34 s5 hLs4
      have eL5 : H5 L = some (.lst acc) := s5.hh _ _ eL4
      cases hk : keep i with
      | false =>
        rw [if_neg Bool.false_ne_true]
        refine ⟨F5, acc, s35, eL5, ?_, by omega⟩
        rw [List.range_succ, List.filter_append, List.filter_cons, hk, if_neg Bool.false_ne_true, List.filter_nil, List.append_nil]
        exact dpAll_mono (s4.ff.trans s5.ff) hacc
      | true =>
        rw [if_pos rfl]
        refine he i _ F5 x hd hk (st.ff.trans s35.ff) (dp_mono s5.ff hx) H5 s5.fh _ fun y F6 H6 s6 hy => ?_
        have hLs5 : H5 L ≠ none := by rw [eL5]; exact fun z => by cases z
        have s36 := stp_minus s35 s6 hLs5
        have eL6 : H6 L = some (.lst acc) := s6.hh _ _ eL5
        refine ⟨acc, eL6, sz_lt (by omega), F6, acc ++ [y], by rw [minus_upd]; exact s36, upd_same, ?_, by rw [List.length_append, List.length_singleton]; omega⟩
        rw [List.range_succ, List.filter_append, List.filter_cons, hk, if_pos rfl, List.filter_nil, List.map_append]
        exact dpAll_app (dpAll_mono ((s4.ff.trans s5.ff).trans s6.ff) hacc) (.cons hy .nil)
    · have : i = ds.length := by omega
      subst this
      refine .inl ⟨w.stop H (s3.ff.trans fH), ?_⟩
      have := q L acc F3 (minus H L) (st.trans s3) minus_at hacc
      rw [upd_minus eL] at this
      exact this
/-- a comprehension whose element may change what is owned -/
def Lt (M : List Addr) (W : List Fact) (F0 H0 : Hp) (σ : L2.St) (ss : List Sl) (L : Addr) (I : Nat → List V → Ow → Prop) (i : Nat) : Hp → Prop := fun H => ∃ F acc O, I i acc O ∧ S M W F0 H0 F H σ ss ((L, .lst acc) :: O)
theorem s_lc {wi : TI} {tt : TT} {te : TE} {vs : List Nat} {j : Nat} {Q : VK} (hj : j ∈ vs) (s : S M W F0 H0 F H σ ss O) (hw : EvI K wi σ F ds) (I : Nat → List V → Ow → Prop) (h0 : I 0 [] O)
    (hs : ∀ (L : Addr) (Fw : Hp) i d x F H acc O, ds[i]? = some d → I i acc O → S M (Fact.mark Fw :: W) F0 H0 F H ((wipe σ vs).set j (some x)) ((wipeS ss vs).set j (some (TD K d))) ((L, .lst acc) :: O) → Dp K F x d →
      tt ((wipe σ vs).set j (some x)) H fun b H3 => if b = true then te ((wipe σ vs).set j (some x)) H3 fun y H4 => ∃ acc, H4 L = some (.lst acc) ∧ acc.length < sizeLine ∧ Lt M (Fact.mark Fw :: W) F0 H0 (wipe σ vs) (wipeS ss vs) L I (i + 1) (upd H4 L (.lst (acc ++ [y]))) else Lt M (Fact.mark Fw :: W) F0 H0 (wipe σ vs) (wipeS ss vs) L I (i + 1) H3)
    (hd : ∀ (L : Addr) F H acc O, I ds.length acc O → S M W F0 H0 F H σ ss ((L, .lst acc) :: O) → H0 L = none → Q (.ref L) H) : tLc wi (gName j) tt te vs σ H Q := by
  refine hw H s.fh _ fun J Fw H2 st w L hL => ?_
  have s0 := s
  have s1 := (s.step st).wipe vs
  have hL0 : H0 L = none := by
    cases e : H0 L with
    | none => rfl
    | some u => exact absurd hL (s1.gr.al L (by rw [e]; exact fun z => by cases z))
  refine ⟨fun i m H => i + m = ds.length ∧ Lt M (Fact.mark Fw :: W) F0 H0 (wipe σ vs) (wipeS ss vs) L I i H, ⟨ds.length, by omega, Fw, [], O, h0, (s1.push hL).mark (.refl _)⟩, ?_⟩
  rintro i m H ⟨em, F, acc, O, hI, s⟩
  obtain ⟨s', e⟩ := s.unmark
  by_cases hi : i < ds.length
  · refine .inr ⟨w.go i H (e.trans s.fh) hi, Lt M (Fact.mark Fw :: W) F0 H0 (wipe σ vs) (wipeS ss vs) L I (i + 1), fun H' hN => ⟨m - 1, by omega, by omega, hN⟩, fun x H' hy => ?_⟩
    have hd' := List.getElem?_eq_getElem hi
    obtain ⟨F4, s4, hx⟩ := w.yld i H x H' F e s.fh hy _ hd'
    refine ⟨wipe_idem_set hj, ?_⟩
    exact hs L Fw i _ x F4 H' acc O hd' hI ((s.step s4).set hx) hx
  · have : i = ds.length := by omega
    subst this
    exact .inl ⟨w.stop H (e.trans s.fh), hd L F H acc O hI ⟨s'.gr, s0.env.mono (st.ff.trans e), s'.own, s'.nd, s'.mrk⟩ hL0⟩

/-! ### calls of defs that change nothing -/
/-- called with arguments of types Ts: a value of type T -/
def spP (R : List Ty → Ty → Prop) : Sp := fun vs H Q _ => ∃ F Ts T, Same F H ∧ All2 F vs Ts ∧ R Ts T ∧ ∀ v F2 H2, Stp F H F2 H2 → T.p v F2 → Q v H2
theorem ev_call {R : List Ty → Ty → Prop} {E : XK} {ta : TA} {Ts : List Ty} {T : Ty} (ha : EvA ta σ F Ts) (hR : R Ts T) : Ev (tCall (spP R) [] E ta) σ F T := fun H f Q q =>
  ha H f _ fun vs F2 H2 s hv => ⟨F2, Ts, T, s.fh, by rw [List.append_nil]; exact hv, hR, fun v F3 H3 s3 h => q v F3 H3 (s.trans s3) h⟩
end
end DL

set_option Elab.async false
set_option linter.all false
set_option maxRecDepth 100000
set_option maxHeartbeats 1200000
namespace DL
open Evl (sq_of st_of sz_of sz_lt rMax2 ixN_nat)
open L2 PySem PySem.Spec PyProof.Rows
/-! ### types of data -/
def tyD : PyData → String
  | .none => "NoneType"
  | .bool _ => "bool"
  | .int _ => "int"
  | .str _ => "str"
  | .list _ => "list"
  | .tuple _ => "tuple"
  | .dict _ => "dict"
section
variable {K : PySem.W.Frag} {H F : Hp} {v : V} {d e : PyData} {ds es : List PyData}
theorem dp_ty (h : Dp K H v d) : TyX K H v (.type (tyD d)) := by
  cases h with
  | non => exact .base .non
  | bl b => exact .base (.bl b)
  | int i => exact .base (.int i)
  | str x => exact .base (.str x)
  | lst hs _ =>
    rcases hs with (hs | ⟨o, hs⟩) | ⟨o, its, n, hk, hc, _⟩
    · exact .base (.lst hs)
    · exact .base (.frz hs)
    · exact .kList hk hc
  | tup hs _ =>
    rcases hs with (hs | ⟨o, hs⟩) | ⟨o, its, n, hk, hc, _⟩
    · exact .base (.tup hs)
    · exact .fTuple hs
    · exact .kTuple hk hc
/-- isinstance(d, n) -/
def isD (d : PyData) (n : String) : Bool := (kitB (tyD d) n).getD false
def okD (n : String) : Bool := ["NoneType", "bool", "int", "str", "list", "tuple", "dict"].all fun t => (kitB t n).isSome
theorem kit_is {n : String} (h : okD n = true) : PySem.W.kitOne K (.type (tyD d)) (.type n) = some (isD d n) := by
  unfold okD at h
  rw [List.all_eq_true] at h
  have h1 : (kitB (tyD d) n).isSome = true := by
    cases d <;> exact h _ (by simp [tyD])
  have h2 : kitB (tyD d) n = some (isD d n) := by
    unfold isD
    cases e : kitB (tyD d) n with
    | none => rw [e] at h1; cases h1
    | some b => rfl
  exact kit_ty h2
theorem rc_isi {n : String} (h : okD n = true) : RC (rIsi K) [TD K d, TX (.ty n)] F (TD K (.bool (isD d n))) := fun vs F1 H f f1 hv Q q => by
  match vs, hv with
  | [v, w], hv =>
    have e : w = .ty n := hv.2.1
    subst e
    exact ⟨v, .ty n, .type (tyD d), .type n, isD d n, rfl, .ty n, dp_ty (dp_mono f1 hv.1), kit_is h, q _ _ _ (Stp.refl f1) (.bl _)⟩
/-- a tuple of two classes, just made -/
def TCls (ns : List String) : Ty := ⟨fun v F => ∃ a, v = .ref a ∧ F a = some (.tup (ns.map .ty)), fun e ⟨a, h1, h2⟩ => ⟨a, h1, e _ _ h2⟩⟩
theorem all2_cls {vs : List V} : ∀ {ns : List String} {vs : List V}, All2 F vs (ns.map fun n => TX (.ty n)) → vs = ns.map .ty
  | [], [], _ => rfl
  | n :: ns, v :: vs, h => by
    have e : v = .ty n := h.1
    rw [e, all2_cls (vs := vs) (ns := ns) h.2]
    rfl
  | [], _ :: _, h => h.elim
  | _ :: _, [], h => h.elim
theorem ev_cls {σ : L2.St} {ta : TA} (ns : List String) (ha : EvA ta σ F (ns.map fun n => TX (.ty n))) (hl : ns.length ≤ 100000) : Ev (tTup ta) σ F (TCls ns) := fun H f Q q =>
  ha H f _ fun vs F1 H1 s1 hv => by
    have e := all2_cls (vs := vs) hv
    subst e
    refine ⟨sz_of (by rw [List.length_map]; exact hl), fun p hp => ?_⟩
    exact q (.ref p) _ _ (s1.alloc hp) ⟨p, rfl, upd_same⟩
def anyD (d : PyData) (ns : List String) : Bool := ns.any (isD d)
theorem kit_any : ∀ {ns : List String}, (ns.all okD) = true → PySem.W.kitAny K (.type (tyD d)) (ns.map Value.type) = some (anyD d ns)
  | [], _ => rfl
  | n :: ns, h => by
    rw [List.all_cons, Bool.and_eq_true] at h
    refine kitAny_cons (kit_is h.1) (fun e => ?_) (fun e => ?_)
    · rw [kit_any h.2]
      unfold anyD
      rw [List.any_cons, e, Bool.false_or]
    · unfold anyD
      rw [List.any_cons, e, Bool.true_or]
theorem paired_cls : ∀ ns : List String, Paired ClsV (ns.map V.ty) (ns.map Value.type)
  | [] => .nil
  | n :: ns => .cons (.ty n) (paired_cls ns)
theorem rc_isiT {ns : List String} (h : (ns.all okD) = true) : RC (rIsiT K) [TD K d, TCls ns] F (TD K (.bool (anyD d ns))) := fun vs F1 H f f1 hv Q q => by
  match vs, hv with
  | [v, w], hv =>
    obtain ⟨a, e, ha⟩ := hv.2.1
    subst e
    exact ⟨v, a, _, .type (tyD d), _, anyD d ns, rfl, f1 _ _ ha, paired_cls ns, dp_ty (dp_mono f1 hv.1), kit_any h, q _ _ _ (Stp.refl f1) (.bl _)⟩

/-! ### shapes -/
def Sn (n : Nat) (d : PyData) : Prop := d.canLay0 = true ∧ d.depth ≤ n
theorem Sn.sh {n : Nat} {d : PyData} (h : Sn n d) (hn : n ≤ 64) : Sh d := by
  unfold Sh SeqAt.shaped
  rw [h.1, Bool.true_and]
  exact decide_eq_true (Nat.le_trans h.2 hn)
theorem sn_all : ∀ {n : Nat} {ds : List PyData}, (∀ d ∈ ds, Sn n d) → PyData.canLayAll0 ds = true ∧ PyData.depthAll ds ≤ n
  | n, [], _ => ⟨rfl, Nat.zero_le _⟩
  | n, d :: ds, h => by
    have h1 := h d List.mem_cons_self
    have h2 := sn_all fun e he => h e (List.mem_cons_of_mem _ he)
    constructor
    · rw [PyData.canLayAll0, h1.1, h2.1]; rfl
    · rw [PyData.depthAll]
      exact Nat.max_le.mpr ⟨h1.2, h2.2⟩
theorem sn_tuple {n : Nat} {ds : List PyData} (h : ∀ d ∈ ds, Sn n d) : Sn (n + 1) (.tuple ds) := by
  obtain ⟨h1, h2⟩ := sn_all h
  exact ⟨by rw [PyData.canLay0]; exact h1, by rw [PyData.depth]; omega⟩
theorem sn_list {n : Nat} {ds : List PyData} (h : ∀ d ∈ ds, Sn n d) : Sn (n + 1) (.list ds) := by
  obtain ⟨h1, h2⟩ := sn_all h
  exact ⟨by rw [PyData.canLay0]; exact h1, by rw [PyData.depth]; omega⟩
theorem sn_int {n : Nat} {i : Int} : Sn n (.int i) := ⟨rfl, Nat.zero_le _⟩
theorem sn_bool {n : Nat} {b : Bool} : Sn n (.bool b) := ⟨rfl, Nat.zero_le _⟩
theorem sn_none {n : Nat} : Sn n .none := ⟨rfl, Nat.zero_le _⟩
theorem sn_str {n : Nat} {x : Str} (h : PyData.strOk x = true) : Sn n (.str x) := ⟨by rw [PyData.canLay0]; exact h, Nat.zero_le _⟩
theorem Sn.mono {n m : Nat} {d : PyData} (h : Sn n d) (k : n ≤ m) : Sn m d := ⟨h.1, Nat.le_trans h.2 k⟩
theorem sn_tupI {n : Nat} {ns : List Int} : Sn (n + 1) (tupI ns) := sn_tuple fun d hd => by
  obtain ⟨i, _, rfl⟩ := List.mem_map.mp hd
  exact sn_int
theorem sn_lstI {n : Nat} {ns : List Int} : Sn (n + 1) (lstI ns) := sn_list fun d hd => by
  obtain ⟨i, _, rfl⟩ := List.mem_map.mp hd
  exact sn_int
theorem sh_int {i : Int} : Sh (.int i) := (sn_int (n := 0)).sh (by decide)
theorem sh_bool {b : Bool} : Sh (.bool b) := (sn_bool (n := 0)).sh (by decide)
theorem sh_none : Sh .none := (sn_none (n := 0)).sh (by decide)
theorem sh_tupI {ns : List Int} : Sh (tupI ns) := (sn_tupI (n := 0)).sh (by decide)
theorem sh_lstI {ns : List Int} : Sh (lstI ns) := (sn_lstI (n := 0)).sh (by decide)
theorem sh_nilL : Sh (.list []) := sh_lstI (ns := [])
theorem sh_nilT : Sh (.tuple []) := sh_tupI (ns := [])

/-! ### when data are equal -/
theorem eqv_int {i j : Int} : PyData.eqv (.int i) (.int j) = decide (i = j) := by
  rw [PyData.eqv]
  exact Bool.beq_eq_decide_eq i j
theorem eqvAll_ints : ∀ {ns ms : List Int}, PyData.eqvAll (ns.map .int) (ms.map .int) = decide (ns = ms)
  | [], [] => rfl
  | [], _ :: _ => rfl
  | _ :: _, [] => rfl
  | n :: ns, m :: ms => by
    rw [List.map_cons, List.map_cons, PyData.eqvAll, eqv_int, eqvAll_ints]
    by_cases h1 : n = m
    · by_cases h2 : ns = ms
      · subst h1; subst h2; simp
      · simp [h1, h2]
    · simp [h1]
theorem eqv_tupI {ns ms : List Int} : PyData.eqv (tupI ns) (tupI ms) = decide (ns = ms) := by
  rw [PyData.eqv, eqvAll_ints]
theorem eqv_lstI {ns ms : List Int} : PyData.eqv (lstI ns) (lstI ms) = decide (ns = ms) := by
  rw [PyData.eqv, eqvAll_ints]
theorem eqv_self {n : Nat} {d : PyData} (h : Sn n d) : PyData.eqv d d = true := SeqAt.eqv_refl d h.1

/-! ### the beginning of a def's body -/
theorem S.start {N : List Str} {M : List Addr} {vs : List V} {Ts : List Ty} (e : Same F H) (q : All2 F vs Ts) : S M [] F H F H (L2.start N vs) (Ts.map some ++ List.replicate (N.length - Ts.length) none) [] :=
  ⟨.refl e, env_start q, fun _ h => (List.not_mem_nil h).elim, List.nodup_nil, fun _ h => (List.not_mem_nil h).elim⟩
theorem spP_len {R : List Ty → Ty → Prop} {vs : List V} {Q : VK} {E : XK} {n : Nat} (h : spP R vs H Q E) (k : ∀ Ts T, R Ts T → Ts.length = n) : vs.length = n := by
  obtain ⟨F, Ts, T, _, h2, h3, _⟩ := h
  rw [h2.len]
  exact k Ts T h3
/-- int or tuple or list of ints, as it may be passed -/
inductive SeqI : List Int → PyData → Prop
  | t (ns : List Int) : SeqI ns (tupI ns)
  | l (ns : List Int) : SeqI ns (lstI ns)
section
variable {σ : L2.St} {ss : List Sl} {te ta tb : TE} {T : Ty}
theorem ru_neg {i : Int} : RU (rU fun i => .int (-i)) (TD K (.int i)) F (TD K (.int (-i))) := fun x F1 H f f1 hx Q q =>
  ⟨i, dp_int hx, q _ F1 H (.refl f1) (.int _)⟩
theorem rc_len {ns : List Int} (h : SeqI ns d) : RC (rLen K) [TD K d] F (TD K (.int ns.length)) := by
  cases h with
  | t => have := rc_len_t (K := K) (F := F) (ds := ns.map .int); rwa [List.length_map] at this
  | l => have := rc_len_l (K := K) (F := F) (ds := ns.map .int); rwa [List.length_map] at this
theorem rv_ix {ns : List Int} {i n : Int} (h : SeqI ns d) (e : atI ns i = some n) : RV (rIx K) (TD K d) (TD K (.int i)) F (TD K (.int n)) := by
  have e' : atI (ns.map PyData.int) i = some (.int n) := by
    unfold atI at e ⊢
    rw [List.length_map]
    cases z : ixN ns.length i with
    | none => rw [z] at e; cases e
    | some k =>
      rw [z] at e
      have e2 : ns[k]? = some n := e
      show (ns.map PyData.int)[k]? = _
      rw [List.getElem?_map, e2]; rfl
  cases h with
  | t => exact rv_ixT e'
  | l => exact rv_ixL e'
theorem rn_list {ns : List Int} (h : SeqI ns d) : RCN K (rListOf K) [TD K d] F (ns.map .int) := by
  cases h with
  | t => exact rn_list_t
  | l => exact rn_list_l
theorem rc_tuple {ns : List Int} (h : SeqI ns d) : RC (rTupleOf K) [TD K d] F (TD K (tupI ns)) := by
  cases h with
  | t => exact rc_tuple_t
  | l => exact rc_tuple_l
theorem ei_enum {ns : List Int} (h : SeqI ns d) (he : Ev te σ F (TD K d)) : EvI K (iEnumA K (tCons te tNil)) σ F (enumD (ns.map .int)) := by
  cases h with
  | t => exact ei_enumT he
  | l => exact ei_enumL he
theorem ei_seq {ns : List Int} (h : SeqI ns d) (he : Ev te σ F (TD K d)) : EvI K (iSeq K te) σ F (ns.map .int) := by
  cases h with
  | t => exact ei_tuple he
  | l => exact ei_list he
end
end
end DL

set_option Elab.async false
set_option linter.all false
set_option maxRecDepth 100000
set_option maxHeartbeats 1200000
namespace DL
open Evl (sq_of st_of sz_of sz_lt rMax2 ixN_nat)
open L2 PySem PySem.Spec PyProof.Rows
section
variable {K : PySem.W.Frag} {σ : L2.St} {F H : Hp} {ta te : TE} {tA : TA} {ds es : List PyData} {d : PyData} {Ts : List Ty}
inductive Tds (K : PySem.W.Frag) : List Ty → List PyData → Prop
  | nil : Tds K [] []
  | cons {d : PyData} {Ts : List Ty} {ds : List PyData} : Tds K Ts ds → Tds K (TD K d :: Ts) (d :: ds)
theorem Tds.eq (h : Tds K Ts ds) : Ts = ds.map (TD K) := by
  induction h with
  | nil => rfl
  | cons _ ih => rw [ih]; rfl
theorem ev_tupT (ha : EvA tA σ F Ts) (h : Tds K Ts ds) (hl : ds.length ≤ 100000) : Ev (tTup tA) σ F (TD K (.tuple ds)) := by
  have e := h.eq
  subst e
  exact ev_tup ha hl
theorem en_lstT (ha : EvA tA σ F Ts) (h : Tds K Ts ds) (hl : ds.length ≤ 100000) : EvN K (tLst tA) σ F ds := by
  have e := h.eq
  subst e
  exact en_lst ha hl
theorem rs_slT {lo hi : Option Int} : RS (rSl K) (TD K (.tuple ds)) lo hi F (TD K (.tuple (cutD ds lo hi))) := fun x F1 H f f1 hx Q q => by
  obtain ⟨a, xs, rfl, h1, h2⟩ := dp_tuple hx
  refine .inr ⟨a, xs, rfl, same_t f1 h1, fun e => ?_, fun _ p hp => ?_⟩
  · have : cutD ds lo hi = ds := by
      unfold cutD
      rw [dpAll_len h2] at e
      rw [e.1, e.2, List.drop_zero, Nat.sub_zero, List.take_length]
    rw [this] at q
    exact q _ F1 H (.refl f1) hx
  · exact q _ _ _ ((Stp.refl f1).alloc hp) (.tup (st_of upd_same) (dpAll_mono (same_new (fresh_back f1 hp)) (dpAll_cut h2)))
/-- [f(x) for x in ..] -/
theorem en_map {wi : TI} {te : TE} {vs : List Nat} {j : Nat} (hj : j ∈ vs) (hw : EvI K wi σ F ds) (f : PyData → PyData) (hl : ds.length ≤ 100000)
    (he : ∀ d F' x, d ∈ ds → Same F F' → Dp K F' x d → Ev te ((wipe σ vs).set j (some x)) F' (TD K (f d))) : EvN K (tLc wi (gName j) tYes te vs) σ F (ds.map f) := by
  have h := en_lc (te := te) (tt := tYes) hj hw (fun _ => true) (fun i => f (ds.getD i .none)) hl (fun _ _ _ _ _ _ _ => et_yes) fun i d F' x hi _ e hx => by
    have e1 : ds.getD i .none = d := by rw [List.getD_eq_getElem?_getD, hi]; rfl
    rw [e1]
    exact he d F' x (List.mem_of_getElem? hi) e hx
  have e : ((List.range ds.length).filter fun _ => true).map (fun i => f (ds.getD i .none)) = ds.map f := by
    rw [List.filter_eq_self.mpr (fun _ _ => rfl)]
    apply List.ext_getElem?
    intro i
    rw [List.getElem?_map, List.getElem?_map]
    by_cases hi : i < ds.length
    · rw [List.getElem?_range hi, List.getElem?_eq_getElem hi]
      show some (f (ds.getD i .none)) = some (f ds[i])
      rw [List.getD_eq_getElem?_getD, List.getElem?_eq_getElem hi]; rfl
    · rw [List.getElem?_eq_none (by simp; omega), List.getElem?_eq_none (by omega)]; rfl
  rw [e] at h
  exact h
end
/-! ### whole numbers within data -/
def isIntD (d : PyData) : Bool := isD d "int" && !isD d "bool"
theorem isIntD_iff {d : PyData} : isIntD d = true ↔ ∃ i, d = .int i := by
  cases d with
  | int i => exact ⟨fun _ => ⟨i, rfl⟩, fun _ => by show ((kitB "int" "int").getD false && !(kitB "int" "bool").getD false) = true; decide +kernel⟩
  | none => exact ⟨fun h => absurd h (by show ¬ (isD .none "int" && !isD .none "bool") = true; decide +kernel), fun ⟨_, h⟩ => by cases h⟩
  | bool b => exact ⟨fun h => absurd h (by show ¬ ((kitB "bool" "int").getD false && !(kitB "bool" "bool").getD false) = true; decide +kernel), fun ⟨_, h⟩ => by cases h⟩
  | str b => exact ⟨fun h => absurd h (by show ¬ ((kitB "str" "int").getD false && !(kitB "str" "bool").getD false) = true; decide +kernel), fun ⟨_, h⟩ => by cases h⟩
  | list b => exact ⟨fun h => absurd h (by show ¬ ((kitB "list" "int").getD false && !(kitB "list" "bool").getD false) = true; decide +kernel), fun ⟨_, h⟩ => by cases h⟩
  | tuple b => exact ⟨fun h => absurd h (by show ¬ ((kitB "tuple" "int").getD false && !(kitB "tuple" "bool").getD false) = true; decide +kernel), fun ⟨_, h⟩ => by cases h⟩
  | dict b => exact ⟨fun h => absurd h (by show ¬ ((kitB "dict" "int").getD false && !(kitB "dict" "bool").getD false) = true; decide +kernel), fun ⟨_, h⟩ => by cases h⟩
def intD : PyData → Option Int
  | .int i => some i
  | _ => none
def intsD : List PyData → Option (List Int)
  | [] => some []
  | d :: ds => match intD d, intsD ds with
    | some i, some is => some (i :: is)
    | _, _ => none
def numsD : PyData → Option (List Int)
  | .list ds => intsD ds
  | .tuple ds => intsD ds
  | _ => none
theorem intsD_map : ∀ ns : List Int, intsD (ns.map .int) = some ns
  | [] => rfl
  | n :: ns => by rw [List.map_cons, intsD, intsD_map ns]; rfl
theorem intsD_some : ∀ {ds : List PyData} {ns : List Int}, intsD ds = some ns → ds = ns.map .int
  | [], ns, h => by cases h; rfl
  | d :: ds, ns, h => by
    cases d with
    | int i =>
      rw [intsD] at h
      cases e : intsD ds with
      | none => rw [e] at h; cases h
      | some is =>
        rw [e] at h
        cases h
        rw [intsD_some e]; rfl
    | _ => cases h
theorem intsD_all : ∀ ds : List PyData, ds.all isIntD = (intsD ds).isSome
  | [] => rfl
  | d :: ds => by
    rw [List.all_cons, intsD_all ds]
    cases e : isIntD d with
    | true =>
      obtain ⟨i, rfl⟩ := isIntD_iff.mp e
      rw [intsD]
      cases intsD ds <;> rfl
    | false =>
      cases d with
      | int i => rw [isIntD_iff.mpr ⟨i, rfl⟩] at e; cases e
      | _ => rfl
theorem numsD_some {d : PyData} {ns : List Int} (h : numsD d = some ns) : SeqI ns d := by
  cases d with
  | list ds => rw [intsD_some h]; exact .l ns
  | tuple ds => rw [intsD_some h]; exact .t ns
  | _ => cases h
theorem SeqI.nums {d : PyData} {ns : List Int} (h : SeqI ns d) : numsD d = some ns := by
  cases h with
  | t => exact intsD_map ns
  | l => exact intsD_map ns
instance (ns : List Int) : Decidable (Po.Ct ns) := inferInstanceAs (Decidable (Po.trim ns = ns))
/-- counts among data -/
def isCtD (d : PyData) : Bool := match numsD d with
  | some ns => decide (Po.Ct ns)
  | none => false
theorem isCtD_some {d : PyData} (h : isCtD d = true) : ∃ ns, SeqI ns d ∧ Po.Ct ns := by
  unfold isCtD at h
  cases e : numsD d with
  | none => rw [e] at h; cases h
  | some ns => rw [e] at h; exact ⟨ns, numsD_some e, of_decide_eq_true h⟩
theorem SeqI.ct {d : PyData} {ns : List Int} (h : SeqI ns d) : isCtD d = decide (Po.Ct ns) := by
  unfold isCtD
  rw [h.nums]
/-- is, is not: of None, of truths -/
def rIsAny : R2 := fun x y H Q => rIsNA x y H Q ∨ rIsB x y H Q
def rIsNotAny : R2 := fun x y H Q => rIsNotA x y H Q ∨ rNotB x y H Q
theorem op_isA {X : Cx} : OpR X (compareOp .Is) rIsAny := OpR.or op_isNA op_isBl
theorem op_isNotAA {X : Cx} : OpR X (compareOp .IsNot) rIsNotAny := OpR.or op_isNotA op_notBl
section
variable {K : PySem.W.Frag} {F : Hp} {d : PyData}
theorem rv_isNA : RV rIsAny (TD K d) (TD K .none) F (TD K (.bool (isNone d))) := fun x y F1 H f f1 hx hy Q q => .inl (rv_isN x y F1 H f f1 hx hy Q q)
theorem rv_isNotA : RV rIsNotAny (TD K d) (TD K .none) F (TD K (.bool (!isNone d))) := fun x y F1 H f f1 hx hy Q q => .inl (rv_isNot x y F1 H f f1 hx hy Q q)
theorem rv_isB {a b : Bool} : RV rIsAny (TD K (.bool a)) (TD K (.bool b)) F (TD K (.bool (decide (a = b)))) := fun x y F1 H f f1 hx hy Q q => .inr ⟨a, b, dp_bool hx, dp_bool hy, q _ F1 H (.refl f1) (.bl _)⟩
theorem rv_isNotB {a b : Bool} : RV rIsNotAny (TD K (.bool a)) (TD K (.bool b)) F (TD K (.bool (!decide (a = b)))) := fun x y F1 H f f1 hx hy Q q => .inr ⟨a, b, dp_bool hx, dp_bool hy, q _ F1 H (.refl f1) (.bl _)⟩
end
theorem S.startL {N : List Str} {M : List Addr} {vs : List V} {Ts : List Ty} {F H : Hp} (ss : List Sl) (e : Same F H) (q : All2 F vs Ts) (h : Ts.map some ++ List.replicate (N.length - Ts.length) none = ss := by rfl) : S M [] F H F H (L2.start N vs) ss [] := h ▸ S.start e q
end DL

set_option Elab.async false
set_option linter.all false
set_option maxRecDepth 100000
set_option maxHeartbeats 4200000
namespace DL
open Evl (sq_of st_of sz_of sz_lt rMax2 ixN_nat)
open L2 PySem PySem.Spec PyProof.Rows
open Sem (wp)
open AutoSeq1 (wpAny_loadPart') -- own reading
theorem tuple_mul1 (l : Addr) (all0 : Array Value) (n : Nat) (dc : Option Addr) (sl0 : Array (Option Value)) (k : Int) (t : Tok) (far : (decide (k < -(2 ^ 63)) || decide (k ≥ 2 ^ 63)) = false) (one : (all0.isEmpty || k == 1) = true) :
    Meets (Builtin.«tuple.__mul__» ⟨[.ref l, .int k t], []⟩) (fun _ R t0 => t0.heap.get? l = some { cls := .type "tuple", dict := dc, data := .seq all0 n, slots := sl0 } ∧ R (.ok (.ret (Value.ref l))) t0) :=
  .of_wp fun pg w Ar R t0 hc0 => by
    obtain ⟨h0, g0, d0, k0, o0⟩ := t0
    obtain ⟨kl, hc0⟩ := hc0
    have fi := AutoSeq1.idx_int
    wp_walk using wpAny_loadPart' kl
    repeat (first
      | (refine wpAny_ite_false (decide_eq_false (by rw [far]; exact Bool.false_ne_true)) ?_; wp_walk using wpAny_loadPart' kl)
      | (refine wpAny_ite_true (decide_eq_true one) ?_; wp_walk using wpAny_loadPart' kl))
    exact ⟨_, rfl, hc0⟩
theorem tuple_mul0 (l : Addr) (all0 : Array Value) (n : Nat) (dc : Option Addr) (sl0 : Array (Option Value)) (k : Int) (t : Tok) (far : (decide (k < -(2 ^ 63)) || decide (k ≥ 2 ^ 63)) = false) (one : (all0.isEmpty || k == 1) = false) (nil0 : (decide (k ≤ 0) || all0.isEmpty) = true) :
    Meets (Builtin.«tuple.__mul__» ⟨[.ref l, .int k t], []⟩) (fun _ R t0 => t0.heap.get? l = some { cls := .type "tuple", dict := dc, data := .seq all0 n, slots := sl0 } ∧
      R (.ok (.ret (Value.ref t0.heap.objs.size))) { t0 with heap := t0.heap.push { cls := Value.type "tuple", data := Data.seq #[] }, toks := t0.toks }) :=
  .of_wp fun pg w Ar R t0 hc0 => by
    obtain ⟨h0, g0, d0, k0, o0⟩ := t0
    obtain ⟨kl, hc0⟩ := hc0
    have fi := AutoSeq1.idx_int
    wp_walk using wpAny_loadPart' kl
    repeat (first
      | (refine wpAny_ite_false (decide_eq_false (by rw [far]; exact Bool.false_ne_true)) ?_; wp_walk using wpAny_loadPart' kl)
      | (refine wpAny_ite_false (decide_eq_false (by rw [one]; exact Bool.false_ne_true)) ?_; wp_walk using wpAny_loadPart' kl)
      | (refine wpAny_ite_true (decide_eq_true nil0) ?_; wp_walk using wpAny_loadPart' kl))
    exact ⟨_, rfl, hc0⟩

/-- tuple * int -/
def rRepTA (K : PySem.W.Frag) : R2 := fun x0 y H Q => ∃ l k xs, x0 = .ref l ∧ y = .int k ∧ SqT K H l xs ∧ -1000 ≤ k ∧ k ≤ 1000 ∧ xs.length ≤ 1000 ∧
  (xs = [] ∨ k = 1 → Q (.ref l) H) ∧ (xs ≠ [] → k ≠ 1 → ∀ p, H p = none → Q (.ref p) (upd H p (.tup (List.replicate k.toNat xs).flatten)))
section
variable {X : Cx}
theorem op_repTA : OpR X (binaryOp .Mult) (rRepTA X.K) := by
  intro pn s σ H x0 y v u0 Q J rx ry h
  obtain ⟨l, k, xs, rfl, rfl, isT, h1, h2, hz, q1, q2⟩ := h
  by_cases hbig : xs ≠ [] ∧ 2 ≤ k
  · exact op_repT pn s σ H _ _ v u0 Q J rx ry ⟨l, k, xs, rfl, rfl, isT, hbig.1, hbig.2, h2, hz, q2 hbig.1 (by omega)⟩
  · cases rx
    obtain ⟨t, rfl⟩ := ry
    obtain ⟨ys, rl, ⟨⟨cls, dc, data, sl0⟩, ko, hc, n, hd⟩, _⟩ := J.tuple isT
    simp only at hc hd
    subst hc hd
    have hle : ys.length = xs.length := rl.length.symm
    have hi : ys.toArray.isEmpty = xs.isEmpty := by
      cases ys with
      | nil =>
        cases xs with
        | nil => rfl
        | cons a b => cases hle
      | cons a b =>
        cases xs with
        | nil => cases hle
        | cons a b => rfl
    have far : (decide (k < -(2 ^ 63)) || decide (k ≥ 2 ^ 63)) = false := by
      rw [decide_eq_false (by omega), decide_eq_false (by omega)] <;> rfl
    by_cases hsame : xs = [] ∨ k = 1
    · have one : (ys.toArray.isEmpty || k == 1) = true := by
        rw [hi]
        rcases hsame with e | e
        · subst e; rfl
        · subst e; simp
      refine wpAny_binaryOp_repeat_ref (T := "tuple") (U := "int") (by decide) ⟨_, ko, rfl⟩ (fun s' => typeIs_int s' k t) noFill_tuple_mul F.fills_int_mul F.slot_int_rmul repeat_tuple F.slot_int_index.lookup
        (call_meets F.slot_int_rmul (typeIs_int s k t) F.entry_int_rmul (F.args_int_rmul_2 _ _) (int_rmul_tuple k t l ys.toArray n dc sl0)
          ⟨ko, rfl, ⟨_, ko, rfl⟩, call_meets F.slot_tuple_mul ⟨_, ko, rfl⟩ F.entry_tuple_mul (F.args_tuple_mul_2 _ _) (tuple_mul1 l ys.toArray n dc sl0 k t far one) ⟨ko, ?_⟩⟩)
      exact ⟨.ref l, H, J, rfl, q1 hsame⟩
    · have hne : xs ≠ [] := fun z => hsame (.inl z)
      have hk1 : k ≠ 1 := fun z => hsame (.inr z)
      have hk : k ≤ 0 := by
        have : ¬ 2 ≤ k := fun z => hbig ⟨hne, z⟩
        omega
      have hxe : xs.isEmpty = false := by
        cases xs with
        | nil => exact absurd rfl hne
        | cons a b => rfl
      have one : (ys.toArray.isEmpty || k == 1) = false := by
        rw [hi, hxe, Bool.false_or]
        exact beq_eq_false_iff_ne.mpr hk1
      have nil0 : (decide (k ≤ 0) || ys.toArray.isEmpty) = true := by
        rw [decide_eq_true hk]; rfl
      refine wpAny_binaryOp_repeat_ref (T := "tuple") (U := "int") (by decide) ⟨_, ko, rfl⟩ (fun s' => typeIs_int s' k t) noFill_tuple_mul F.fills_int_mul F.slot_int_rmul repeat_tuple F.slot_int_index.lookup
        (call_meets F.slot_int_rmul (typeIs_int s k t) F.entry_int_rmul (F.args_int_rmul_2 _ _) (int_rmul_tuple k t l ys.toArray n dc sl0)
          ⟨ko, rfl, ⟨_, ko, rfl⟩, call_meets F.slot_tuple_mul ⟨_, ko, rfl⟩ F.entry_tuple_mul (F.args_tuple_mul_2 _ _) (tuple_mul0 l ys.toArray n dc sl0 k t far one nil0) ⟨ko, ?_⟩⟩)
      have e0 : k.toNat = 0 := by omega
      have q := q2 hne hk1
      rw [e0] at q
      refine ⟨.ref s.heap.objs.size, _, J.laid (t' := s.toks) (o := .tup []) (fun b ob q => Heap.get?_push_of_some _ q) (Nat.le_refl _) ?_, rfl, q _ (J.hok.fresh (Nat.le_refl _))⟩
      exact ⟨Nat.zero_le _, [], .nil, IsTup.new _ _⟩
end
def rMulB (K : PySem.W.Frag) : R2 := fun x y H Q => rMulA K x y H Q ∨ rRepTA K x y H Q
theorem op_mulAll {X : Cx} : OpR X (binaryOp .Mult) (rMulB X.K) := OpR.or op_mulAny op_repTA
section
variable {K : PySem.W.Frag} {F : Hp} {σ : L2.St} {ta tb : TE} {i j k : Int} {ds : List PyData}
theorem rv_mulB (h : CMulA i j) : RV (rMulB K) (TD K (.int i)) (TD K (.int j)) F (TD K (.int (i * j))) := fun x y F1 H f f1 hx hy Q q => .inl (rv_mul h x y F1 H f f1 hx hy Q q)
theorem en_repB (ha : EvN K ta σ F ds) (hb : Ev tb σ F (TD K (.int k))) (hk : -100000 ≤ k ∧ k ≤ 100000) (hl : ds.length * k.toNat ≤ 100000) : EvN K (tOp (rMulB K) ta tb) σ F (List.replicate k.toNat ds).flatten := fun H f Q q =>
  ha H f _ fun p xs F1 H1 s1 hp hd => by
    have s2 := s1.alloc (o := .lst xs) hp
    refine (hb.up s2.ff) _ s2.fh _ fun y F3 H3 s3 hy => ?_
    rw [dp_int hy]
    have e : H3 p = some (.lst xs) := s3.hh p _ upd_same
    refine .inl (.inr ⟨p, k, xs, rfl, rfl, e, by omega, by omega, sz_of (by rw [dpAll_len hd]; exact hl), fun r hr => ?_⟩)
    exact q r _ F3 H3 (s2.trans s3) hr (dpAll_rep (dpAll_mono ((same_new (fresh_back s1.fh hp)).trans s3.ff) hd) _)
theorem rv_repT (hk : -1000 ≤ k ∧ k ≤ 1000) (hl : ds.length ≤ 1000) : RV (rMulB K) (TD K (.tuple ds)) (TD K (.int k)) F (TD K (.tuple (List.replicate k.toNat ds).flatten)) := fun x y F1 H f f1 hx hy Q q => by
  obtain ⟨a, xs, rfl, h1, h2⟩ := dp_tuple hx
  rw [dp_int hy]
  refine .inr ⟨a, k, xs, rfl, rfl, same_t f1 h1, hk.1, hk.2, by rw [dpAll_len h2]; exact hl, fun e => ?_, fun _ _ p hp => ?_⟩
  · refine q _ F1 H (.refl f1) ?_
    have e2 : (List.replicate k.toNat ds).flatten = ds := by
      rcases e with e | e
      · subst e
        cases h2
        simp
      · subst e
        simp
    rw [e2]
    exact hx
  · exact q _ _ _ ((Stp.refl f1).alloc hp) (.tup (st_of upd_same) (dpAll_rep (dpAll_mono (same_new (fresh_back f1 hp)) h2) _))
theorem en_is {te : TE} {es : List PyData} (h : EvN K te σ F ds) (e : ds = es) : EvN K te σ F es := e ▸ h
theorem rep_ints {n : Int} {k : Nat} : (List.replicate k [PyData.int n]).flatten = (List.replicate k n).map .int := by
  induction k with
  | zero => rfl
  | succ k ih => rw [List.replicate_succ, List.flatten_cons, ih]; rfl
variable {M : List Addr} {W : List Fact} {F0 H0 H : Hp} {ss : List Sl} {O : Ow}
/-- an owned list of ints given up: data from now on -/
theorem S.freezeI {j i : Nat} {p : Addr} {ns : List Int} (s : S M W F0 H0 F H σ ss O) (h : O[j]? = some (p, .lst (ns.map V.int))) (hp : H0 p = none) (hi : ss[i]? = some (some (TX (.ref p)))) :
    S M W F0 H0 (upd F p (.lst (ns.map V.int))) H σ (ss.set i (some (TD K (lstI ns)))) (O.eraseIdx j) :=
  (s.freeze h hp).re hi fun v e => by
    have e' : v = .ref p := e
    subst e'
    exact .lst (sq_of upd_same) (dpAll_ints ns)
end
end DL

set_option Elab.async false
set_option linter.all false
set_option maxRecDepth 100000
set_option maxHeartbeats 4200000
namespace DL
open Evl (sq_of st_of sz_of sz_lt rMax2 ixN_nat)
open PySem PySem.Spec L2
def smallD (d : PyData) : Prop := ∀ ds, d = .list ds ∨ d = .tuple ds → ds.length ≤ 100000
theorem SeqI.small {ns : List Int} {d : PyData} (h : SeqI ns d) (hl : ns.length ≤ 100000) : smallD d := fun ds e => by
  cases h with
  | t => rcases e with e | e <;> cases e; rw [List.length_map]; exact hl
  | l => rcases e with e | e <;> cases e; rw [List.length_map]; exact hl
theorem atI_lastI {ns : List Int} (h : ns ≠ []) : atI ns (-1) = some (Po.co ns (ns.length - 1)) := by
  have hl : 0 < ns.length := List.length_pos_iff.mpr h
  have e : ixN ns.length (-1) = some (ns.length - 1) := by
    unfold ixN
    rw [if_neg (by decide), if_pos (by omega)]
    congr 1
    omega
  unfold atI
  rw [e]
  exact Po.co_at (by omega)
theorem ct_iff {ns : List Int} : decide (Po.Ct ns) = (decide ((ns.length : Int) = 0) || !decide (Po.co ns (ns.length - 1) = 0)) := by
  by_cases h : ns = []
  · subst h; rfl
  · have h1 : ¬ ((ns.length : Int) = 0) := by
      have := List.length_pos_iff.mpr h
      omega
    rw [decide_eq_false h1, Bool.false_or]
    by_cases h2 : Po.co ns (ns.length - 1) = 0
    · rw [decide_eq_true h2, decide_eq_false (fun c => Po.ct_last c h h2)]; rfl
    · rw [decide_eq_false h2, decide_eq_true (Po.ct_of_last fun _ => h2)]; rfl
theorem cut_take {ns : List Int} {m : Nat} (h : m ≤ ns.length) : cutD (ns.map .int) none (some (m : Int)) = (ns.take m).map .int := by
  unfold cutD
  rw [HT.sIx_none, HT.sIx_nat, List.length_map, Nat.min_eq_left h, List.drop_zero, Nat.sub_zero, List.map_take]
theorem atI_pred {ns : List Int} {m : Nat} (h : m ≤ ns.length) (h0 : 0 < m) : atI ns ((m : Int) - 1) = some (Po.co ns (m - 1)) := by
  have e : (m : Int) - 1 = ((m - 1 : Nat) : Int) := by omega
  rw [e]
  exact atI_nat (Po.co_at (by omega))
theorem ints_set {ns : List Int} {i : Nat} {x : Int} : (ns.map V.int).set i (.int x) = (ns.set i x).map V.int := by rw [List.map_set]
theorem ints_get {ns : List Int} {i : Nat} (h : i < ns.length) : (ns.map V.int)[i]? = some (.int (Po.co ns i)) := by
  rw [List.getElem?_map, Po.co_at h]; rfl
theorem enum_ints {ns : List Int} {i : Nat} {e : PyData} (h : (enumD (ns.map .int))[i]? = some e) : i < ns.length ∧ e = .tuple [.int (i : Nat), .int (Po.co ns i)] := by
  obtain ⟨d, h1, rfl⟩ := enumD_at h
  rw [List.getElem?_map] at h1
  cases e : ns[i]? with
  | none => rw [e] at h1; cases h1
  | some x =>
    rw [e] at h1
    cases h1
    exact ⟨(List.getElem?_eq_some_iff.mp e).1, by rw [Po.co_some e]⟩
def optD : Option Int → PyData
  | some i => .int i
  | none => .none
def withinD (d : PyData) (lo hi : Option Int) : Bool := match d with
  | .int i => (lo.all fun l => decide (l ≤ i)) && (hi.all fun h => decide (i ≤ h))
  | _ => false

theorem inner_popped {ns : List Int} : (ns.map V.int).dropLast = ns.dropLast.map V.int := by rw [List.map_dropLast]
theorem ints_ne {ns : List Int} (h : ns ≠ []) : ns.map V.int ≠ [] := fun z => h (List.map_eq_nil_iff.mp z)
end DL

set_option Elab.async false
set_option linter.all false
set_option maxRecDepth 100000
set_option maxHeartbeats 1200000
/-! joining ways; the pen of a law: a list that draws change; ints within bounds -/
namespace DL
open Evl (sq_of st_of sz_of sz_lt rMax2 ixN_nat)
open L2 PySem PySem.Spec PyProof.Rows
/-- two ways that go on alike -/
theorem join {G : Prop} {N : L2.St → Hp → Prop} (A : L2.St → Hp → Prop) (h1 : (∀ σ H, A σ H → N σ H) → G) (h2 : ∀ σ H, A σ H → N σ H) : G := h1 h2
/-- an int of absolute value below B; from 0 below m; any int -/
def TB (B : Int) : Ty := ⟨fun v _ => ∃ i : Int, v = .int i ∧ -B < i ∧ i < B, fun _ h => h⟩
def TR (m : Int) : Ty := ⟨fun v _ => ∃ i : Int, v = .int i ∧ 0 ≤ i ∧ i < m, fun _ h => h⟩
def TZ : Ty := ⟨fun v _ => ∃ i : Int, v = .int i, fun _ h => h⟩
section
variable {K : PySem.W.Frag} {σ : L2.St} {F H : Hp} {te ta tb : TE} {i m n : Int} {B C D : Int}
theorem eb_of (h : Ev te σ F (TD K (.int i))) (hi : -B < i ∧ i < B) : Ev te σ F (TB B) := ev_weak h fun v F' _ hv => ⟨i, dp_int hv, hi⟩
theorem eb_r (h : Ev te σ F (TR m)) (hB : m ≤ B) (h0 : 0 < B) : Ev te σ F (TB B) := ev_weak h fun v F' _ ⟨i, e, h1, h2⟩ => ⟨i, e, by omega, by omega⟩
theorem eb_z (h : Ev te σ F (TB B)) : Ev te σ F TZ := ev_weak h fun v F' _ ⟨i, e, _⟩ => ⟨i, e⟩
theorem ez_r (h : Ev te σ F (TR m)) : Ev te σ F TZ := ev_weak h fun v F' _ ⟨i, e, _⟩ => ⟨i, e⟩
theorem ez_of (h : Ev te σ F (TD K (.int i))) : Ev te σ F TZ := ev_weak h fun v F' _ hv => ⟨i, dp_int hv⟩
theorem eb_add (h1 : Ev ta σ F (TB B)) (h2 : Ev tb σ F (TB C)) (hD : B + C ≤ D) : Ev (tOp (rAddA K) ta tb) σ F (TB D) := ev_op h1 h2 fun x y F1 H f f1 hx hy Q q => by
  obtain ⟨i, rfl, a1, a2⟩ := hx
  obtain ⟨j, rfl, b1, b2⟩ := hy
  exact .inl (.inl ⟨i, j, rfl, rfl, q _ F1 H (.refl f1) ⟨_, rfl, by omega, by omega⟩⟩)
theorem eb_mul (h1 : Ev ta σ F (TB B)) (h2 : Ev tb σ F (TB C)) (hB : B ≤ 2 ^ 64) (hD : B * C ≤ D) : Ev (tOp (rMulB K) ta tb) σ F (TB D) := ev_op h1 h2 fun x y F1 H f f1 hx hy Q q => by
  obtain ⟨i, rfl, a1, a2⟩ := hx
  obtain ⟨j, rfl, b1, b2⟩ := hy
  refine .inl (.inl ⟨i, j, rfl, rfl, .inl (.inl ⟨by omega, by omega⟩), q _ F1 H (.refl f1) ⟨_, rfl, ?_⟩⟩)
  have h : (i * j).natAbs < (B * C).natAbs := by
    rw [Int.natAbs_mul, Int.natAbs_mul]
    exact Nat.mul_lt_mul'' (by omega) (by omega)
  have h0 : 0 ≤ B * C := Int.mul_nonneg (by omega) (by omega)
  omega
theorem ez_pow (h1 : Ev ta σ F (TB B)) (h2 : Ev tb σ F (TD K (.int n))) (hB : B ≤ 2 ^ 64) (hn : 0 ≤ n ∧ n ≤ 1000000) : Ev (tOp rPowA ta tb) σ F TZ := ev_op h1 h2 fun x y F1 H f f1 hx hy Q q => by
  obtain ⟨i, rfl, a1, a2⟩ := hx
  rw [dp_int hy]
  exact ⟨i, n, rfl, rfl, ⟨hn.1, hn.2, by omega⟩, q _ F1 H (.refl f1) ⟨_, rfl⟩⟩
theorem fmod_bd {x m : Int} (h : 0 < m) : 0 ≤ x.fmod m ∧ x.fmod m < m := by
  rw [Int.fmod_eq_emod_of_nonneg x (by omega)]
  exact ⟨Int.emod_nonneg x (by omega), Int.emod_lt_of_pos x h⟩
theorem er_mod (h1 : Ev ta σ F TZ) (h2 : Ev tb σ F (TD K (.int m))) (hm : 0 < m) : Ev (tOp rModA ta tb) σ F (TR m) := ev_op h1 h2 fun x y F1 H f f1 hx hy Q q => by
  obtain ⟨i, rfl⟩ := hx
  rw [dp_int hy]
  have := fmod_bd (x := i) hm
  exact ⟨i, m, rfl, rfl, by omega, q _ F1 H (.refl f1) ⟨_, rfl, this.1, this.2⟩⟩
theorem ez_div (h1 : Ev ta σ F TZ) (h2 : Ev tb σ F (TD K (.int m))) (hm : m ≠ 0 ∧ m.natAbs < 1073741824) : Ev (tOp rDivA ta tb) σ F TZ := ev_op h1 h2 fun x y F1 H f f1 hx hy Q q => by
  obtain ⟨i, rfl⟩ := hx
  rw [dp_int hy]
  exact ⟨i, m, rfl, rfl, cdiv_of (b := 30) hm.1 (by have := hm.2; omega) (by decide) (by decide), q _ F1 H (.refl f1) ⟨_, rfl⟩⟩
theorem ez_int (h1 : Ev ta σ F TZ) : Ev (tCB rInt (tCons ta tNil)) σ F TZ := ev_cb (Ts := [TZ]) (ea_cons h1 ea_nil) fun vs F1 H f f1 hv Q q => by
  match vs, hv with
  | [v], hv =>
    obtain ⟨i, rfl⟩ := hv.1
    exact .inl ⟨i, rfl, q _ F1 H (.refl f1) ⟨_, rfl⟩⟩
theorem ez_var {ss : List Sl} {j : Nat} (E : Env F σ ss) (h : ss[j]? = some (some (TD K (.int i)))) : Ev (tVar j) σ F TZ := ez_of (ev_var E h)
/-- an item of a list of exact values -/
theorem rv_ixX {xs : List V} {v : V} {T3 : Ty} (e : atI xs i = some v) (hv : ∀ F', Same F F' → T3.p v F') : RV (rIx K) (TL K xs) (TD K (.int i)) F T3 := fun x y F1 H f f1 hx hy Q q => by
  obtain ⟨a, rfl, ha⟩ := hx
  rw [dp_int hy]
  exact .inl ⟨a, xs, i, v, rfl, rfl, same_l f1 ha, e, q v F1 H (.refl f1) (hv F1 f)⟩
variable {M : List Addr} {W : List Fact} {F0 H0 F2 H2 : Hp} {ss : List Sl} {O : Ow} {D' : Ends}
/-- behind a call that may have changed the owned object at p -/
theorem S.call {k : Nat} {p : Addr} {o o' : HO} (s : S M W F0 H0 F H σ ss O) (h : O[k]? = some (p, o)) (g : Gr [p] F H F2 H2) (hF : F2 p = none) (hH : H2 p = some o') : S M W F0 H0 F2 H2 σ ss (O.set k (p, o')) where
  gr := s.gr.trans g fun q hq => by
    have e : q = p := by simpa using hq
    subst e
    exact (s.mem h).2.2
  env := s.env.mono g.ff
  own := fun q hq => by
    obtain ⟨j, hj⟩ := List.getElem?_of_mem hq
    rw [List.getElem?_set] at hj
    split at hj
    · split at hj
      · cases hj
        exact ⟨hF, hH, (s.mem h).2.2⟩
      · cases hj
    · rename_i hne
      have hn := nodup_idx s.nd h hj (Ne.symm hne)
      obtain ⟨g1, g2, g3⟩ := s.own q (List.mem_of_getElem? hj)
      exact ⟨g.nw _ g1 (by rw [g2]; exact fun z => by cases z), g.hh _ _ (by simpa using hn) g2, g3⟩
  nd := by
    have e : (O.set k (p, o')).map (·.1) = O.map (·.1) := by
      rw [List.map_set]
      obtain ⟨h1, h2⟩ := List.getElem?_eq_some_iff.mp h
      have : p = (O.map (·.1))[k]'(by simpa using h1) := by simp [h2]
      rw [this]
      exact List.set_getElem_self _
    rw [e]
    exact s.nd
  mrk := fun m hm => m.m g.ff (s.mrk m hm)
/-- the pen: its cells at c, so many begun, what a great one has left -/
structure Pn (K : PySem.W.Frag) (F : Hp) (c : Addr) (cells : List Int) (t r n : Int) : Prop where
  cl : SqL K F c (cells.map V.int)
  ln : cells.length ≤ 60
  t0 : 0 ≤ t
  tn : t ≤ n
  r0 : 0 ≤ r
abbrev penO (c : Addr) (t r : Int) : HO := .lst [.ref c, .int t, .int r]
def fCell (K : PySem.W.Frag) (c : Addr) (cells : List Int) : Fact := ⟨fun F => SqL K F c (cells.map V.int) ∧ cells.length ≤ 60, fun e h => ⟨same_l e h.1, h.2⟩⟩
/-- a def that draws: called with the pen and more, it gives back what R tells, the pen begun at most k times more -/
def spPen (K : PySem.W.Frag) (k : Int) (R : List Ty → (V → Hp → Prop) → Prop) : Sp := fun vs H Q _ => ∃ F p c cells t r ws Ts P, vs = .ref p :: ws ∧ Same F H ∧ F p = none ∧ H p = some (penO c t r) ∧ (fCell K c cells).p F ∧ 0 ≤ t ∧ t + k ≤ 1000000 ∧ 0 ≤ r ∧ All2 F ws Ts ∧ R Ts P ∧
  ∀ v F2 H2 t' r', Gr [p] F H F2 H2 → F2 p = none → H2 p = some (penO c t' r') → 0 ≤ t' → t' ≤ t + k → 0 ≤ r' → P v F2 → Q v H2
theorem spPen_len {k : Int} {R : List Ty → (V → Hp → Prop) → Prop} {vs : List V} {Q : VK} {E : XK} {n : Nat} (h : spPen K k R vs H Q E) (hk : ∀ Ts P, R Ts P → Ts.length + 1 = n) : vs.length = n := by
  obtain ⟨F, p, c, cells, t, r, ws, Ts, P, rfl, _, _, _, _, _, _, _, h2, h3, _⟩ := h
  rw [List.length_cons, h2.len]
  exact hk Ts P h3
/-- such a call within a def that owns the pen -/
theorem c_pen {kk : Int} {R : List Ty → (V → Hp → Prop) → Prop} {j k : Nat} {p c : Addr} {cells : List Int} {t r : Int} {ta : TA} {E : XK} {Q : VK} {Ts : List Ty} {P : V → Hp → Prop} (s : S M W F0 H0 F H σ ss O)
    (hi : ss[j]? = some (some (TX (.ref p)))) (hk : O[k]? = some (p, penO c t r)) (hc : fCell K c cells ∈ W) (hb : 0 ≤ t ∧ t + kk ≤ 1000000 ∧ 0 ≤ r) (ha : EvA ta σ F Ts) (hR : R Ts P)
    (q : ∀ v F H t' r', S M W F0 H0 F H σ ss (O.set k (p, penO c t' r')) → 0 ≤ t' → t' ≤ t + kk → 0 ≤ r' → P v F → Q v H) : tCall (spPen K kk R) [] E (tCons (tVar j) ta) σ H Q := by
  obtain ⟨w, h1, h2⟩ := s.env.get hi
  have e : w = .ref p := h2
  subst e
  refine ⟨_, h1, ha H s.fh _ fun vs F2 H2 st hv => ?_⟩
  have s2 := s.step st
  obtain ⟨m1, m2, _⟩ := s2.mem hk
  refine ⟨F2, p, c, cells, t, r, vs, Ts, P, by rw [List.append_nil], s2.fh, m1, m2, s2.mrk _ hc, hb.1, hb.2.1, hb.2.2, hv, hR, fun v F3 H3 t' r' g hF hH a1 a2 a3 hp => ?_⟩
  exact q v F3 H3 t' r' (s2.call hk g hF hH) a1 a2 a3 hp
/-- the beginning of a def that draws: the pen is its first parameter -/
theorem S.startP {N : List Str} {vs : List V} {p c : Addr} {cells : List Int} {t r : Int} {Ts : List Ty} (ss : List Sl) (e : Same F H) (hF : F p = none) (hH : H p = some (penO c t r)) (hc : (fCell K c cells).p F) (q : All2 F vs Ts)
    (h : some (TX (.ref p)) :: (Ts.map some ++ List.replicate (N.length - (Ts.length + 1)) none) = ss := by rfl) : S [p] [fCell K c cells] F H F H (L2.start N (.ref p :: vs)) ss [(p, penO c t r)] where
  gr := .refl e
  env := by
    have := env_start (F := F) (N := N) (vs := .ref p :: vs) (Ts := TX (.ref p) :: Ts) ⟨rfl, q⟩
    rw [← h]
    exact this
  own := fun q hq => by
    have e : q = (p, penO c t r) := by simpa using hq
    subst e
    exact ⟨hF, hH, .inl List.mem_cons_self⟩
  nd := by simp
  mrk := fun m hm => by
    have e : m = fCell K c cells := by simpa using hm
    subst e
    exact hc
/-- what the def hands back: its result at the end -/
theorem S.gr1 {p : Addr} (s : S [p] W F0 H0 F H σ ss O) : Gr [p] F0 H0 F H := s.gr
theorem s_asgR (s : S M W F0 H0 F H σ ss O) {j : Nat} (h : Ev te σ F (TR m)) (k : ∀ i F H, 0 ≤ i → i < m → S M W F0 H0 F H (σ.set j (some (.int i))) (ss.set j (some (TD K (.int i)))) O → D'.nx (σ.set j (some (.int i))) H) : tAsg te (gName j) D' σ H :=
  h H s.fh _ fun v F2 H2 st ⟨i, e, h1, h2⟩ => by
    subst e
    exact k i F2 H2 h1 h2 ((s.step st).set (.int i))
theorem s_retR (s : S M W F0 H0 F H σ ss O) (h : Ev te σ F (TR m)) (k : ∀ i F H, 0 ≤ i → i < m → S M W F0 H0 F H σ ss O → D'.rt (.int i) H) : tRet te D' σ H :=
  h H s.fh _ fun v F2 H2 st ⟨i, e, h1, h2⟩ => by
    subst e
    exact k i F2 H2 h1 h2 (s.step st)
theorem s_asgZ (s : S M W F0 H0 F H σ ss O) {j : Nat} (h : Ev te σ F TZ) (k : ∀ i F H, S M W F0 H0 F H (σ.set j (some (.int i))) (ss.set j (some (TD K (.int i)))) O → D'.nx (σ.set j (some (.int i))) H) : tAsg te (gName j) D' σ H :=
  h H s.fh _ fun v F2 H2 st ⟨i, e⟩ => by
    subst e
    exact k i F2 H2 ((s.step st).set (.int i))
theorem cut_take2 {ns : List Int} {m : Nat} : cutD (ns.map .int) none (some (m : Int)) = (ns.take m).map .int := by
  unfold cutD
  rw [HT.sIx_none, HT.sIx_nat, List.length_map, List.drop_zero, Nat.sub_zero, ← List.map_take]
  by_cases h : m ≤ ns.length
  · rw [Nat.min_eq_left h]
  · rw [Nat.min_eq_right (by omega), List.take_length, List.take_of_length_le (by omega)]
end
/-- what law promises: a list of at most 63 ints is handed in, True comes out -/
def spLaw (K : PySem.W.Frag) : Sp := fun us H Q _ => ∃ (a : Addr) (ns : List Int), us = [.ref a] ∧ SqL K H a (ns.map V.int) ∧ ns.length ≤ 63 ∧ ∀ H', Q (.bl true) H'
end DL
theorem L2.FunD.toFun {K : PySem.W.Frag} {x qual : PySem.Str} {st : PySem.Stmt} {kws : List (PySem.Str × L2.V)} {f : PySem.Addr} {fd : PySem.FuncData} (F : L2.FunD K x qual (L2.defArgs st) (L2.defBody st) (L2.defScope st) [] kws f fd) : L2.Fun K x qual st f fd :=
  let ⟨_, _, _, kV, c1, c2, c3, c4, c5, c6, e1, e2, e3, w, _⟩ := F.ex
  match w with
  | .inl z => ⟨⟨_, _, kV, c1, c2, c3, c4, c5, c6, by rw [e1, z.2], e2, e3⟩, F.kp⟩
  | .inr z => absurd rfl z.1

set_option Elab.async false
set_option linter.all false
set_option maxRecDepth 100000
set_option maxHeartbeats 1200000
/-! readings taken value by value -/
namespace DL
open Evl (sq_of st_of sz_of sz_lt rMax2 ixN_nat)
open L2 PySem PySem.Spec PyProof.Rows
section
variable {K : PySem.W.Frag} {σ : L2.St} {F H F0 H0 F2 H2 : Hp} {te ta tb : TE} {M : List Addr} {W : List Fact} {ss : List Sl} {O : Ow} {D : Ends} {T : Ty} {Ts : List Ty} {Q : VK} {E : XK} {ds es : List PyData}
/-- what is known of a value -/
def fT (T : Ty) (v : V) : Fact := ⟨fun F => T.p v F, fun e h => T.m e h⟩
theorem S.keep {v : V} (s : S M W F0 H0 F H σ ss O) (h : T.p v F) : S M (fT T v :: W) F0 H0 F H σ ss O := s.fact (f := fT T v) h
theorem S.got {v : V} (s : S M W F0 H0 F H σ ss O) (h : fT T v ∈ W) : T.p v F := s.mrk _ h
theorem v_var {i : Nat} (s : S M W F0 H0 F H σ ss O) (h : ss[i]? = some (some T)) (q : ∀ v, T.p v F → Q v H) : ∃ v, σ[i]? = some (some v) ∧ Q v H := by
  obtain ⟨w, h1, h2⟩ := s.env.get h
  exact ⟨w, h1, q w h2⟩
theorem v_ev (s : S M W F0 H0 F H σ ss O) (h : Ev te σ F T) (q : ∀ v F H, S M W F0 H0 F H σ ss O → T.p v F → Q v H) : te σ H Q := h H s.fh Q fun v F2 H2 st hv => q v F2 H2 (s.step st) hv
theorem v_pen {kk : Int} {R : List Ty → (V → Hp → Prop) → Prop} {k : Nat} {p c : Addr} {cells : List Int} {t r : Int} {ws : List V} {P : V → Hp → Prop} (s : S M W F0 H0 F H σ ss O)
    (hk : O[k]? = some (p, penO c t r)) (hc : fCell K c cells ∈ W) (hb : 0 ≤ t ∧ t + kk ≤ 1000000 ∧ 0 ≤ r) (ha : All2 F ws Ts) (hR : R Ts P)
    (q : ∀ v F H t' r', S M W F0 H0 F H σ ss (O.set k (p, penO c t' r')) → 0 ≤ t' → t' ≤ t + kk → 0 ≤ r' → P v F → Q v H) : spPen K kk R (.ref p :: ws) H Q E := by
  obtain ⟨m1, m2, _⟩ := s.mem hk
  exact ⟨F, p, c, cells, t, r, ws, Ts, P, rfl, s.fh, m1, m2, s.mrk _ hc, hb.1, hb.2.1, hb.2.2, ha, hR, fun v F3 H3 t' r' g hF hH a1 a2 a3 hp => q v F3 H3 t' r' (s.call hk g hF hH) a1 a2 a3 hp⟩
theorem v_P {R : List Ty → Ty → Prop} {ws : List V} (s : S M W F0 H0 F H σ ss O) (ha : All2 F ws Ts) (hR : R Ts T) (q : ∀ v F H, S M W F0 H0 F H σ ss O → T.p v F → Q v H) : spP R ws H Q E :=
  ⟨F, Ts, T, s.fh, ha, hR, fun v F2 H2 st hv => q v F2 H2 (s.step st) hv⟩
theorem v_op {r : R2} {T1 T2 T3 : Ty} {x y : V} (s : S M W F0 H0 F H σ ss O) (hx : T1.p x F) (hy : T2.p y F) (hr : RV r T1 T2 F T3) (q : ∀ v F H, S M W F0 H0 F H σ ss O → T3.p v F → Q v H) : r x y H Q :=
  hr x y F H (.refl _) s.fh hx hy Q fun v F2 H2 st hv => q v F2 H2 (s.step st) hv
theorem v_cb {r : List V → Hp → VK → Prop} {ws : List V} (s : S M W F0 H0 F H σ ss O) (hx : All2 F ws Ts) (hr : RC r Ts F T) (q : ∀ v F H, S M W F0 H0 F H σ ss O → T.p v F → Q v H) : r ws H Q :=
  hr ws F H (.refl _) s.fh hx Q fun v F2 H2 st hv => q v F2 H2 (s.step st) hv
/-- a display of values known -/
theorem v_lst {ws : List V} (s : S M W F0 H0 F H σ ss O) (h : DpAll K F ws ds) (hl : ds.length ≤ 100000) (q : ∀ v F H, S M W F0 H0 F H σ ss O → Dp K F v (.list ds) → Q v H) : ws.length ≤ sizeLine ∧ ∀ p, H p = none → Q (.ref p) (upd H p (.lst ws)) :=
  ⟨sz_of (by rw [dpAll_len h]; exact hl), fun p hp => q _ _ _ (s.step ((Stp.refl s.fh).alloc hp)) (.lst (sq_of upd_same) (dpAll_mono (same_new (fresh_back s.fh hp)) h))⟩
theorem v_tup {ws : List V} (s : S M W F0 H0 F H σ ss O) (h : DpAll K F ws ds) (hl : ds.length ≤ 100000) (q : ∀ v F H, S M W F0 H0 F H σ ss O → Dp K F v (.tuple ds) → Q v H) : ws.length ≤ sizeLine ∧ ∀ p, H p = none → Q (.ref p) (upd H p (.tup ws)) :=
  ⟨sz_of (by rw [dpAll_len h]; exact hl), fun p hp => q _ _ _ (s.step ((Stp.refl s.fh).alloc hp)) (.tup (st_of upd_same) (dpAll_mono (same_new (fresh_back s.fh hp)) h))⟩
/-- to a slot -/
theorem v_set {i : Nat} {v : V} (s : S M W F0 H0 F H σ ss O) (hv : T.p v F) (q : S M W F0 H0 F H (σ.set i (some v)) (ss.set i (some T)) O → D.nx (σ.set i (some v)) H) : gName i v σ H D.nx := q (s.set hv)
/-- two new lists to two names -/
theorem s_par {i j : Nat} (s : S M W F0 H0 F H σ ss O) (h1 : EvN K ta σ F ds) (h2 : EvN K tb σ F es) (k : ∀ p q xs ys F H, S M W F0 H0 F H ((σ.set i (some (.ref p))).set j (some (.ref q))) ((ss.set i (some (TX (.ref p)))).set j (some (TX (.ref q)))) ((q, .lst ys) :: (p, .lst xs) :: O) → DpAll K F xs ds → DpAll K F ys es → H0 p = none → H0 q = none → D.nx ((σ.set i (some (.ref p))).set j (some (.ref q))) H) :
    tPar i j (tCons ta (tCons tb tNil)) D σ H :=
  h1 H s.fh _ fun p xs F1 H1 st hp hd => by
    have n0 : ∀ {F H : Hp} {σ ss O}, S M W F0 H0 F H σ ss O → ∀ q, H q = none → H0 q = none := fun s q hq => by
      cases e : H0 q with
      | none => rfl
      | some u => exact absurd hq (s.gr.al q (by rw [e]; exact fun z => by cases z))
    have s1 := s.step st
    have s2 := s1.push (o := .lst xs) hp
    have f1 : Same F F1 := st.ff
    refine h2 (upd H1 p (.lst xs)) (f1.trans s2.fh) _ fun q ys F2 H2 st2 hq hd2 => ?_
    obtain ⟨st3, g⟩ := st2.up f1 s2.fh
    have s3 := s2.step st3
    have s4 := s3.push (o := .lst ys) hq
    refine ⟨_, _, rfl, k p q xs ys _ _ ((s4.set (T := TX (.ref p)) (i := i) rfl).set (T := TX (.ref q)) (i := j) rfl) (dpAll_mono st3.ff hd) (dpAll_mono g hd2) (n0 s1 p hp) (n0 s3 q hq)⟩
/-- what follows the iterator of a comprehension -/
def LcGo (J : It) (g : TG) (tt : TT) (te : TE) (vs : List Nat) (σ : L2.St) (Q : VK) (H1 : Hp) : Prop := ∀ L, H1 L = none → ∃ St : Nat → Nat → Hp → Prop, (∃ k, St 0 k (upd H1 L (.lst []))) ∧ ∀ n k H, St n k H →
  (J.stop n H ∧ Q (.ref L) H) ∨ (J.go n H ∧ ∃ nxt : Hp → Prop, (∀ H', nxt H' → ∃ k', k' < k ∧ St (n + 1) k' H') ∧ ∀ x H', J.yld n H x H' → g x (wipe σ vs) H' fun σ2 H2 => wipe σ2 vs = wipe σ vs ∧ tt σ2 H2 fun b H3 =>
    if b = true then te σ2 H3 fun y H4 => ∃ got, H4 L = some (.lst got) ∧ got.length < sizeLine ∧ nxt (upd H4 L (.lst (got ++ [y]))) else nxt H3)
theorem s_lcJ {J : It} {tt : TT} {vs : List Nat} {j : Nat} (hj : j ∈ vs) (s : S M W F0 H0 F H σ ss O) (w : WalkD K J F ds) (I : Nat → List V → Ow → Prop) (h0 : I 0 [] O)
    (hs : ∀ (L : Addr) (Fw : Hp) i d x F H acc O, ds[i]? = some d → I i acc O → S M (Fact.mark Fw :: W) F0 H0 F H ((wipe σ vs).set j (some x)) ((wipeS ss vs).set j (some (TD K d))) ((L, .lst acc) :: O) → Dp K F x d →
      tt ((wipe σ vs).set j (some x)) H fun b H3 => if b = true then te ((wipe σ vs).set j (some x)) H3 fun y H4 => ∃ acc, H4 L = some (.lst acc) ∧ acc.length < sizeLine ∧ Lt M (Fact.mark Fw :: W) F0 H0 (wipe σ vs) (wipeS ss vs) L I (i + 1) (upd H4 L (.lst (acc ++ [y]))) else Lt M (Fact.mark Fw :: W) F0 H0 (wipe σ vs) (wipeS ss vs) L I (i + 1) H3)
    (hd : ∀ (L : Addr) F H acc O, I ds.length acc O → S M W F0 H0 F H σ ss ((L, .lst acc) :: O) → H0 L = none → Q (.ref L) H) : LcGo J (gName j) tt te vs σ Q H := by
  have := s_lc (te := te) (tt := tt) (Q := Q) (wi := fun _ H R => R J H) hj s (fun H2 e R q => q J F H2 (.refl e) w) I h0 hs hd
  exact this
theorem lc_go {wi : TI} {g : TG} {tt : TT} {vs : List Nat} (h : wi σ H fun J H1 => LcGo J g tt te vs σ Q H1) : tLc wi g tt te vs σ H Q := h
/-- the end of a turn of such a comprehension -/
theorem lt_end {L : Addr} {I : Nat → List V → Ow → Prop} {i : Nat} {vs : List Nat} {j : Nat} {x y : V} {σ' : L2.St} {ss' : List Sl} {acc : List V} (hj : j ∈ vs) (s : S M W F0 H0 F H ((wipe σ' vs).set j (some x)) ((wipeS ss' vs).set j (some T)) ((L, .lst acc) :: O)) (hl : acc.length < 100000) (hI : I (i + 1) (acc ++ [y]) O) :
    ∃ acc, H L = some (.lst acc) ∧ acc.length < sizeLine ∧ Lt M W F0 H0 (wipe σ' vs) (wipeS ss' vs) L I (i + 1) (upd H L (.lst (acc ++ [y]))) := by
  refine ⟨acc, (s.mem (k := 0) rfl).2.1, sz_lt hl, F, acc ++ [y], O, hI, ?_⟩
  have s2 := (s.mut (k := 0) (o' := .lst (acc ++ [y])) rfl).wipe vs
  rw [wipe_idem_set hj] at s2
  have e : ∀ (ss : List Sl) (T : Ty), wipeS ((wipeS ss vs).set j (some T)) vs = wipeS ss vs := fun ss T => by
    have key : ∀ (τ : List Sl) (n : Nat), (wipeS τ vs)[n]? = if n ∈ vs then τ[n]?.map (fun _ => none) else τ[n]? := by
      intro τ n
      clear hj s s2
      induction vs generalizing n with
      | nil => simp [wipeS]
      | cons v vs ih =>
        show ((wipeS τ vs).set v none)[n]? = _
        have len : (wipeS τ vs).length = τ.length := by
          clear ih
          induction vs with
          | nil => rfl
          | cons u us ih => show ((wipeS τ us).set u none).length = _; rw [List.length_set, ih]
        rw [List.getElem?_set]
        by_cases e : v = n
        · subst e
          rw [if_pos rfl]
          simp only [len, List.mem_cons, true_or, if_true]
          by_cases hl : v < τ.length
          · rw [if_pos hl, List.getElem?_eq_getElem hl]; rfl
          · rw [if_neg hl, List.getElem?_eq_none (by omega)]; rfl
        · rw [if_neg e, ih]
          have : (n ∈ v :: vs) = (n ∈ vs) := by
            simp only [List.mem_cons, eq_iff_iff]
            exact ⟨fun h => h.resolve_left (fun z => e z.symm), .inr⟩
          simp only [this]
    apply List.ext_getElem?
    intro n
    rw [key, key]
    by_cases hn : n ∈ vs
    · rw [if_pos hn, if_pos hn, List.getElem?_set]
      split
      · rename_i e
        subst e
        have kj := key ss j
        rw [if_pos hj] at kj
        split
        · rename_i hl
          rw [List.getElem?_eq_getElem hl] at kj
          cases z : ss[j]? with
          | none => rw [z] at kj; cases kj
          | some u => rfl
        · rename_i hl
          rw [List.getElem?_eq_none (by omega)] at kj
          cases z : ss[j]? with
          | none => rfl
          | some u => rw [z] at kj; cases kj
      · rw [key, if_pos hn]
        cases ss[n]? with
        | none => rfl
        | some _ => rfl
    · have hjn : j ≠ n := fun e => hn (by rw [← e]; exact hj)
      rw [if_neg hn, if_neg hn, List.getElem?_set, if_neg hjn, key, if_neg hn]
  rw [e] at s2
  exact s2
/-! readings opened one by one -/
theorem u_op {r : R2} (h : ta σ H fun x H1 => tb σ H1 fun y H2 => r x y H2 Q) : tOp r ta tb σ H Q := h
theorem u_cons {tr : TA} {QA : List V → Hp → Prop} (h : ta σ H fun x H1 => tr σ H1 fun xs H2 => QA (x :: xs) H2) : tCons ta tr σ H QA := h
theorem u_nil {QA : List V → Hp → Prop} (h : QA [] H) : tNil σ H QA := h
theorem u_call {sp : Sp} {tA : TA} (h : tA σ H fun vs H1 => sp (vs ++ []) H1 Q E) : tCall sp [] E tA σ H Q := h
theorem u_cb {r : List V → Hp → VK → Prop} {tA : TA} (h : tA σ H fun vs H1 => r vs H1 Q) : tCB r tA σ H Q := h
theorem u_tup {tA : TA} (h : tA σ H fun xs H1 => xs.length ≤ sizeLine ∧ ∀ p, H1 p = none → Q (.ref p) (upd H1 p (.tup xs))) : tTup tA σ H Q := h
theorem u_lst {tA : TA} (h : tA σ H fun xs H1 => xs.length ≤ sizeLine ∧ ∀ p, H1 p = none → Q (.ref p) (upd H1 p (.lst xs))) : tLst tA σ H Q := h
theorem u_ret (h : te σ H D.rt) : tRet te D σ H := h
theorem u_asg {g : TG} (h : te σ H fun x H1 => g x σ H1 D.nx) : tAsg te g D σ H := h
theorem u_int {i : Int} (h : Q (.int i) H) : tC (.int i) σ H Q := h
theorem u_yes {A B : Hp → Prop} (h : A H) : tYes σ H fun b H3 => if b = true then A H3 else B H3 := by
  show if true = true then A H else B H
  rw [if_pos rfl]
  exact h
theorem u_var {i : Nat} (s : S M W F0 H0 F H σ ss O) (h : ss[i]? = some (some T)) (q : ∀ v, T.p v F → Q v H) : tVar i σ H Q := v_var s h q
theorem u_range {tA : TA} {R : It → Hp → Prop} (h : tA σ H fun vs H1 => ∃ j : Int, vs = [.int j] ∧ -(2 ^ 62) ≤ j ∧ j < 2 ^ 62 ∧ R (Itr 0 j.toNat) H1) : iRng1 tA σ H R := h
theorem u_seq {t u : TS} (h : t { D with nx := u D } σ H) : tSeq t u D σ H := h
theorem S.newT {p : Addr} {vs : List V} (s : S M W F0 H0 F H σ ss O) (hp : H p = none) (h : DpAll K F vs ds) : S M W F0 H0 (upd F p (.tup vs)) (upd H p (.tup vs)) σ ss O ∧ Dp K (upd F p (.tup vs)) (.ref p) (.tuple ds) :=
  ⟨s.step ((Stp.refl s.fh).alloc hp), .tup (st_of upd_same) (dpAll_mono (same_new (fresh_back s.fh hp)) h)⟩
theorem S.newL {p : Addr} {vs : List V} (s : S M W F0 H0 F H σ ss O) (hp : H p = none) (h : DpAll K F vs ds) : S M W F0 H0 (upd F p (.lst vs)) (upd H p (.lst vs)) σ ss O ∧ Dp K (upd F p (.lst vs)) (.ref p) (.list ds) :=
  ⟨s.step ((Stp.refl s.fh).alloc hp), .lst (sq_of upd_same) (dpAll_mono (same_new (fresh_back s.fh hp)) h)⟩
theorem u_if {c : TT} {t u : TS} (h : c σ H fun b H1 => if b = true then t D σ H1 else u D σ H1) : tIfS c t u D σ H := h
theorem u_or {t u : TT} {Q : Bool → Hp → Prop} (h : t σ H fun c H1 => if c = true then Q true H1 else u σ H1 Q) : tOr t u σ H Q := h
theorem u_and {t u : TT} {Q : Bool → Hp → Prop} (h : t σ H fun c H1 => if c = true then u σ H1 Q else Q false H1) : tAnd t u σ H Q := h
theorem u_not {t : TT} {Q : Bool → Hp → Prop} (h : t σ H fun c H1 => Q (!c) H1) : tNot t σ H Q := h
theorem u_B {Q : Bool → Hp → Prop} (h : te σ H fun x H1 => ∃ c, x = .bl c ∧ Q c H1) : tB te σ H Q := h
theorem if_f {b : Bool} {A B : Prop} (e : b = false) (h : B) : if b = true then A else B := by subst e; exact iteF h
theorem if_t {b : Bool} {A B : Prop} (e : b = true) (h : A) : if b = true then A else B := by subst e; exact iteT h
end
/-! ### the same rules with K said outright: inside a comprehension a reading may not speak of its own place -/
theorem opK {X : Cx} {K : PySem.W.Frag} {o} (f : PySem.W.Frag → _) (hK : X.K = K) (h : OpR X o (f X.K)) : OpR X o (f K) := hK ▸ h
theorem callK {X : Cx} {K : PySem.W.Frag} {o} (f : PySem.W.Frag → _) (hK : X.K = K) (h : CallR X o (f X.K)) : CallR X o (f K) := hK ▸ h
theorem ixK {X : Cx} {K : PySem.W.Frag} (f : PySem.W.Frag → _) (hK : X.K = K) (h : IxR X (f X.K)) : IxR X (f K) := hK ▸ h
theorem slK {X : Cx} {K : PySem.W.Frag} (f : PySem.W.Frag → _) (hK : X.K = K) (h : SlR X (f X.K)) : SlR X (f K) := hK ▸ h
end DL

set_option Elab.async false
set_option linter.all false
set_option maxRecDepth 100000
set_option maxHeartbeats 1200000
/-! exceptions as values: kept, asked for their class, their fields -/
namespace DL
open Evl (sq_of st_of sz_of sz_lt)
open L2 PySem PySem.Spec PyProof.Rows
/-- an exception object at a, whatever befell it since: its class, its dict -/
def exv (a C : Addr) (d : Option Addr) : HO := .ext fun h => ∃ (oe : Obj) (vs : Array Value), h.get? a = some oe ∧ Zc (.ref C) d oe ∧ oe.data = .fields vs
theorem exv_ok {P : Program} {w : World} {H : Hp} {h : Heap} {a C : Addr} {d : Option Addr} {oe : Obj} {vs : Array Value} (e : h.get? a = some oe) (z : Zc (.ref C) d oe) (q : oe.data = .fields vs) : ObjOk P w H h a (exv a C d) :=
  ⟨⟨oe, vs, e, z, q⟩, ⟨oe, e⟩, fun _ _ ⟨o, v, p, r⟩ k => ⟨o, v, k o p, r⟩⟩
theorem exv_at {P : Program} {w : World} {H : Hp} {h : Heap} {a C : Addr} {d : Option Addr} (ok : HOk P w H h) (e : H a = some (exv a C d)) : ∃ (oe : Obj) (vs : Array Value), h.get? a = some oe ∧ Zc (.ref C) d oe ∧ oe.data = .fields vs := (ok a _ e).1
/-- an exception at a, kept or just made: its class, its fields -/
def IsX (F : Hp) (a C : Addr) (fs : List (Str × V)) : Prop := ∃ d, (F a = some (exv a C (some d)) ∨ F a = some (exo a C (some d))) ∧ (F d = some (.xd fs) ∨ F d = some (exd d fs))
theorem IsX.mono {F F' : Hp} {a C : Addr} {fs : List (Str × V)} (e : Same F F') : IsX F a C fs → IsX F' a C fs := fun ⟨d, h1, h2⟩ => ⟨d, h1.imp (e _ _) (e _ _), h2.imp (e _ _) (e _ _)⟩
theorem isX_inst {P : Program} {w : World} {H : Hp} {h : Heap} {a C : Addr} {fs : List (Str × V)} (ok : HOk P w H h) (x : IsX H a C fs) :
    ∃ (oe od : Obj), PySem.W.InstAt h a oe C (some od) ∧ ∀ f : Str, ∃ m : Option Value, PySem.W.lookIn f od = some m ∧ RelO (fs.lookup f) m := by
  obtain ⟨d, xa, xd⟩ := x
  obtain ⟨oe, vs, ge, z, q⟩ : ∃ (oe : Obj) (vs : Array Value), h.get? a = some oe ∧ Zc (.ref C) (some d) oe ∧ oe.data = .fields vs := by
    rcases xa with xa | xa
    · exact exv_at ok xa
    · obtain ⟨t1, ge⟩ := exo_at ok xa
      exact ⟨_, _, ge, ⟨rfl, rfl⟩, rfl⟩
  obtain ⟨mA, ns, rel⟩ : ∃ mA, h.Ns1 d mA ∧ ∀ f, RelO (fs.lookup f) (mA f) := by
    rcases xd with xd | xd
    · exact (show ObjOk P w H h d (.xd fs) from ok d _ xd)
    · exact exd_at ok xd
  obtain ⟨od, go, lk⟩ := lookIn_ns ns
  exact ⟨oe, od, ⟨ge, z.1, by unfold PySem.W.notCls; rw [q] <;> rfl, by rw [z.2]; exact go⟩, fun f => ⟨mA f, lk f, rel f⟩⟩
section
variable {X : Cx}
/-- e.f, e an exception kept -/
def tXv (K : PySem.W.Frag) (f : Str) (te : TE) : TE := fun σ H Q => te σ H fun x H1 => ∃ (a C : Addr) (fs : List (Str × V)) (v : V), x = .ref a ∧ XfC K C ∧ PySem.W.findIn K (.ref C) f = some none ∧ IsX H1 a C fs ∧ fs.lookup f = some v ∧ Q v H1
theorem pe_xv {e : Expr} {te : TE} {pos : Pos} {n : Str} (he : PE X e te) (hb : attributeBase e n X.env (eval e X.env) = eval e X.env := by rfl) : PE X (.Attribute e n pos) (tXv X.K n te) :=
  ⟨fun pn s σ H Q I h => attr_of hb (thn (he.run pn s σ H _ I h) fun u s1 hh => by
    obtain ⟨x, H1, I1, rx, a, C, fs, v, rfl, T, no, ex, l, q⟩ := hh
    obtain rfl : u = Value.ref a := rx
    obtain ⟨oe, od, J, lk⟩ := isX_inst I1.hok ex
    obtain ⟨m, e1, rel⟩ := lk n
    obtain ⟨u, hu, ru⟩ := RelO.some_of (v := v) (o := m) (by rw [← l]; exact rel)
    exact HandSPX.exc_get I1.kIn J T.ga T.gg T.exC (PySem.W.findObj_own T.hdC no rfl (by rw [e1, hu])) (handed_of ru) ⟨v, H1, I1.tok _, ru, q⟩)⟩
/-- isinstance(e, C), isinstance(e, (C, ..)), e an exception kept -/
def rIsX (K : PySem.W.Frag) : List V → Hp → VK → Prop := fun xs H Q => ∃ (a C : Addr) (fs : List (Str × V)) (c : V) (u : Value) (b : Bool), xs = [.ref a, c] ∧ ClsV c u ∧ ExcC K C ∧ IsX H a C fs ∧ PySem.W.kitOne K (.ref C) u = some b ∧ Q (.bl b) H
def rIsXT (K : PySem.W.Frag) : List V → Hp → VK → Prop := fun xs H Q => ∃ (a C tp : Addr) (fs : List (Str × V)) (cs : List V) (us : List Value) (b : Bool), xs = [.ref a, .ref tp] ∧ H tp = some (.tup cs) ∧ Paired ClsV cs us ∧ ExcC K C ∧ IsX H a C fs ∧ PySem.W.kitAny K (.ref C) us = some b ∧ Q (.bl b) H
theorem kitx_exv {K : PySem.W.Frag} {x C : Addr} {oe : Obj} {od : Option Obj} (T : ExcC K C) : PySem.W.KitX K (.ref x) (.ref C) (fun h => PySem.W.InstAt h x oe C od) :=
  PySem.W.kitx_exc (by obtain ⟨_, e, _⟩ := PySem.W.any_some T.hd; rw [e]; rfl) T.hg T.hk T.hs T.ha T.hn T.ht T.hm
theorem call_isX : CallR X (.builtin "isinstance") (rIsX X.K) := by
  rintro pn s σ H xs us Q I r ⟨a, C, fs, c, u, b, rfl, kc, T, ex, e, q⟩
  obtain ⟨v1, v2, rfl, r1, r2⟩ := vals2 r
  obtain rfl := kc.eq r2
  cases (show v1 = Value.ref a from r1)
  obtain ⟨oe, od, J, _⟩ := isX_inst I.hok ex
  exact PySem.W.kia_one (kitx_exv T) I.kIn J e (fun z => nomatch z) fun tk => ⟨.bl b, H, I.tok tk, rfl, q⟩
theorem call_isXT : CallR X (.builtin "isinstance") (rIsXT X.K) := by
  rintro pn s σ H xs us Q I r ⟨a, C, tp, fs, cs, ws, b, rfl, hT, kc, T, ex, e, q⟩
  obtain ⟨v1, v2, rfl, r1, r2⟩ := vals2 r
  cases (show v2 = Value.ref tp from r2)
  cases (show v1 = Value.ref a from r1)
  obtain ⟨oe, od, J, _⟩ := isX_inst I.hok ex
  obtain ⟨_, its, rv, o, g1, g2, n, g3⟩ := (show ObjOk X.prog X.w H s.heap tp (.tup cs) from I.hok tp _ hT)
  obtain rfl := ClsV.all kc rv
  obtain ⟨oc, od', dt, sl⟩ := o
  simp only at g2 g3
  subst g2 g3
  exact PySem.W.kia_tup (kitx_exv T) I.kIn J g1 e (fun z => nomatch z) fun tk => ⟨.bl b, H, I.tok tk, rfl, q⟩
end
end DL

set_option Elab.async false
set_option linter.all false
set_option maxRecDepth 100000
set_option maxHeartbeats 1200000
namespace DL
open L2 PySem PySem.Spec PyProof.Rows
section
variable {X : Cx}
/-- C(e, ..) as a value, C's own __init__ keeping sp: the new exception is kept -/
def tMkX (C : Addr) (sp : Sp) (dvs : List V) (ta : TA) : TE := fun σ H Q => ta σ H fun vs G => vs.length ≤ 1000 ∧ ∀ a, G a = none → sp (.ref a :: (vs ++ dvs)) (upd G a (exo a C none)) (fun v H2 => v = .non ∧ Q (.ref a) H2) (fun _ _ _ => False)
theorem pe_mkX {CX : CXT} {x : Str} {C fI : Addr} {k : Nat} {fd : FuncData} {ps : List Str} {sp : Sp} {ds : List Value} {dvs : List V} {e : Expr} {es : List Expr} {ta : TA} {p pos : Pos}
    (T : OexC X.K C) (iC : PySem.W.findIn X.K (.ref C) "__init__" = some (some (.ref fI))) (tI : PySem.W.typeIn X.K (.ref fI) = some (.type "function"))
    (Fi : FnOk X.prog X.w X.K X.mg X.base CX k fI fd ps sp) (room : Room (k + 1) X.A) (bi : Binds X.K fd ps ds) (vd : Vals dvs ds) (no : Passes CX X (fun _ _ _ => False)) (gl : Gl X x) (at_ : X.mg x = some (.ref C)) (ka : PA X (e :: es) ta)
    (db : (x == ("__debug__" : Str)) = false := by decide) (st : starEach (e :: es) X.env = (false, eval e X.env) :: starEach es X.env := by rfl) (pl : (backTo pos (starEach es X.env)).any (·.1) = false := by rfl) :
    PE X (.Call (.Name x p) (e :: es) [] pos) (tMkX C sp dvs ta) := ⟨fun pn s σ H Q I h => by
  obtain ⟨_, _, _, _, bm, _, _, _, _, _, _, _, _, _, _, inK, tail⟩ := T.cls
  refine wpAny_Call_Name_kw (ld_glob I gl at_ (PySem.W.callWith_K (h₀ := X.base) I.ok.mod.kin T.kC (thn (ka.run pos pn s σ H _ I h) ?_) st pl) db)
  rintro us ⟨hp, g, dr, tk, os⟩ ⟨vs, G, J, r1, small, q1⟩
  refine ⟨J.kIn, ?_⟩
  change wpAny _ _ (call (.ref C) us) _ _ _
  obtain ⟨n, en⟩ : ∃ n, n = hp.objs.size := ⟨_, rfl⟩
  have fresh := q1 (n + 1) (by rw [en]; exact J.hok.fresh (Nat.le_succ _))
  have old : ∀ b o, hp.get? b = some o → ((hp.push (PySem.W.kdv_tup us)).push (PySem.HandSPX.excO C hp.objs.size)).get? b = some o := fun b o z => Heap.get?_push_of_some _ (Heap.get?_push_of_some _ z)
  have there : ((hp.push (PySem.W.kdv_tup us)).push (PySem.HandSPX.excO C hp.objs.size)).get? (hp.objs.size + 1) = some (PySem.HandSPX.excO C hp.objs.size) := by heap_get
  have J2 := J.laid (t' := tk) (o := exo (hp.objs.size + 1) C none) old (Nat.le_succ hp.objs.size) (exo_ok there)
  subst en
  have r2 : Vals (V.ref (hp.objs.size + 1) :: (vs ++ dvs)) (Value.ref (hp.objs.size + 1) :: (us ++ ds)) := .cons rfl (r1.append vd)
  have len : (Value.ref (hp.objs.size + 1) :: us ++ ds).length = ps.length := by rw [← Fi.len _ _ _ _ fresh, r2.length]; rfl
  refine wpAny_call (PySem.HandSPX.call_own PySem.F.excBase_ValueError (fun Y => PySem.HandSPX.refsVE_contains Y bm tail) (J.kIn _ _ inK) (PySem.W.looks_findIn J.kIn iC) (fun self => PySem.W.bind_fn J.kIn self tI) (by rw [← Paired.length r1, sizeLine_eq]; omega)
    (codeAny_mono (Fi.run _ X.stack _ _ ⟨Value.ref (hp.objs.size + 1) :: us, []⟩ (Value.ref (hp.objs.size + 1) :: (us ++ ds)) _ _ (fun _ _ _ => False) (room.make C us []) (J2.env0.make C us []) (bi _ (Value.ref (hp.objs.size + 1) :: us) J2.kIn len) r2 fresh) ?_))
  rintro (_ | fl) s' post
  · exact no pn σ _ _ _ s' J2 post
  · cases fl with
    | ret u =>
      obtain ⟨v, H2, J3, rv, rfl, q⟩ := J2.after post
      exact ⟨rv, .ref (hp.objs.size + 1), H2, J3, rfl, q⟩
    | next => exact post.elim
    | brk => exact post.elim
    | cont => exact post.elim⟩
end
end DL

set_option Elab.async false
set_option linter.all false
set_option maxRecDepth 100000
set_option maxHeartbeats 1200000
/-! try: .. except C as e: kept = e: the exception stays a value behind the suite -/
namespace DL
open L2 PySem PySem.Spec PyProof.Rows
section
variable {X : Cx} {pins : List (Addr × Obj)} {σ : L2.St} {H : Hp} {s : Shared}
/-- what the suite held is held behind it -/
theorem unsuiteK {a : Addr} {oe : Obj} (I : Inv (X.suite a ((a, oe) :: (X.pn ++ pins))) [] σ H s) (ok : X.Ok) : Inv X ((a, oe) :: pins) σ H s :=
  have J := I.unsuite ok
  ⟨J.ok, J.os, J.bare, J.base, J.loc, J.cell, J.free, J.freeC, fun p hp => I.pin p (by
    rw [List.append_nil]
    rcases List.mem_append.mp hp with z | z
    · exact List.mem_cons_of_mem _ (List.mem_append_left _ z)
    · rcases List.mem_cons.mp z with z | z
      · rw [z]; exact List.mem_cons_self
      · exact List.mem_cons_of_mem _ (List.mem_append_right _ z)), J.hok, J.len⟩
/-- a held exception, newer than the call, as a value -/
theorem track {a C : Addr} {d : Option Addr} {oe : Obj} {vs : Array Value} (I : Inv X ((a, oe) :: pins) σ H s) (new0 : X.s_0.heap.get? a = none) (apart : ∀ p ∈ X.pn ++ pins, p.1 ≠ a) (z : Zc (.ref C) d oe) (q : oe.data = .fields vs) :
    Inv X pins σ (upd H a (exv a C d)) s := by
  obtain ⟨ga, na, nL, nF, _⟩ := I.pin (a, oe) (List.mem_append_right _ List.mem_cons_self)
  have o0 : ∀ b o, X.s_0.heap.get? b = some o → b ≠ a := fun b o e c => by rw [c, new0] at e; cases e
  have o1 : ∀ b o, H b = some o → b ≠ a := fun b o e c => by rw [c, na] at e; cases e
  refine ⟨I.ok, I.os, I.bare, ⟨I.base.keep, I.base.slot, fun b o e n x => ?_, I.base.there, fun b xs e => ?_, fun b o u e => ?_, fun b ps e => ?_⟩, I.loc, I.cell, ?_, fun x c e => ?_, fun p hp => ?_, ?_, I.len⟩
  · rw [upd_ne (o0 b o e)]; exact I.base.free b o e n x
  · have k := I.base.tups b xs e
    rw [upd_ne (o1 b _ k)]; exact k
  · have k := I.base.frzs b o u e
    rw [upd_ne (o1 b _ k)]; exact k
  · obtain ⟨m, k⟩ := I.base.tbls b ps e
    exact ⟨m, by rw [upd_ne (o1 b _ k)]; exact k⟩
  · rw [upd_ne (Ne.symm nL)]; exact I.free
  · have : c ≠ a := fun k => by
      obtain ⟨v, o, go, dc⟩ := I.cell x c e
      rw [k] at go
      have eo : oe = o := Option.some.inj (ga.symm.trans go)
      rw [← eo, q] at dc
      cases dc
    rw [upd_ne this]; exact I.freeC x c e
  · obtain ⟨g1, g2, g3, g4, g5⟩ := I.pin p (by
      rcases List.mem_append.mp hp with w | w
      · exact List.mem_append_left _ w
      · exact List.mem_append_right _ (List.mem_cons_of_mem _ w))
    exact ⟨g1, by rw [upd_ne (apart p hp)]; exact g2, g3, g4, g5⟩
  · exact I.hok.laidN (fun _ _ w => w) na (exv_ok ga z q)
/-- what the clause 'except x as n: suite' wishes; the suite goes on behind it, the exception being kept -/
def wKp (K : PySem.W.Frag) (c : Value) (i : Nat) (ts : Addr → Value → Option Addr → TS) (Wo : WX) (D : Ends) : WX := fun cls d σ H =>
  ∃ b, PySem.W.exmOne K cls c = some b ∧ (b = true → ∃ C, cls = .ref C ∧ ∀ a, H a = none → ts a cls d { nx := fun σ' G => D.nx (σ'.set i none) (upd G a (exv a C d)), rt := fun _ _ => False, bk := fun _ _ => False, ct := fun _ _ => False } (σ.set i (some (.ref a))) H) ∧ (b = false → Wo cls d σ H)
variable {x n : Str} {c : Value} {i : Nat} {body suite : List Stmt} {st : Stmt} {np pos pos' : Pos} {tb : WX → TS} {ts : Addr → Value → Option Addr → TS} {Wo : WX}
theorem ps_try_keep (stk : X.stack = X.env :: X.outer) (frm : X.env.frame = some X.env.locals) (noex : X.ex = []) (nd : X.N.Nodup) (at_ : X.N[i]? = some n) (lc : X.env.kindOf n = some .local) (nm : Names X x c) (tk : Takes X Wo)
    (kb : ∀ (W : WX) (pn : List (Addr × Obj)) (xe : Value → Shared → Prop), Takes (X.tr pn xe) W → PassesOwn (model X.prog X.w) X.A X.env xe → PSs (X.tr pn xe) body (tb W))
    (ks : ∀ (a : Addr) (oe : Obj) (cls : Value) (d : Option Addr) (pn : List (Addr × Obj)), Zc cls d oe → (∃ vs, oe.data = .fields vs) → PSs (X.suite a ((a, oe) :: pn)) (st :: suite) (ts a cls d)) :
    PS X (.Try body [.ExceptHandler (some (.Name x np)) (some n) (st :: suite) pos'] [] [] pos) (fun D σ H => tb (wKp X.K c i ts Wo D) D σ H) := by
  refine ⟨fun pq s σ H D I h => ?_⟩
  have good := I.ok
  have frames : X.A.frames = some (X.env :: X.outer) := by rw [good.frames, stk]
  refine wpAny_Try_except (wpAny_mono ((kb (wKp X.K c i ts Wo D) (X.pn ++ pq) (fun e s₁ => wpAny (model X.prog X.w) X.A (noteFrame e X.env) (fun _ s₂ => wpAny (model X.prog X.w) X.A (setFlight e none) (fun _ s₃ =>
    wpAny (model X.prog X.w) X.A (handleBy e X.env [.ExceptHandler (some (.Name x np)) (some n) (st :: suite) pos']) (SP X pq D) X.xe s₃) X.xe s₂) X.xe s₁) ?_ PassesOwn.looking).run [] s σ H D (I.toTry _) h) ?_ fun _ _ z => z)
  · rintro _ t ⟨a, B, sI, pr, τ, G, cls, d, rfl, J0, nb, up, sky, na, os, ag, b, kb1, yes, no⟩
    have J : Inv X pq τ G sI := J0.ofTry good
    rw [stk] at sky
    change wpAny (model X.prog X.w) X.A (noteFrame (.ref a) X.env) _ _ _
    refine Sky.land Zc.steady frames frm sky fun g3 fly up3 => ?_
    have J3 : Inv X pq τ G { t with heap := g3 } := J.landed nb fly.1 (up.trans up3) os ag
    obtain ⟨oe, vs, ge, ze, de⟩ := fly.there
    have off : a ∉ frs (X.env :: X.outer) := fun k => by
      obtain ⟨_, o', g', dn⟩ := fly.2.2.1.mem k
      rw [ge] at g'
      cases g'
      exact dn _ de
    have offL : a ≠ X.env.locals := fun k => off (List.mem_filterMap.mpr ⟨X.env, List.mem_cons_self, by rw [frm, k]⟩)
    have offF : a ∉ X.fs := fun k => let ⟨e, me, q⟩ := List.mem_filterMap.mp k; off (List.mem_filterMap.mpr ⟨e, List.mem_cons_of_mem _ me, q⟩)
    -- the exception is newer than all that stood where it was caught
    have late : sI.heap.get? a = none := by
      cases k : sI.heap.get? a with
      | none => rfl
      | some o =>
        have w := nb a o k (by rw [stk]; exact off)
        rw [fly.2.1] at w
        cases w
    have late0 : X.s_0.heap.get? a = none := by
      cases k : X.s_0.heap.get? a with
      | none => rfl
      | some o =>
        obtain ⟨o', w⟩ := J.base.there a o k (by rw [noex]; exact fun z => nomatch z)
        rw [late] at w
        cases w
    have apart : ∀ p ∈ X.pn ++ pq, p.1 ≠ a := fun p mp k => by
      have w := (J.pin p mp).1
      rw [k, late] at w
      cases w
    have S3 := J3.suite ge de na offL offF
    refine wpAny_handleBy_cons (codeAny_handlers_test ?_) (fun q => nomatch q)
    have kind : PySem.W.Looks (model X.prog X.w) g3 (typeOf (.ref a)) cls := fun A Q E s k q => wpAny_typeOf_ref (k _ _ ge) (by rw [ze.1]; exact q)
    have LM := PySem.W.exm_one (M := model X.prog X.w) J3.kIn kind kb1
    have ask : ∀ {Q E : Value → Shared → Prop}, Q c { t with heap := g3 } → wpAny (model X.prog X.w) (X.A.mark (some (.ref a))) (eval (.Name x np) X.env) Q E { t with heap := g3 } := fun q => by
      obtain ⟨gl, db, m | ⟨m, bv, ne⟩⟩ := nm
      · exact ld_glob (X := X.suite a ((a, oe) :: (X.pn ++ pq))) S3 gl m q db
      · exact ld_blt (X := X.suite a ((a, oe) :: (X.pn ++ pq))) S3 gl m bv q ne db
    refine ask (LM.here ?_)
    cases b with
    | true =>
      obtain ⟨C, rfl, go⟩ := yes rfl
      refine codeAny_handlers_suite_as (HandSPX.lands_againZ fly fun g4 fly4 up4 => ?_)
      have J4 : Inv X pq τ G { t with heap := g4 } := J.landed nb fly4.1 ((up.trans up3).trans up4) os ag
      obtain ⟨oe4, vs4, ge4, ze4, de4⟩ := fly4.there
      have S4 := J4.suite ge4 de4 na offL offF
      refine store_ok (X := X.suite a ((a, oe4) :: (X.pn ++ pq))) (v := .ref a) S4 nd at_ (.inl lc) rfl (fun s5 S5 => ?_) (.inr lc)
      refine wpAny_mono ((ks a oe4 (.ref C) d (X.pn ++ pq) ze4 ⟨_, de4⟩).run [] s5 _ G _ S5 (go a na)) ?_ (fun _ _ z => z.elim)
      rintro (_ | _ | _ | u) s6 z
      · obtain ⟨σ6, H6, S6, q6⟩ := z
        exact gone_ok (unsuiteK S6 good) nd at_ lc fun s7 J7 => ⟨_, _, track J7 late0 apart ze4 de4, q6⟩
      · obtain ⟨_, _, _, q6⟩ := z
        exact q6.elim
      · obtain ⟨_, _, _, q6⟩ := z
        exact q6.elim
      · obtain ⟨_, _, _, _, _, q6⟩ := z
        exact q6.elim
    | false =>
      change wpAny _ X.A (handleBy (.ref a) X.env []) _ _ _
      refine wpAny_handleBy_nil ?_
      obtain ⟨_, _, _, oe, vs, T, oT, tt, ge, ze, de, v1, _⟩ := id fly
      unfold PySem.passOn
      refine wpAny_bind (wpAny_field ge de v1 ?_)
      rw [if_neg (show ¬ ((Value.ref T == Value.none) = true) from by simp)]
      have on : wpAny (model X.prog X.w) X.A (setFlight (.ref a) X.env.frame) (fun _ s4 => wpAny (model X.prog X.w) X.A (throw (.ref a) : Sem Flow) (SP X pq D) X.xe s4) X.xe { t with heap := g3 } := by
        rw [frm]
        exact HandSPX.setFlight_upZ fly fun g4 held up4 => wpAny_throw (tk _ _ ⟨a, B, sI, pq, τ, G, cls, d, rfl, J, nb, (up.trans up3).trans up4, .inr (.inr (by rw [stk]; exact held)), na, os, ag, no rfl⟩)
      first
        | exact wpAny_bind (wpAny_pure (wpAny_bind on))
        | exact wpAny_bind on
  · rintro (_ | _ | _ | u) t z
    · obtain ⟨σ', H', J', q⟩ := z
      exact wpAny_execs_nil ⟨σ', H', J'.ofTry good, q⟩
    · obtain ⟨σ', H', J', q⟩ := z
      exact ⟨σ', H', J'.ofTry good, q⟩
    · obtain ⟨σ', H', J', q⟩ := z
      exact ⟨σ', H', J'.ofTry good, q⟩
    · obtain ⟨v, σ', H', J', r, q⟩ := z
      exact ⟨v, σ', H', J'.ofTry good, r, q⟩
end
end DL

set_option Elab.async false
set_option linter.all false
set_option maxRecDepth 100000
set_option maxHeartbeats 1200000
/-! defs that may raise an own error with one field -/
namespace DL
open Evl (sq_of st_of sz_of sz_lt)
open L2 PySem PySem.Spec PyProof.Rows
/-- the making of such an error: what its own __init__ does -/
def spIni (C : Addr) (f : Str) : Sp := fun vs H Q _ => ∃ a x, vs = [.ref a, x] ∧ H a = some (exo a C none) ∧ ∀ d, H d = none → d ≠ a → Q .non (upd (upd H d (exd d [(f, x)])) a (exo a C (some d)))
theorem ini_reading {K : PySem.W.Frag} {C : Addr} {f : Str} {N : List Str} {vs : List V} {H : Hp} {Q : VK} {E : XK} {t0 t1 : L2.TE} (T : OexC K C) (no : PySem.W.findIn K (.ref C) f = some none) (h : spIni C f vs H Q E)
    (e0 : ∀ a x, vs = [.ref a, x] → ∀ P : VK, P (.ref a) H → t0 (L2.start N vs) H P) (e1 : ∀ a x, vs = [.ref a, x] → ∀ P : VK, P x H → t1 (L2.start N vs) H P) : tOst K f t0 t1 { nx := fun _ H' => Q .non H', rt := Q } (L2.start N vs) H := by
  obtain ⟨a, x, rfl, ha, q⟩ := h
  exact e1 a x rfl _ (e0 a x rfl _ ⟨a, C, rfl, T, no, .inl ⟨ha, fun d h1 h2 => q d h1 h2⟩⟩)
/-- a def that gives back what R tells, or raises what Rx tells: the class, the field's name, its value's type -/
def spE (R : List Ty → Ty → Prop) (Rx : List Ty → Addr → Str → Ty → Prop) : Sp := fun vs H Q E => ∃ F Ts, Same F H ∧ All2 F vs Ts ∧
  ((∃ T, R Ts T ∧ ∀ v F2 H2, Stp F H F2 H2 → T.p v F2 → Q v H2) ∨ ∃ C f T, Rx Ts C f T ∧ ∀ d x F2 H2, Stp F H F2 H2 → F2 d = some (.xd [(f, x)]) → T.p x F2 → E (.ref C) (some d) H2)
theorem spE_len {R : List Ty → Ty → Prop} {Rx : List Ty → Addr → Str → Ty → Prop} {vs : List V} {H : Hp} {Q : VK} {E : XK} {n : Nat} (h : spE R Rx vs H Q E) (h1 : ∀ Ts T, R Ts T → Ts.length = n) (h2 : ∀ Ts C f T, Rx Ts C f T → Ts.length = n) : vs.length = n := by
  obtain ⟨F, Ts, _, hv, ⟨T, r, _⟩ | ⟨C, f, T, r, _⟩⟩ := h
  · rw [hv.len]; exact h1 _ _ r
  · rw [hv.len]; exact h2 _ _ _ _ r
section
variable {K : PySem.W.Frag} {σ : L2.St} {F H F0 H0 F2 H2 : Hp} {te ta tb : TE} {tA : TA} {M : List Addr} {W : List Fact} {ss : List Sl} {O : Ow} {D : Ends} {Ts : List Ty} {T : Ty}
/-- it does not raise -/
theorem ev_callE {R : List Ty → Ty → Prop} {Rx : List Ty → Addr → Str → Ty → Prop} {E : XK} (ha : EvA tA σ F Ts) (hR : R Ts T) : Ev (tCall (spE R Rx) [] E tA) σ F T := fun H f Q q =>
  ha H f _ fun vs F2 H2 s hv => ⟨F2, Ts, s.fh, by rw [List.append_nil]; exact hv, .inl ⟨T, hR, fun v F3 H3 s3 h => q v F3 H3 (s.trans s3) h⟩⟩
/-- it raises -/
theorem x_callE {R : List Ty → Ty → Prop} {Rx : List Ty → Addr → Str → Ty → Prop} {E : XK} {Q : VK} {C : Addr} {f : Str} (e : Same F H) (ha : EvA tA σ F Ts) (hR : Rx Ts C f T)
    (q : ∀ d x F2 H2, Stp F H F2 H2 → F2 d = some (.xd [(f, x)]) → T.p x F2 → E (.ref C) (some d) H2) : tCall (spE R Rx) [] E tA σ H Q :=
  ha H e _ fun vs F2 H2 s hv => ⟨F2, Ts, s.fh, by rw [List.append_nil]; exact hv, .inr ⟨C, f, T, hR, fun d x F3 H3 s3 h1 h2 => q d x F3 H3 (s.trans s3) h1 h2⟩⟩
theorem made_heap {G : Hp} {a d : Addr} {o1 o2 o3 u : HO} (ga : G a = none) (hd : d ≠ a) : upd (del (upd (upd (upd G a o1) d o2) a o3) a) d u = upd G d u := by
  funext b
  by_cases e : b = d
  · rw [e, upd_same, upd_same]
  · rw [upd_ne e, upd_ne e]
    by_cases c : b = a
    · rw [c, del_same, ga]
    · rw [del_ne c, upd_ne c, upd_ne e, upd_ne c]
/-- raise C(e) -/
theorem x_raise {Q : XK} {C : Addr} {f : Str} (e : Same F H) (h : Ev te σ F T) (q : ∀ d x F2 H2, Stp F H F2 H2 → F2 d = some (.xd [(f, x)]) → T.p x F2 → Q (.ref C) (some d) H2) :
    tMkO C (spIni C f) [] (tCons te tNil) σ H Q := by
  refine h H e _ fun v F2 H2 st hv => ⟨by show 1 ≤ 1000; decide, fun a ha => ⟨a, v, rfl, upd_same, fun d hd hne => ⟨rfl, d, [(f, v)], upd_same, ?_, ?_, ?_⟩⟩⟩
  · rw [upd_ne hne, upd_same]
  · rwa [upd_ne hne] at hd
  · rw [upd_ne hne] at hd
    rw [made_heap ha hne]
    exact q d v _ _ (st.alloc hd) upd_same (T.m (same_new (fresh_back st.fh hd)) hv)
/-- C(e) as a value -/
def TEx (C : Addr) (f : Str) (T : Ty) : Ty := ⟨fun v F => ∃ a x, v = .ref a ∧ IsX F a C [(f, x)] ∧ T.p x F, fun e ⟨a, x, h1, h2, h3⟩ => ⟨a, x, h1, h2.mono e, T.m e h3⟩⟩
theorem ev_mkX {C : Addr} {f : Str} (h : Ev te σ F T) : Ev (tMkX C (spIni C f) [] (tCons te tNil)) σ F (TEx C f T) := fun H e Q q =>
  h H e _ fun v F2 H2 st hv => ⟨by show 1 ≤ 1000; decide, fun a ha => ⟨a, v, rfl, upd_same, fun d hd hne => ⟨rfl, by
    rw [upd_ne hne] at hd
    have e1 : ∀ (G : Hp) (o1 o2 o3 : HO), upd (upd (upd G a o1) d o2) a o3 = upd (upd G a o3) d o2 := fun G o1 o2 o3 => by
      funext b
      by_cases c : b = a
      · rw [c, upd_same, upd_ne (Ne.symm hne), upd_same]
      · rw [upd_ne c]
        by_cases k : b = d
        · rw [k, upd_same, upd_same]
        · rw [upd_ne k, upd_ne k, upd_ne c, upd_ne c]
    rw [e1]
    have s2 := st.alloc (o := exo a C (some d)) ha
    have hd2 : upd H2 a (exo a C (some d)) d = none := by rw [upd_ne hne]; exact hd
    exact q _ _ _ (s2.alloc (o := exd d [(f, v)]) hd2) ⟨a, v, rfl, ⟨d, .inr (by rw [upd_ne (Ne.symm hne)]; exact upd_same), .inr upd_same⟩, T.m ((same_new (fresh_back st.fh ha)).trans (same_new (fresh_back s2.fh hd2))) hv⟩⟩⟩⟩
/-- e.f -/
theorem ev_xv {C : Addr} {f : Str} (TX : XfC K C) (no : PySem.W.findIn K (.ref C) f = some none) (h : Ev te σ F (TEx C f T)) : Ev (tXv K f te) σ F T := fun H e Q q =>
  h H e _ fun v F2 H2 st ⟨a, x, h1, h2, h3⟩ => ⟨a, C, _, x, h1, TX, no, h2.mono st.fh, by simp [List.lookup], q _ _ _ st h3⟩
/-- isinstance(e, c) -/
theorem rc_isX {C : Addr} {f : Str} {c : V} {u : Value} {b : Bool} (X : ExcC K C) (k : ClsV c u) (e : PySem.W.kitOne K (.ref C) u = some b) : RC (rIsX K) [TEx C f T, TX c] F (TD K (.bool b)) := fun xs F1 H e1 e2 hv Q q => by
  match xs, hv with
  | [x, y], ⟨⟨a, w, h1, h2, h3⟩, h4, _⟩ =>
    have h4 : y = c := h4
    subst h1 h4
    exact ⟨a, C, _, y, u, b, rfl, k, X, h2.mono e2, e, q _ _ _ (.refl e2) (.bl b)⟩
end
end DL

set_option Elab.async false
set_option linter.all false
set_option maxRecDepth 100000
set_option maxHeartbeats 1200000
/-! try: .. except C as e: .. e.f ..: the clause reads the exception as a value -/
namespace DL
open L2 PySem PySem.Spec PyProof.Rows
section
variable {X : Cx} {pins : List (Addr × Obj)} {σ : L2.St} {H : Hp} {s : Shared}
theorem unsuite2 {a : Addr} (I : Inv (X.suite a (X.pn ++ pins)) [] σ H s) (ok : X.Ok) : Inv X pins σ H s :=
  ⟨ok, I.os, I.bare, I.base, I.loc, I.cell, I.free, I.freeC, fun p hp => I.pin p (List.mem_append_left _ hp), I.hok, I.len⟩
/-- what the clause wishes: its suite goes on over the exception as a value -/
def wKq (K : PySem.W.Frag) (c : Value) (i : Nat) (ts : Addr → Value → Option Addr → TS) (Wo : WX) (D : Ends) : WX := fun cls d σ H =>
  ∃ b, PySem.W.exmOne K cls c = some b ∧ (b = true → ∃ C, cls = .ref C ∧ ∀ a, H a = none → ts a cls d { nx := fun σ' G => D.nx (σ'.set i none) G, rt := fun _ _ => False, bk := fun _ _ => False, ct := fun _ _ => False } (σ.set i (some (.ref a))) (upd H a (exv a C d))) ∧ (b = false → Wo cls d σ H)
variable {x n : Str} {c : Value} {i : Nat} {body suite : List Stmt} {st : Stmt} {np pos pos' : Pos} {tb : WX → TS} {ts : Addr → Value → Option Addr → TS} {Wo : WX}
theorem ps_try_work (stk : X.stack = X.env :: X.outer) (frm : X.env.frame = some X.env.locals) (noex : X.ex = []) (nd : X.N.Nodup) (at_ : X.N[i]? = some n) (lc : X.env.kindOf n = some .local) (nm : Names X x c) (tk : Takes X Wo)
    (kb : ∀ (W : WX) (pn : List (Addr × Obj)) (xe : Value → Shared → Prop), Takes (X.tr pn xe) W → PassesOwn (model X.prog X.w) X.A X.env xe → PSs (X.tr pn xe) body (tb W))
    (ks : ∀ (a : Addr) (oe : Obj) (cls : Value) (d : Option Addr) (pn : List (Addr × Obj)), Zc cls d oe → (∃ vs, oe.data = .fields vs) → PSs (X.suite a pn) (st :: suite) (ts a cls d)) :
    PS X (.Try body [.ExceptHandler (some (.Name x np)) (some n) (st :: suite) pos'] [] [] pos) (fun D σ H => tb (wKq X.K c i ts Wo D) D σ H) := by
  refine ⟨fun pq s σ H D I h => ?_⟩
  have good := I.ok
  have frames : X.A.frames = some (X.env :: X.outer) := by rw [good.frames, stk]
  refine wpAny_Try_except (wpAny_mono ((kb (wKq X.K c i ts Wo D) (X.pn ++ pq) (fun e s₁ => wpAny (model X.prog X.w) X.A (noteFrame e X.env) (fun _ s₂ => wpAny (model X.prog X.w) X.A (setFlight e none) (fun _ s₃ =>
    wpAny (model X.prog X.w) X.A (handleBy e X.env [.ExceptHandler (some (.Name x np)) (some n) (st :: suite) pos']) (SP X pq D) X.xe s₃) X.xe s₂) X.xe s₁) ?_ PassesOwn.looking).run [] s σ H D (I.toTry _) h) ?_ fun _ _ z => z)
  · rintro _ t ⟨a, B, sI, pr, τ, G, cls, d, rfl, J0, nb, up, sky, na, os, ag, b, kb1, yes, no⟩
    have J : Inv X pq τ G sI := J0.ofTry good
    rw [stk] at sky
    change wpAny (model X.prog X.w) X.A (noteFrame (.ref a) X.env) _ _ _
    refine Sky.land Zc.steady frames frm sky fun g3 fly up3 => ?_
    have J3 : Inv X pq τ G { t with heap := g3 } := J.landed nb fly.1 (up.trans up3) os ag
    obtain ⟨oe, vs, ge, ze, de⟩ := fly.there
    have off : a ∉ frs (X.env :: X.outer) := fun k => by
      obtain ⟨_, o', g', dn⟩ := fly.2.2.1.mem k
      rw [ge] at g'
      cases g'
      exact dn _ de
    have offL : a ≠ X.env.locals := fun k => off (List.mem_filterMap.mpr ⟨X.env, List.mem_cons_self, by rw [frm, k]⟩)
    have offF : a ∉ X.fs := fun k => let ⟨e, me, q⟩ := List.mem_filterMap.mp k; off (List.mem_filterMap.mpr ⟨e, List.mem_cons_of_mem _ me, q⟩)
    -- the exception is newer than all that stood where it was caught
    have late : sI.heap.get? a = none := by
      cases k : sI.heap.get? a with
      | none => rfl
      | some o =>
        have w := nb a o k (by rw [stk]; exact off)
        rw [fly.2.1] at w
        cases w
    have late0 : X.s_0.heap.get? a = none := by
      cases k : X.s_0.heap.get? a with
      | none => rfl
      | some o =>
        obtain ⟨o', w⟩ := J.base.there a o k (by rw [noex]; exact fun z => nomatch z)
        rw [late] at w
        cases w
    have apart : ∀ p ∈ X.pn ++ pq, p.1 ≠ a := fun p mp k => by
      have w := (J.pin p mp).1
      rw [k, late] at w
      cases w
    have S3 := J3.suite ge de na offL offF
    refine wpAny_handleBy_cons (codeAny_handlers_test ?_) (fun q => nomatch q)
    have kind : PySem.W.Looks (model X.prog X.w) g3 (typeOf (.ref a)) cls := fun A Q E s k q => wpAny_typeOf_ref (k _ _ ge) (by rw [ze.1]; exact q)
    have LM := PySem.W.exm_one (M := model X.prog X.w) J3.kIn kind kb1
    have ask : ∀ {Q E : Value → Shared → Prop}, Q c { t with heap := g3 } → wpAny (model X.prog X.w) (X.A.mark (some (.ref a))) (eval (.Name x np) X.env) Q E { t with heap := g3 } := fun q => by
      obtain ⟨gl, db, m | ⟨m, bv, ne⟩⟩ := nm
      · exact ld_glob (X := X.suite a ((a, oe) :: (X.pn ++ pq))) S3 gl m q db
      · exact ld_blt (X := X.suite a ((a, oe) :: (X.pn ++ pq))) S3 gl m bv q ne db
    refine ask (LM.here ?_)
    cases b with
    | true =>
      obtain ⟨C, rfl, go⟩ := yes rfl
      refine codeAny_handlers_suite_as (HandSPX.lands_againZ fly fun g4 fly4 up4 => ?_)
      have J4 : Inv X pq τ G { t with heap := g4 } := J.landed nb fly4.1 ((up.trans up3).trans up4) os ag
      obtain ⟨oe4, vs4, ge4, ze4, de4⟩ := fly4.there
      have S4 := J4.suite ge4 de4 na offL offF
      refine store_ok (X := X.suite a ((a, oe4) :: (X.pn ++ pq))) (v := .ref a) S4 nd at_ (.inl lc) rfl (fun s5 S5 => ?_) (.inr lc)
      have S6 : Inv (X.suite a (X.pn ++ pq)) [(a, oe4)] (τ.set i (some (.ref a))) G s5 := ⟨good.suite _ _, S5.os, S5.bare, S5.base, S5.loc, S5.cell, S5.free, S5.freeC, fun p hp => S5.pin p (by
        rw [List.append_nil]
        rcases List.mem_append.mp hp with z | z
        · exact List.mem_cons_of_mem _ z
        · rw [List.mem_singleton.mp z]; exact List.mem_cons_self), S5.hok, S5.len⟩
      have T6 : Inv (X.suite a (X.pn ++ pq)) [] (τ.set i (some (.ref a))) (upd G a (exv a C d)) s5 := track (X := X.suite a (X.pn ++ pq)) (pins := []) S6 late0 (fun p mp => apart p (by rw [List.append_nil] at mp; exact mp)) ze4 de4
      refine wpAny_mono ((ks a oe4 (.ref C) d (X.pn ++ pq) ze4 ⟨_, de4⟩).run [] s5 _ _ _ T6 (go a na)) ?_ (fun _ _ z => z.elim)
      rintro (_ | _ | _ | u) s6 z
      · obtain ⟨σ6, H6, S6, q6⟩ := z
        exact gone_ok (unsuite2 S6 good) nd at_ lc fun s7 J7 => ⟨_, _, J7, q6⟩
      · obtain ⟨_, _, _, q6⟩ := z
        exact q6.elim
      · obtain ⟨_, _, _, q6⟩ := z
        exact q6.elim
      · obtain ⟨_, _, _, _, _, q6⟩ := z
        exact q6.elim
    | false =>
      change wpAny _ X.A (handleBy (.ref a) X.env []) _ _ _
      refine wpAny_handleBy_nil ?_
      obtain ⟨_, _, _, oe, vs, T, oT, tt, ge, ze, de, v1, _⟩ := id fly
      unfold PySem.passOn
      refine wpAny_bind (wpAny_field ge de v1 ?_)
      rw [if_neg (show ¬ ((Value.ref T == Value.none) = true) from by simp)]
      have on : wpAny (model X.prog X.w) X.A (setFlight (.ref a) X.env.frame) (fun _ s4 => wpAny (model X.prog X.w) X.A (throw (.ref a) : Sem Flow) (SP X pq D) X.xe s4) X.xe { t with heap := g3 } := by
        rw [frm]
        exact HandSPX.setFlight_upZ fly fun g4 held up4 => wpAny_throw (tk _ _ ⟨a, B, sI, pq, τ, G, cls, d, rfl, J, nb, (up.trans up3).trans up4, .inr (.inr (by rw [stk]; exact held)), na, os, ag, no rfl⟩)
      first
        | exact wpAny_bind (wpAny_pure (wpAny_bind on))
        | exact wpAny_bind on
  · rintro (_ | _ | _ | u) t z
    · obtain ⟨σ', H', J', q⟩ := z
      exact wpAny_execs_nil ⟨σ', H', J'.ofTry good, q⟩
    · obtain ⟨σ', H', J', q⟩ := z
      exact ⟨σ', H', J'.ofTry good, q⟩
    · obtain ⟨σ', H', J', q⟩ := z
      exact ⟨σ', H', J'.ofTry good, q⟩
    · obtain ⟨v, σ', H', J', r, q⟩ := z
      exact ⟨v, σ', H', J'.ofTry good, r, q⟩
end
end DL

set_option Elab.async false
set_option linter.all false
set_option maxRecDepth 100000
set_option maxHeartbeats 1200000
/-! facts of error classes as Booleans, by names; a hook that looks at further Booleans -/
namespace DL
open He L2 PySem PySem.Spec PyProof.Rows
/-- an own error class somewhere below ValueError, as it is made -/
def oexB (K : PySem.W.Frag) (C : Addr) : Bool := match K.lookup C with
  | some ⟨.type "type", _, .cls cd, sl⟩ => (match cd.mro, sl.toList with
    | .ref C' :: bm, [_, _, _, _, some (.builtin n), _] => C' == C && (n == "ValueError.__new__" && (cd.hasDict && (!cd.hasDel && PySem.HandSPX.refsVE bm)))
    | _, _ => false)
  | _ => false
theorem oexB_ok {K : PySem.W.Frag} {C : Addr} (q : oexB K C = true) : ∃ nm q N bs bm sn sub ab col dd k0 k1 k2 k3 k5, K.lookup C = some (excClassObj nm q C N bs bm true sn sub ab col dd k0 k1 k2 k3 k5 "ValueError.__new__") ∧ PySem.HandSPX.refsVE bm = true := by
  unfold oexB at q
  split at q
  · rename_i dd cd sl ho
    split at q
    · rename_i C' bm k0 k1 k2 k3 n k5 em es
      obtain ⟨c1, q⟩ := ba q
      obtain ⟨c2, q⟩ := ba q
      obtain ⟨c3, q⟩ := ba q
      obtain ⟨c4, c5⟩ := ba q
      obtain ⟨nm, bs, mro, ns, qn, hd, sn, sub, ab, col, del⟩ := cd
      obtain ⟨l⟩ := sl
      dsimp only at em es c3 c4
      have e1 : C' = C := beq_iff_eq.mp c1
      have e2 : n = "ValueError.__new__" := beq_iff_eq.mp c2
      have e4 : del = false := by
        cases del
        · rfl
        · cases c4
      subst em es c3 e1 e2 e4
      exact ⟨nm, qn, ns, bs, bm, sn, sub, ab, col, dd, k0, k1, k2, k3, k5, ho, c5⟩
    · cases q
  · cases q
def errB (K : PySem.W.Frag) (C : Addr) : Bool :=
  oexB K C && (eqO (PySem.W.findIn K (.ref C) "__setattr__") (some (some (.builtin "object.__setattr__"))) && (decide (PySem.W.subIn K (.ref C) (.type "BaseException") = some true) && (decide (PySem.W.typeIn K (.ref C) = some (.type "type")) &&
    (PySem.W.keepIn K (.ref C) && (xfB K C && (eqO (PySem.W.findIn K (.ref C) "__class__") (some (some (.builtin "object.__class__"))) && (eqO (PySem.W.specialIn K (.builtin "object.__class__") "__get__") (some (some (.builtin "getset_descriptor.__get__"))) &&
      (decide (PySem.W.takesIn K (.builtin "object.__class__") = some true) && decide (PySem.W.mroIn K C (.type "object") = some true)))))))))
/-- all that is asked of such a class -/
structure ErrC (K : PySem.W.Frag) (C : Addr) : Prop where
  oe : OexC K C
  xf : XfC K C
  is : ExcC K C
theorem errB_ok {K : PySem.W.Frag} {C : Addr} (q : errB K C = true) : ErrC K C := by
  obtain ⟨c1, q⟩ := ba q
  obtain ⟨c2, q⟩ := ba q
  obtain ⟨c3, q⟩ := ba q
  obtain ⟨c4, q⟩ := ba q
  obtain ⟨c5, q⟩ := ba q
  obtain ⟨c6, q⟩ := ba q
  obtain ⟨c7, q⟩ := ba q
  obtain ⟨c8, q⟩ := ba q
  obtain ⟨c9, c0⟩ := ba q
  have X := xfB_ok c6
  exact ⟨⟨oexB_ok c1, eqO_ok c2, of_decide_eq_true c3, of_decide_eq_true c4, c5⟩, X, ⟨X.ga, X.gg, X.exC, X.hdC, eqO_ok c7, eqO_ok c8, of_decide_eq_true c9, of_decide_eq_true c0⟩⟩
/-- a class by its name -/
def errN (x : Str) (K : PySem.W.Frag) : Bool := errB K (ga K x)
/-- its own __init__, a function that is there -/
def iniN (x : Str) (K : PySem.W.Frag) : Bool := eqO (PySem.W.findIn K (.ref (ga K x)) "__init__") (some (some (.ref (ma K (ga K x) "__init__")))) && decide (PySem.W.typeIn K (.ref (ma K (ga K x) "__init__")) = some (.type "function"))
theorem iniN_ok {x : Str} {K : PySem.W.Frag} (q : iniN x K = true) : PySem.W.findIn K (.ref (ga K x)) "__init__" = some (some (.ref (ma K (ga K x) "__init__"))) ∧ PySem.W.typeIn K (.ref (ma K (ga K x) "__init__")) = some (.type "function") := by
  obtain ⟨c1, c2⟩ := ba q
  exact ⟨eqO_ok c1, of_decide_eq_true c2⟩
/-- no such attribute of the class -/
def noN (x f : Str) (K : PySem.W.Frag) : Bool := eqO (PySem.W.findIn K (.ref (ga K x)) f) (some none)
theorem noN_ok {x f : Str} {K : PySem.W.Frag} (q : noN x f K = true) : PySem.W.findIn K (.ref (ga K x)) f = some none := eqO_ok q
/-- is the one class below the other -/
def kitN (x y : Str) (b : Bool) (K : PySem.W.Frag) : Bool := decide (PySem.W.kitOne K (.ref (ga K x)) (.ref (ga K y)) = some b)
theorem kitN_ok {x y : Str} {b : Bool} {K : PySem.W.Frag} (q : kitN x y b K = true) : PySem.W.kitOne K (.ref (ga K x)) (.ref (ga K y)) = some b := of_decide_eq_true q
/-! ### the hook -/
abbrev AlB : Type := AlD × Bool
def obsB (fa : List Fa) (fn : List DefD) (bs : List (PySem.W.Frag → Bool)) (K : PySem.W.Frag) : AlB := (obsD fa fn K, bs.all fun b => b K)
def valB (fn : List DefD) : AlB := (valD fn, true)
def SaysB (fa : List Fa) (fn : List DefD) (bs : List (PySem.W.Frag → Bool)) (K : PySem.W.Frag) : Prop := obsB fa fn bs K = valB fn
def obsBG (n : Nat) (fa : List Fa) (fn : List DefD) (bs : List (PySem.W.Frag → Bool)) (g : Addr → Option Obj) : AlB := obsB fa fn bs (frG g (asD g n))
def hookB (n : Nat) (fa : List Fa) (fn : List DefD) (bs : List (PySem.W.Frag → Bool)) : PySem.W.Hook where
  α := AlB
  obs := fun s => obsBG n fa fn bs s.heap.get?
  val := fun _ => valB fn
  says := fun _ h => ∃ K : PySem.W.Frag, K.In h ∧ SaysB fa fn bs K
  of := fun _ _ e => ⟨_, frG_in, e⟩
  keeps := fun _ _ _ ⟨K, inK, c⟩ k => ⟨K, PySem.W.Frag.In.keeps inK k, c⟩
theorem obsBG_eq {n : Nat} {fa : List Fa} {fn : List DefD} {bs : List (PySem.W.Frag → Bool)} {g : Addr → Option Obj} {s : Shared} (h : ∀ a, g a = s.heap.get? a) : obsBG n fa fn bs g = (hookB n fa fn bs).obs s := by
  rw [show g = s.heap.get? from funext h] <;> rfl
theorem SaysB.d {fa : List Fa} {fn : List DefD} {bs : List (PySem.W.Frag → Bool)} {K : PySem.W.Frag} (c : SaysB fa fn bs K) : SaysD fa fn K := congrArg (fun z : AlB => z.1) c
theorem SaysB.b {fa : List Fa} {fn : List DefD} {bs : List (PySem.W.Frag → Bool)} {K : PySem.W.Frag} (c : SaysB fa fn bs K) (i : Nat) {f : PySem.W.Frag → Bool} (h : bs[i]? = some f := by rfl) : f K = true :=
  List.all_eq_true.mp (congrArg (fun z : AlB => z.2) c) f (List.mem_of_getElem? h)
end DL

set_option Elab.async false
set_option linter.all false
set_option maxRecDepth 100000
set_option maxHeartbeats 1200000
/-! further rules: a < b < c -/
namespace DL
open L2 PySem PySem.Spec PyProof.Rows
section
variable {K : PySem.W.Frag} {σ : L2.St} {F : Hp} {ta tb tc : TE} {T1 T2 T3 : Ty} {b b2 : Bool} {r r' : R2}
theorem ev_chain (ha : Ev ta σ F T1) (hb : Ev tb σ F T2) (hr : RV r T1 T2 F (TD K (.bool b))) (hc : b = true → Ev tc σ F T3) (hr' : b = true → RV r' T2 T3 F (TD K (.bool b2))) : Ev (tChain r r' ta tb tc) σ F (TD K (.bool (b && b2))) := fun H f Q q =>
  ha H f _ fun x F1 H1 s1 hx => (hb.up s1.ff) H1 s1.fh _ fun y F2 H2 s2 hy => hr x y F2 H2 (s1.ff.trans s2.ff) s2.fh (T1.m s2.ff hx) hy _ fun z F3 H3 s3 hz => ⟨b, dp_bool hz, by
    have s13 := (s1.trans s2).trans s3
    cases b with
    | false =>
      rw [if_neg Bool.false_ne_true]
      exact q _ F3 H3 s13 (.bl false)
    | true =>
      rw [if_pos rfl]
      exact ((hc rfl).up s13.ff) H3 s3.fh _ fun w F4 H4 s4 hw => hr' rfl y w F4 H4 (s13.ff.trans s4.ff) s4.fh (T2.m (s3.ff.trans s4.ff) hy) hw Q fun v F5 H5 s5 hv => q v F5 H5 ((s13.trans s4).trans s5) hv⟩
/-- how given arguments are put in place, of a def without defaults -/
theorem fun_bindsTo {K : PySem.W.Frag} {x qual : Str} {st : Stmt} {f : Addr} {fd : FuncData} (U : Fun K x qual st f fd) {args : Args} {b : List (Str × Value)} (s : Shared)
    (h : ∀ (kV doc pm : Value) (an : Option Addr) (cdv ct : Value), bindArgs (PySem.W.fnOf x qual (defArgs st) (defBody st) (defScope st) .none kV doc pm an cdv ct) args = pure b) : BindsTo s fd args b := by
  obtain ⟨oc, od, kV, doc, pm, an, cdv, ct, osl, rfl, _⟩ := U.ex
  exact BindsTo.of_eq (h kV doc pm an cdv ct)
/-- f(k = v, ..), all by name -/
theorem pe_callN {X : Cx} {CX : CXT} {k : Nat} {f : Addr} {fd : FuncData} {ps ks : List Str} {sp : Sp} {E : XK} {x : Str} {p pos : Pos} {kws : List Keyword} {tk : TA} {g : List Value → List Value → List Value} {gV : List V → List V → List V}
    (fn : FnOk X.prog X.w X.K X.mg X.base CX k f fd ps sp) (room : Room k X.A) (gl : Gl X x) (at_ : X.mg x = some (.ref f)) (kp : PySem.W.keepIn X.K (.ref f) = true) (kb : KBinds X.K fd ps ks g gV) (no : Passes CX X E)
    (kk : PK X kws tk) (all : (backToKw pos (keywordEach kws X.env)).all (·.1.isSome) = true := by rfl) (nm : (backToKw pos (keywordEach kws X.env)).filterMap (·.1) = ks := by rfl)
    (db : (x == ("__debug__" : Str)) = false := by decide) (pl : ((backTo pos (starEach [] X.env)).any (·.1) || (backToKw pos (keywordEach kws X.env)).any (·.1.isNone)) = false := by rfl) :
    PE X (.Call (.Name x p) [] kws pos) (tCallK sp gV E tNil tk) := ⟨fun pn s σ H Q I h => by
  refine wpAny_Call_Name_kw (ld_glob I gl at_ (PySem.W.callWith_KW0 (h₀ := X.base) I.ok.mod.kin kp all (thn (kk.run pos pn s σ H _ I h) fun ws s2 ⟨zs, H2, I2, rz, q2⟩ => ⟨I2.kIn, ?_⟩) pl) db)
  rw [nm]
  exact run_fnk (us := []) (vs := []) fn room kb no I2 .nil rz q2⟩
theorem ev_callN {R : List Ty → Ty → Prop} {Rx : List Ty → Addr → Str → Ty → Prop} {E : XK} {tk : TA} {gV : List V → List V → List V} {Ks Ts : List Ty} {T : Ty} (hk : EvA tk σ F Ks) (hg : ∀ zs F, All2 F zs Ks → All2 F (gV [] zs) Ts) (hR : R Ts T) : Ev (tCallK (spE R Rx) gV E tNil tk) σ F T := fun H f Q q =>
  hk H f _ fun zs F2 H2 s hv => ⟨F2, Ts, s.fh, hg _ _ hv, .inl ⟨T, hR, fun v F3 H3 s3 h => q v F3 H3 (s.trans s3) h⟩⟩
theorem ev_callNP {R : List Ty → Ty → Prop} {E : XK} {tk : TA} {gV : List V → List V → List V} {Ks Ts : List Ty} {T : Ty} (hk : EvA tk σ F Ks) (hg : ∀ zs F, All2 F zs Ks → All2 F (gV [] zs) Ts) (hR : R Ts T) : Ev (tCallK (spP R) gV E tNil tk) σ F T := fun H f Q q =>
  hk H f _ fun zs F2 H2 s hv => ⟨F2, Ts, T, s.fh, hg _ _ hv, hR, fun v F3 H3 s3 h => q v F3 H3 (s.trans s3) h⟩
end
end DL

set_option Elab.async false
set_option linter.all false
set_option maxRecDepth 100000
set_option maxHeartbeats 1200000
/-! E: a law's text as a program over plain data. Here: the data, what stands for them in a heap that grows. -/
namespace E
open L2 PySem PySem.Spec PyProof.Rows DL
open Evl (sq_of st_of sz_of sz_lt)
/-- data, own instances and errors among them -/
inductive Dt where
  | non | bl (b : Bool) | int (i : Int) | str (x : Str) | lst (ds : List Dt) | tup (ds : List Dt)
  | obj (C : Addr) (fs : List (Str × Dt)) | exn (C : Addr) (fs : List (Str × Dt)) | ty (n : String) | cls (C : Addr) | dct (kvs : List (Key × Dt)) | dctT (kvs : List (List Key × Dt))
mutual
inductive Rp (K : PySem.W.Frag) (H : Hp) : V → Dt → Prop
  | non : Rp K H .non .non
  | bl (b : Bool) : Rp K H (.bl b) (.bl b)
  | int (i : Int) : Rp K H (.int i) (.int i)
  | str (x : Str) : Rp K H (.str x) (.str x)
  | lst {a : Addr} {xs : List V} {ds : List Dt} : SqL K H a xs → RpA K H xs ds → Rp K H (.ref a) (.lst ds)
  | tup {a : Addr} {xs : List V} {ds : List Dt} : SqT K H a xs → RpA K H xs ds → Rp K H (.ref a) (.tup ds)
  | obj {a C dx : Addr} {fv : List (Str × V)} {fs : List (Str × Dt)} : H a = some (.ins C dx fv) → RpF K H fv fs → Rp K H (.ref a) (.obj C fs)
  | exn {a C : Addr} {fv : List (Str × V)} {fs : List (Str × Dt)} : IsX H a C fv → RpF K H fv fs → Rp K H (.ref a) (.exn C fs)
  | ty (n : String) : Rp K H (.ty n) (.ty n)
  | cls (C : Addr) : Rp K H (.ref C) (.cls C)
  | dct {a : Addr} {kv : List (Key × V)} {kvs : List (Key × Dt)} : H a = some (.dK kv) → RpD K H kv kvs → Rp K H (.ref a) (.dct kvs)
  | dctT {a : Addr} {kv : List (List Key × V)} {kvs : List (List Key × Dt)} : H a = some (.dT kv) → RpT K H kv kvs → Rp K H (.ref a) (.dctT kvs)
inductive RpA (K : PySem.W.Frag) (H : Hp) : List V → List Dt → Prop
  | nil : RpA K H [] []
  | cons {v : V} {d : Dt} {vs : List V} {ds : List Dt} : Rp K H v d → RpA K H vs ds → RpA K H (v :: vs) (d :: ds)
inductive RpF (K : PySem.W.Frag) (H : Hp) : List (Str × V) → List (Str × Dt) → Prop
  | nil : RpF K H [] []
  | cons {x : Str} {v : V} {d : Dt} {fv : List (Str × V)} {fs : List (Str × Dt)} : Rp K H v d → RpF K H fv fs → RpF K H ((x, v) :: fv) ((x, d) :: fs)
inductive RpD (K : PySem.W.Frag) (H : Hp) : List (Key × V) → List (Key × Dt) → Prop
  | nil : RpD K H [] []
  | cons {x : Key} {v : V} {d : Dt} {fv : List (Key × V)} {fs : List (Key × Dt)} : Rp K H v d → RpD K H fv fs → RpD K H ((x, v) :: fv) ((x, d) :: fs)
inductive RpT (K : PySem.W.Frag) (H : Hp) : List (List Key × V) → List (List Key × Dt) → Prop
  | nil : RpT K H [] []
  | cons {x : List Key} {v : V} {d : Dt} {fv : List (List Key × V)} {fs : List (List Key × Dt)} : Rp K H v d → RpT K H fv fs → RpT K H ((x, v) :: fv) ((x, d) :: fs)
end
/-! no list within -/
mutual
def nl : Dt → Bool
  | .lst _ => false
  | .tup ds => nlA ds
  | .obj _ fs => nlF fs
  | .exn _ fs => nlF fs
  | .dct _ => false
  | .dctT _ => false
  | _ => true
def nlA : List Dt → Bool
  | [] => true
  | d :: ds => nl d && nlA ds
def nlF : List (Str × Dt) → Bool
  | [] => true
  | (_, d) :: fs => nl d && nlF fs
end
/-- what a heap H' keeps of H but for lists and dicts that go -/
def Less (H H' : Hp) : Prop := ∀ a o, H a = some o → H' a = some o ∨ (∃ xs, o = .lst xs) ∨ (∃ kvs, o = .dK kvs) ∨ ∃ kvs, o = .dT kvs
theorem Less.of {H H' : Hp} (e : Same H H') : Less H H' := fun a o h => .inl (e a o h)
section
variable {K : PySem.W.Frag} {H H' : Hp}
theorem Less.at {a : Addr} {o : HO} (e : Less H H') (h : H a = some o) (n1 : ∀ xs, o ≠ .lst xs) (n2 : ∀ k, o ≠ .dK k) (n3 : ∀ k, o ≠ .dT k) : H' a = some o := by
  rcases e a o h with q | ⟨xs, q⟩ | ⟨k, q⟩ | ⟨k, q⟩
  · exact q
  · exact absurd q (n1 xs)
  · exact absurd q (n2 k)
  · exact absurd q (n3 k)
theorem less_t {a : Addr} {xs : List V} (e : Less H H') (h : SqT K H a xs) : SqT K H' a xs := by
  rcases h with (h | ⟨o, h⟩) | h
  · exact .inl (.inl (e.at h (fun _ z => by cases z) (fun _ z => by cases z) (fun _ z => by cases z)))
  · exact .inl (.inr ⟨o, e.at h (fun _ z => by cases z) (fun _ z => by cases z) (fun _ z => by cases z)⟩)
  · exact .inr h
theorem less_x {a C : Addr} {fs : List (Str × V)} (e : Less H H') (h : IsX H a C fs) : IsX H' a C fs := by
  obtain ⟨d, h1, h2⟩ := h
  refine ⟨d, h1.imp (fun q => e.at q (fun _ z => by cases z) (fun _ z => by cases z) (fun _ z => by cases z)) (fun q => e.at q (fun _ z => by cases z) (fun _ z => by cases z) (fun _ z => by cases z)), h2.imp (fun q => e.at q (fun _ z => by cases z) (fun _ z => by cases z) (fun _ z => by cases z)) (fun q => e.at q (fun _ z => by cases z) (fun _ z => by cases z) (fun _ z => by cases z))⟩
mutual
theorem rp_less (e : Less H H') : ∀ {d : Dt} {v : V}, nl d = true → Rp K H v d → Rp K H' v d
  | .non, _, _, h => by cases h; exact .non
  | .bl b, _, _, h => by cases h; exact .bl b
  | .int i, _, _, h => by cases h; exact .int i
  | .str x, _, _, h => by cases h; exact .str x
  | .lst ds, _, n, h => by cases n
  | .tup ds, _, n, h => by
    cases h with
    | tup hs ha => exact .tup (less_t e hs) (rpA_less e (show nlA ds = true from n) ha)
  | .obj C fs, _, n, h => by
    cases h with
    | obj h1 h2 => exact .obj (e.at h1 (fun _ z => by cases z) (fun _ z => by cases z) (fun _ z => by cases z)) (rpF_less e (show nlF fs = true from n) h2)
  | .exn C fs, _, n, h => by
    cases h with
    | exn h1 h2 => exact .exn (less_x e h1) (rpF_less e (show nlF fs = true from n) h2)
  | .ty _, _, _, h => by cases h; exact .ty _
  | .cls _, _, _, h => by cases h; exact .cls _
  | .dct _, _, n, h => by cases n
  | .dctT _, _, n, h => by cases n
theorem rpA_less (e : Less H H') : ∀ {ds : List Dt} {vs : List V}, nlA ds = true → RpA K H vs ds → RpA K H' vs ds
  | [], _, _, h => by cases h; exact .nil
  | d :: ds, _, n, h => by
    have n : (nl d && nlA ds) = true := n
    rw [Bool.and_eq_true] at n
    cases h with
    | cons h1 h2 => exact .cons (rp_less e n.1 h1) (rpA_less e n.2 h2)
theorem rpF_less (e : Less H H') : ∀ {fs : List (Str × Dt)} {fv : List (Str × V)}, nlF fs = true → RpF K H fv fs → RpF K H' fv fs
  | [], _, _, h => by cases h; exact .nil
  | (x, d) :: fs, _, n, h => by
    have n : (nl d && nlF fs) = true := n
    rw [Bool.and_eq_true] at n
    cases h with
    | cons h1 h2 => exact .cons (rp_less e n.1 h1) (rpF_less e n.2 h2)
end
mutual
theorem rp_mono (e : Same H H') : ∀ {d : Dt} {v : V}, Rp K H v d → Rp K H' v d
  | .non, _, h => by cases h; exact .non
  | .bl b, _, h => by cases h; exact .bl b
  | .int i, _, h => by cases h; exact .int i
  | .str x, _, h => by cases h; exact .str x
  | .lst ds, _, h => by
    cases h with
    | lst hs ha => exact .lst (same_l e hs) (rpA_mono e ha)
  | .tup ds, _, h => by
    cases h with
    | tup hs ha => exact .tup (same_t e hs) (rpA_mono e ha)
  | .obj C fs, _, h => by
    cases h with
    | obj h1 h2 => exact .obj (e _ _ h1) (rpF_mono e h2)
  | .exn C fs, _, h => by
    cases h with
    | exn h1 h2 => exact .exn (h1.mono e) (rpF_mono e h2)
  | .ty _, _, h => by cases h; exact .ty _
  | .cls _, _, h => by cases h; exact .cls _
  | .dct _, _, h => by
    cases h with
    | dct h h2 => exact .dct (e _ _ h) (rpD_mono e h2)
  | .dctT _, _, h => by
    cases h with
    | dctT h h2 => exact .dctT (e _ _ h) (rpT_mono e h2)
theorem rpA_mono (e : Same H H') : ∀ {ds : List Dt} {vs : List V}, RpA K H vs ds → RpA K H' vs ds
  | [], _, h => by cases h; exact .nil
  | d :: ds, _, h => by
    cases h with
    | cons h1 h2 => exact .cons (rp_mono e h1) (rpA_mono e h2)
theorem rpF_mono (e : Same H H') : ∀ {fs : List (Str × Dt)} {fv : List (Str × V)}, RpF K H fv fs → RpF K H' fv fs
  | [], _, h => by cases h; exact .nil
  | (x, d) :: fs, _, h => by
    cases h with
    | cons h1 h2 => exact .cons (rp_mono e h1) (rpF_mono e h2)
theorem rpD_mono (e : Same H H') : ∀ {fs : List (Key × Dt)} {fv : List (Key × V)}, RpD K H fv fs → RpD K H' fv fs
  | [], _, h => by cases h; exact .nil
  | (x, d) :: fs, _, h => by
    cases h with
    | cons h1 h2 => exact .cons (rp_mono e h1) (rpD_mono e h2)
theorem rpT_mono (e : Same H H') : ∀ {fs : List (List Key × Dt)} {fv : List (List Key × V)}, RpT K H fv fs → RpT K H' fv fs
  | [], _, h => by cases h; exact .nil
  | (x, d) :: fs, _, h => by
    cases h with
    | cons h1 h2 => exact .cons (rp_mono e h1) (rpT_mono e h2)
end
variable {v : V} {vs us : List V} {d : Dt} {ds es : List Dt}
theorem rp_int {i : Int} (h : Rp K H v (.int i)) : v = .int i := by cases h; rfl
theorem rp_bl {b : Bool} (h : Rp K H v (.bl b)) : v = .bl b := by cases h; rfl
theorem rp_str {x : Str} (h : Rp K H v (.str x)) : v = .str x := by cases h; rfl
theorem rp_non (h : Rp K H v .non) : v = .non := by cases h; rfl
theorem rp_ty {n : String} (h : Rp K H v (.ty n)) : v = .ty n := by cases h; rfl
theorem rp_cls {C : Addr} (h : Rp K H v (.cls C)) : v = .ref C := by cases h; rfl
theorem rp_lst (h : Rp K H v (.lst ds)) : ∃ a xs, v = .ref a ∧ SqL K H a xs ∧ RpA K H xs ds := by cases h with | lst hs ha => exact ⟨_, _, rfl, hs, ha⟩
theorem rp_tup (h : Rp K H v (.tup ds)) : ∃ a xs, v = .ref a ∧ SqT K H a xs ∧ RpA K H xs ds := by cases h with | tup hs ha => exact ⟨_, _, rfl, hs, ha⟩
theorem rp_obj {C : Addr} {fs : List (Str × Dt)} (h : Rp K H v (.obj C fs)) : ∃ a dx fv, v = .ref a ∧ H a = some (.ins C dx fv) ∧ RpF K H fv fs := by cases h with | obj h1 h2 => exact ⟨_, _, _, rfl, h1, h2⟩
theorem rp_exn {C : Addr} {fs : List (Str × Dt)} (h : Rp K H v (.exn C fs)) : ∃ a fv, v = .ref a ∧ IsX H a C fv ∧ RpF K H fv fs := by cases h with | exn h1 h2 => exact ⟨_, _, rfl, h1, h2⟩
theorem rpA_len : ∀ {ds : List Dt} {vs : List V}, RpA K H vs ds → vs.length = ds.length
  | [], _, h => by cases h; rfl
  | d :: ds, _, h => by cases h with | cons h1 h2 => rw [List.length_cons, List.length_cons, rpA_len h2]
theorem rpA_get : ∀ {ds : List Dt} {vs : List V} {i : Nat} {d : Dt}, RpA K H vs ds → ds[i]? = some d → ∃ v, vs[i]? = some v ∧ Rp K H v d
  | [], _, _, _, _, e => by simp at e
  | d :: ds, _, 0, d', h, e => by
    cases h with
    | cons h1 h2 =>
      have e1 : d = d' := by simpa using e
      subst e1
      exact ⟨_, rfl, h1⟩
  | d :: ds, _, i + 1, d', h, e => by
    cases h with
    | cons h1 h2 =>
      obtain ⟨v, h3, h4⟩ := rpA_get (i := i) h2 (by simpa using e)
      exact ⟨v, by simpa using h3, h4⟩
theorem rpA_at {i : Nat} (h : RpA K H vs ds) (e : vs[i]? = some v) : ∃ d, ds[i]? = some d ∧ Rp K H v d := by
  have hl := rpA_len h
  obtain ⟨hi, _⟩ := List.getElem?_eq_some_iff.mp e
  have hi' : i < ds.length := by omega
  obtain ⟨w, h3, h4⟩ := rpA_get h (List.getElem?_eq_getElem hi')
  rw [h3] at e
  cases e
  exact ⟨_, List.getElem?_eq_getElem hi', h4⟩
theorem rpA_app : ∀ {ds : List Dt} {vs : List V}, RpA K H vs ds → RpA K H us es → RpA K H (vs ++ us) (ds ++ es)
  | [], _, h, h' => by cases h; exact h'
  | d :: ds, _, h, h' => by cases h with | cons h1 h2 => exact .cons h1 (rpA_app h2 h')
theorem rpA_take : ∀ {n : Nat} {ds : List Dt} {vs : List V}, RpA K H vs ds → RpA K H (vs.take n) (ds.take n)
  | 0, _, _, _ => by rw [List.take_zero, List.take_zero]; exact .nil
  | n + 1, [], _, h => by cases h; exact .nil
  | n + 1, d :: ds, _, h => by cases h with | cons h1 h2 => exact .cons h1 (rpA_take h2)
theorem rpA_drop : ∀ {n : Nat} {ds : List Dt} {vs : List V}, RpA K H vs ds → RpA K H (vs.drop n) (ds.drop n)
  | 0, _, _, h => h
  | n + 1, [], _, h => by cases h; exact .nil
  | n + 1, d :: ds, _, h => by
    cases h with
    | cons h1 h2 =>
      rw [List.drop_succ_cons, List.drop_succ_cons]
      exact rpA_drop h2
theorem rpA_set : ∀ {n : Nat} {ds : List Dt} {vs : List V}, RpA K H vs ds → Rp K H v d → RpA K H (vs.set n v) (ds.set n d)
  | _, [], _, h, _ => by cases h; exact .nil
  | 0, e :: ds, _, h, q => by cases h with | cons h1 h2 => exact .cons q h2
  | n + 1, e :: ds, _, h, q => by cases h with | cons h1 h2 => exact .cons h1 (rpA_set h2 q)
theorem rpA_dropLast (h : RpA K H vs ds) : RpA K H vs.dropLast ds.dropLast := by
  rw [List.dropLast_eq_take, List.dropLast_eq_take, rpA_len h]
  exact rpA_take h
theorem rpA_rev : ∀ {ds : List Dt} {vs : List V}, RpA K H vs ds → RpA K H vs.reverse ds.reverse
  | [], _, h => by cases h; exact .nil
  | d :: ds, _, h => by
    cases h with
    | cons h1 h2 =>
      rw [List.reverse_cons, List.reverse_cons]
      exact rpA_app (rpA_rev h2) (.cons h1 .nil)
theorem rpA_ints : ∀ ns : List Int, RpA K H (ns.map V.int) (ns.map Dt.int)
  | [] => .nil
  | n :: ns => .cons (.int n) (rpA_ints ns)
theorem rpA_ints' : ∀ {ns : List Int} {vs : List V}, RpA K H vs (ns.map Dt.int) → vs = ns.map V.int
  | [], _, h => by cases h; rfl
  | n :: ns, _, h => by
    cases h with
    | cons h1 h2 => rw [rp_int h1, rpA_ints' h2]; rfl
theorem rpA_bls' : ∀ {ns : List Bool} {vs : List V}, RpA K H vs (ns.map Dt.bl) → vs = ns.map V.bl
  | [], _, h => by cases h; rfl
  | n :: ns, _, h => by
    cases h with
    | cons h1 h2 => rw [rp_bl h1, rpA_bls' h2]; rfl
theorem rpA_strs' : ∀ {ns : List Str} {vs : List V}, RpA K H vs (ns.map Dt.str) → vs = ns.map V.str
  | [], _, h => by cases h; rfl
  | n :: ns, _, h => by
    cases h with
    | cons h1 h2 => rw [rp_str h1, rpA_strs' h2]; rfl
theorem rpA_strs : ∀ ns : List Str, RpA K H (ns.map V.str) (ns.map Dt.str)
  | [] => .nil
  | n :: ns => .cons (.str n) (rpA_strs ns)
theorem rpA_rep (h : RpA K H vs ds) : ∀ n : Nat, RpA K H (List.replicate n vs).flatten (List.replicate n ds).flatten
  | 0 => .nil
  | n + 1 => by
    simp only [List.replicate_succ, List.flatten_cons]
    exact rpA_app h (rpA_rep h n)
theorem rpF_lookup {f : Str} : ∀ {fs : List (Str × Dt)} {fv : List (Str × V)}, RpF K H fv fs → fs.lookup f = some d → ∃ v, fv.lookup f = some v ∧ Rp K H v d
  | [], _, _, e => by cases e
  | (x, d') :: fs, _, h, e => by
    cases h with
    | cons h1 h2 =>
      rw [List.lookup_cons] at e ⊢
      cases q : f == x with
      | true =>
        rw [q] at e
        cases e
        exact ⟨_, rfl, h1⟩
      | false =>
        rw [q] at e
        exact rpF_lookup h2 e
theorem rpF_none {f : Str} : ∀ {fs : List (Str × Dt)} {fv : List (Str × V)}, RpF K H fv fs → fs.lookup f = none → fv.lookup f = none
  | [], _, h, _ => by cases h; rfl
  | (x, d') :: fs, _, h, e => by
    cases h with
    | cons h1 h2 =>
      rw [List.lookup_cons] at e ⊢
      cases q : f == x with
      | true => rw [q] at e; cases e
      | false => rw [q] at e; exact rpF_none h2 e
theorem rpF_len : ∀ {fs : List (Str × Dt)} {fv : List (Str × V)}, RpF K H fv fs → fv.length = fs.length
  | [], _, h => by cases h; rfl
  | (x, d') :: fs, _, h => by cases h with | cons h1 h2 => rw [List.length_cons, List.length_cons, rpF_len h2]
/-! ### as the library's data, for == -/
mutual
def py : Dt → Option PyData
  | .non => some .none
  | .bl b => some (.bool b)
  | .int i => some (.int i)
  | .str x => some (.str x)
  | .lst ds => (pyA ds).map .list
  | .tup ds => (pyA ds).map .tuple
  | _ => none
def pyA : List Dt → Option (List PyData)
  | [] => some []
  | d :: ds => match py d, pyA ds with
    | some p, some ps => some (p :: ps)
    | _, _ => none
end
mutual
theorem rp_py : ∀ {d : Dt} {v : V} {p : PyData}, Rp K H v d → py d = some p → Dp K H v p
  | .non, _, _, h, e => by cases h; cases e; exact .non
  | .bl b, _, _, h, e => by cases h; cases e; exact .bl b
  | .int b, _, _, h, e => by cases h; cases e; exact .int b
  | .str b, _, _, h, e => by cases h; cases e; exact .str b
  | .lst ds, _, p, h, e => by
    have e : (pyA ds).map PyData.list = some p := e
    cases q : pyA ds with
    | none => rw [q] at e; cases e
    | some ps =>
      rw [q] at e
      cases e
      cases h with
      | lst hs ha => exact .lst hs (rpA_py ha q)
  | .tup ds, _, p, h, e => by
    have e : (pyA ds).map PyData.tuple = some p := e
    cases q : pyA ds with
    | none => rw [q] at e; cases e
    | some ps =>
      rw [q] at e
      cases e
      cases h with
      | tup hs ha => exact .tup hs (rpA_py ha q)
  | .obj _ _, _, _, _, e => by cases e
  | .exn _ _, _, _, _, e => by cases e
  | .ty _, _, _, _, e => by cases e
  | .cls _, _, _, _, e => by cases e
  | .dct _, _, _, _, e => by cases e
  | .dctT _, _, _, _, e => by cases e
theorem rpA_py : ∀ {ds : List Dt} {vs : List V} {ps : List PyData}, RpA K H vs ds → pyA ds = some ps → DpAll K H vs ps
  | [], _, _, h, e => by cases h; cases e; exact .nil
  | d :: ds, _, ps, h, e => by
    cases h with
    | cons h1 h2 =>
      rw [pyA] at e
      cases q : py d with
      | none => rw [q] at e; cases e
      | some p =>
        cases q2 : pyA ds with
        | none => rw [q, q2] at e; cases e
        | some ps' =>
          rw [q, q2] at e
          cases e
          exact .cons (rp_py h1 q) (rpA_py h2 q2)
end
/-- ==, where it is told -/
def eqD (x y : Dt) : Option Bool := match py x, py y with
  | some p, some q => if SeqAt.shaped p && SeqAt.shaped q then some (PyData.eqv p q) else none
  | _, _ => none
end
end E

set_option Elab.async false
set_option linter.all false
set_option maxRecDepth 100000
set_option maxHeartbeats 1200000
/-! expressions over data: what they give, from slots and the pen's count -/
namespace E
open L2 PySem PySem.Spec PyProof.Rows DL
open Evl (sq_of st_of sz_of sz_lt)
/-- a text's tables of code objects, and whose they are -/
class Tb where
  T : PySem.W.Frag → List (Addr × Str)
variable [Tb]
/-- the pen at p, begun t times at most -/
structure Pi where
  p : Addr
  c : Addr
  cells : List Int
  /-- the tables of code objects, and whose they are -/
  T : List (Addr × Str)
structure Bse where
  M : List Addr
  F0 : Hp
  H0 : Hp
  pp : Option Pi
/-- a dict that the def alone holds: its keys ints and texts, or tuples of them -/
inductive Dic where
  | k (kvs : List (Key × Dt)) | t (kvs : List (List Key × Dt))
def Dic.dt : Dic → Dt
  | .k kvs => .dct kvs
  | .t kvs => .dctT kvs
/-- a slot: nothing known; data; a list that the def alone holds; the pen; the new object; a thing handed in, at these heaps -/
inductive Sx where
  | no | val (d : Dt) | own (ds : List Dt) | pen | slf (C : Addr) (fs : List (Str × Dt)) | inv (v : V) (B : Bse) | gho | dic (o : Dic)
def TabF (K : PySem.W.Frag) (T : List (Addr × Str)) (F H : Hp) : Prop := (∀ a ∈ T, F a.1 = none) ∧ LamX.Tabs T H ∧ T = Tb.T K
def PenAt (K : PySem.W.Frag) (F H : Hp) (p : Pi) (t : Int) : Prop := F p.p = none ∧ ((fCell K p.c p.cells).p F ∧ TabF K p.T F H) ∧ ∃ tt r, H p.p = some (penO p.c tt r) ∧ 0 ≤ tt ∧ tt ≤ t ∧ 0 ≤ r
theorem TabF.at {K : PySem.W.Frag} {T : List (Addr × Str)} {F H : Hp} {a : Addr × Str} (h : TabF K T F H) (ha : a ∈ T) : ∃ ps, H a.1 = some (.tbl ps) := by
  obtain ⟨ps, e, _⟩ := h.2.1 a ha
  exact ⟨ps, e⟩
theorem TabF.up {K : PySem.W.Frag} {T : List (Addr × Str)} {F H F' H' : Hp} (h : TabF K T F H) (hF : ∀ a ∈ T, F' a.1 = none) (hH : Same H H') : TabF K T F' H' := ⟨hF, h.2.1.ext hH, h.2.2⟩
/-- a list changed, or gone -/
theorem TabF.off {K : PySem.W.Frag} {T : List (Addr × Str)} {F H F' H' : Hp} {L : Addr} {xs : List V} (h : TabF K T F H) (e : H L = some (.lst xs)) (hF : ∀ a ∈ T, F' a.1 = none) (hH : ∀ a o, a ≠ L → H a = some o → H' a = some o) : TabF K T F' H' :=
  ⟨hF, fun a ha => by
    obtain ⟨ps, h1, h2, h3⟩ := h.2.1 a ha
    refine ⟨ps, hH _ _ (fun z => by rw [z, e] at h1; cases h1) h1, h2, fun pos cv hc => ?_⟩
    obtain ⟨c, e1, e2⟩ := h3 pos cv hc
    exact ⟨c, e1, hH _ _ (fun z => by rw [z, e] at e2; unfold LamX.CodeO at e2; cases e2) e2⟩, h.2.2⟩
def pl : Option Pi → List Addr
  | some p => p.p :: p.T.map (·.1)
  | none => []
structure EnvE (K : PySem.W.Frag) (pp : Option Pi) (F H : Hp) (σ : L2.St) (ss : List Sx) : Prop where
  len : σ.length = ss.length
  val : ∀ (i : Nat) (d : Dt), ss[i]? = some (.val d) → ∃ v, σ[i]? = some (some v) ∧ Rp K F v d
  pen : ∀ (i : Nat), ss[i]? = some .pen → ∃ p, pp = some p ∧ σ[i]? = some (some (.ref p.p))
  slf : ∀ (i : Nat) (C : Addr) (fs : List (Str × Dt)), ss[i]? = some (.slf C fs) → ∃ p dx fv, σ[i]? = some (some (.ref p)) ∧ p ∉ pl pp ∧ H p = some (.ins C dx fv) ∧ RpF K F fv fs
  gho : ∀ (i : Nat), ss[i]? = some .gho → ∃ p, pp = some p
theorem EnvE.mono {K : PySem.W.Frag} {pp : Option Pi} {F H F' H' : Hp} {σ : L2.St} {ss : List Sx} (e : Same F F') (g : ∀ a o, a ∉ pl pp → H a = some o → H' a = some o) (h : EnvE K pp F H σ ss) : EnvE K pp F' H' σ ss :=
  ⟨h.len, fun i d q => let ⟨v, h1, h2⟩ := h.val i d q; ⟨v, h1, rp_mono e h2⟩, h.pen, fun i C fs q => let ⟨p, dx, fv, h1, h2, h3, h4⟩ := h.slf i C fs q; ⟨p, dx, fv, h1, h2, g p _ h2 h3, rpF_mono e h4⟩, h.gho⟩
structure RelE (K : PySem.W.Frag) (pp : Option Pi) (F H : Hp) (σ : L2.St) (ss : List Sx) (t : Int) : Prop where
  fh : Same F H
  env : EnvE K pp F H σ ss
  pen : ∀ p, pp = some p → PenAt K F H p t
/-- a step: the heaps grow, but for the pen -/
structure StE (K : PySem.W.Frag) (pp : Option Pi) (F H F' H' : Hp) (t' : Int) : Prop where
  gr : Gr (pl pp) F H F' H'
  pen : ∀ p, pp = some p → PenAt K F' H' p t'
section
variable {K : PySem.W.Frag} {pp : Option Pi} {F H F1 H1 F2 H2 F' H' : Hp} {σ : L2.St} {ss : List Sx} {t t1 t2 : Int}
theorem StE.trans (a : StE K pp F H F1 H1 t1) (b : StE K pp F1 H1 F2 H2 t2) : StE K pp F H F2 H2 t2 := ⟨a.gr.trans b.gr fun p hp => .inl hp, b.pen⟩
theorem StE.ff (a : StE K pp F H F1 H1 t1) : Same F F1 := a.gr.ff
theorem StE.fh (a : StE K pp F H F1 H1 t1) : Same F1 H1 := a.gr.fh
theorem RelE.step (r : RelE K pp F H σ ss t) (a : StE K pp F H F1 H1 t1) : RelE K pp F1 H1 σ ss t1 := ⟨a.gr.fh, r.env.mono a.gr.ff a.gr.hh, a.pen⟩
theorem RelE.refl (r : RelE K pp F H σ ss t) : StE K pp F H F H t := ⟨.refl r.fh, r.pen⟩
theorem pen_stp {p : Pi} (s : Stp F H F' H') (h : PenAt K F H p t) : PenAt K F' H' p t := by
  obtain ⟨h1, ⟨h3, h5⟩, tt, r, h2, h4⟩ := h
  exact ⟨s.nw p.p h1 (by rw [h2]; exact fun z => by cases z), ⟨(fCell K p.c p.cells).m s.ff h3, h5.up (fun a ha => s.nw a.1 (h5.1 a ha) (by obtain ⟨ps, e⟩ := h5.at ha; rw [e]; exact fun z => by cases z)) s.hh⟩, tt, r, s.hh _ _ h2, h4⟩
theorem pl_mem {pp : Option Pi} {a : Addr} (h : a ∈ pl pp) : ∃ p, pp = some p ∧ a ∈ pl (some p) := by
  cases pp with
  | none => cases h
  | some p => exact ⟨p, rfl, h⟩
/-- what stands where the pen and the tables are -/
theorem PenAt.at {p : Pi} {a : Addr} (h : PenAt K F H p t) (ha : a ∈ pl (some p)) : (∃ c tt r, H a = some (penO c tt r)) ∨ ∃ ps, H a = some (.tbl ps) := by
  obtain ⟨_, ⟨_, h5⟩, tt, r, h2, _⟩ := h
  rcases List.mem_cons.mp ha with e | e
  · rw [e]; exact .inl ⟨_, _, _, h2⟩
  · obtain ⟨x, hx, e⟩ := List.mem_map.mp e
    rw [← e]; exact .inr (h5.at hx)
theorem PenAt.there {p : Pi} {a : Addr} (h : PenAt K F H p t) (ha : a ∈ pl (some p)) : H a ≠ none := by
  rcases h.at ha with ⟨c, tt, r, e⟩ | ⟨ps, e⟩ <;> rw [e] <;> exact fun z => by cases z
theorem PenAt.free {p : Pi} {a : Addr} (h : PenAt K F H p t) (ha : a ∈ pl (some p)) : F a = none := by
  obtain ⟨h1, ⟨_, h5⟩, _⟩ := h
  rcases List.mem_cons.mp ha with e | e
  · rw [e]; exact h1
  · obtain ⟨x, hx, e⟩ := List.mem_map.mp e
    rw [← e]; exact h5.1 x hx
theorem StE.of (s : Stp F H F' H') (h : ∀ p, pp = some p → PenAt K F H p t) : StE K pp F H F' H' t :=
  ⟨⟨s.ff, s.fh, fun a o _ e => s.hh a o e, s.nw, fun p h => some_of_same s.hh h⟩, fun p hp => pen_stp s (h p hp)⟩
theorem RelE.stp (r : RelE K pp F H σ ss t) (s : Stp F H F' H') : StE K pp F H F' H' t := .of s r.pen
theorem RelE.alloc (r : RelE K pp F H σ ss t) {p : Addr} {o : HO} (h : H p = none) : StE K pp F H (upd F p o) (upd H p o) t := r.stp ((Stp.refl r.fh).alloc h)
end
structure Xn where
  C : Addr
  fs : List (Str × Dt)
abbrev XQ := Xn → Int → Prop
abbrev Ss := List Sx
abbrev WE := Ss → Int → (Dt → Int → Prop) → XQ → Prop
abbrev WT := Ss → Int → (Bool → Int → Prop) → XQ → Prop
abbrev WA := Ss → Int → (List Dt → Int → Prop) → XQ → Prop
abbrev WO := Ss → Int → (Option Int → Int → Prop) → XQ → Prop
/-- what is raised: wished for -/
def XOk (K : PySem.W.Frag) (E : XK) (pp : Option Pi) (F H : Hp) (x : XQ) : Prop := ∀ X dd fv F' H' t', StE K pp F H F' H' t' → F' dd = some (.xd fv) → RpF K F' fv X.fs → x X t' → E (.ref X.C) (some dd) H'
def Snd (K : PySem.W.Frag) (E : XK) (te : TE) (w : WE) : Prop := ∀ pp F H σ ss t Q q x, RelE K pp F H σ ss t → w ss t q x → XOk K E pp F H x → (∀ v d t' F' H', StE K pp F H F' H' t' → Rp K F' v d → q d t' → Q v H') → te σ H Q
def SndT (K : PySem.W.Frag) (E : XK) (te : TT) (w : WT) : Prop := ∀ pp F H σ ss t Q q x, RelE K pp F H σ ss t → w ss t q x → XOk K E pp F H x → (∀ b t' F' H', StE K pp F H F' H' t' → q b t' → Q b H') → te σ H Q
def SndA (K : PySem.W.Frag) (E : XK) (te : TA) (w : WA) : Prop := ∀ pp F H σ ss t Q q x, RelE K pp F H σ ss t → w ss t q x → XOk K E pp F H x → (∀ vs ds t' F' H', StE K pp F H F' H' t' → RpA K F' vs ds → q ds t' → Q vs H') → te σ H Q
def SndO (K : PySem.W.Frag) (E : XK) (te : L2.TO) (w : WO) : Prop := ∀ pp F H σ ss t Q q x, RelE K pp F H σ ss t → w ss t q x → XOk K E pp F H x → (∀ o t' F' H', StE K pp F H F' H' t' → q o t' → Q o H') → te σ H Q
/-- a new list -/
def SndN (K : PySem.W.Frag) (E : XK) (te : TE) (w : WA) : Prop := ∀ pp F H σ ss t Q q x, RelE K pp F H σ ss t → w ss t q x → XOk K E pp F H x → (∀ p xs ds t' F' H', StE K pp F H F' H' t' → H' p = none → RpA K F' xs ds → q ds t' → Q (.ref p) (upd H' p (.lst xs))) → te σ H Q
/-- by values -/
abbrev W2 := Dt → Dt → (Dt → Prop) → Prop
abbrev W1 := Dt → (Dt → Prop) → Prop
abbrev WL := List Dt → (Dt → Prop) → Prop
def SndR (K : PySem.W.Frag) (r : R2) (w : W2) : Prop := ∀ F H x y a b Q q, Same F H → Rp K F x a → Rp K F y b → w a b q → (∀ v d F' H', Stp F H F' H' → Rp K F' v d → q d → Q v H') → r x y H Q
def SndU (K : PySem.W.Frag) (r : V → Hp → VK → Prop) (w : W1) : Prop := ∀ F H x a Q q, Same F H → Rp K F x a → w a q → (∀ v d F' H', Stp F H F' H' → Rp K F' v d → q d → Q v H') → r x H Q
def SndC (K : PySem.W.Frag) (r : List V → Hp → VK → Prop) (w : WL) : Prop := ∀ F H xs as Q q, Same F H → RpA K F xs as → w as q → (∀ v d F' H', Stp F H F' H' → Rp K F' v d → q d → Q v H') → r xs H Q
def SndS (K : PySem.W.Frag) (r : V → Option Int → Option Int → Hp → VK → Prop) (w : Dt → Option Int → Option Int → (Dt → Prop) → Prop) : Prop := ∀ F H x a lo hi Q q, Same F H → Rp K F x a → w a lo hi q → (∀ v d F' H', Stp F H F' H' → Rp K F' v d → q d → Q v H') → r x lo hi H Q
/-! readings over data -/
def wC (d : Dt) : WE := fun _ t q _ => q d t
def wVar (i : Nat) : WE := fun ss t q _ => match ss[i]? with
  | some (.val d) => q d t
  | _ => False
def wOp (r : W2) (a b : WE) : WE := fun ss t q x => a ss t (fun d t1 => b ss t1 (fun e t2 => r d e fun z => q z t2) x) x
def wUn (r : W1) (a : WE) : WE := fun ss t q x => a ss t (fun d t1 => r d fun z => q z t1) x
def wNil : WA := fun _ t q _ => q [] t
def wCons (a : WE) (r : WA) : WA := fun ss t q x => a ss t (fun d t1 => r ss t1 (fun ds t2 => q (d :: ds) t2) x) x
def wCB (r : WL) (a : WA) : WE := fun ss t q x => a ss t (fun ds t1 => r ds fun z => q z t1) x
def wTup (a : WA) : WE := fun ss t q x => a ss t (fun ds t1 => ds.length ≤ 100000 ∧ q (.tup ds) t1) x
def wLst (a : WA) : WA := fun ss t q x => a ss t (fun ds t1 => ds.length ≤ 100000 ∧ q ds t1) x
def wNew (a : WA) : WE := fun ss t q x => a ss t (fun ds t1 => q (.lst ds) t1) x
def onB (d : Dt) (k : Bool → Prop) : Prop := match d with
  | .bl c => k c
  | _ => False
def wAndV (a b : WE) : WE := fun ss t q x => a ss t (fun d t1 => onB d fun c => if c = true then b ss t1 q x else q (.bl false) t1) x
def wOrV (a b : WE) : WE := fun ss t q x => a ss t (fun d t1 => onB d fun c => if c = true then q (.bl true) t1 else b ss t1 q x) x
def wNotV (a : WE) : WE := fun ss t q x => a ss t (fun d t1 => onB d fun c => q (.bl (!c)) t1) x
def wTest (a : WE) : WT := fun ss t q x => a ss t (fun d t1 => onB d fun c => q c t1) x
def wYes : WT := fun _ t q _ => q true t
def wNotT (a : WT) : WT := fun ss t q x => a ss t (fun b t1 => q (!b) t1) x
def wAnd (a b : WT) : WT := fun ss t q x => a ss t (fun c t1 => if c = true then b ss t1 q x else q false t1) x
def wOr (a b : WT) : WT := fun ss t q x => a ss t (fun c t1 => if c = true then q true t1 else b ss t1 q x) x
def wIf (c : WT) (a b : WE) : WE := fun ss t q x => c ss t (fun k t1 => if k = true then a ss t1 q x else b ss t1 q x) x
def wChain (r r' : W2) (a b c : WE) : WE := fun ss t q x => a ss t (fun d t1 => b ss t1 (fun e t2 => r d e fun z => onB z fun k => if k = true then c ss t2 (fun f t3 => r' e f fun y => q y t3) x else q (.bl false) t2) x) x
def wNoP : WO := fun _ t q _ => q none t
def wPart (a : WE) : WO := fun ss t q x => a ss t (fun d t1 => match d with
  | .int i => q (some i) t1
  | _ => False) x
def wSl (r : Dt → Option Int → Option Int → (Dt → Prop) → Prop) (a : WE) (l h : WO) : WE := fun ss t q x => a ss t (fun d t1 => l ss t1 (fun lo t2 => h ss t2 (fun hi t3 => r d lo hi fun z => q z t3) x) x) x
section
variable {K : PySem.W.Frag} {E : XK} {ta tb tc te : TE} {wa wb wc we : WE} {tA : TA} {wA : WA} {tt tu : TT} {wt wu : WT}
theorem XOk.step {pp : Option Pi} {F H F1 H1 : Hp} {t1 : Int} {x : XQ} (h : XOk K E pp F H x) (s : StE K pp F H F1 H1 t1) : XOk K E pp F1 H1 x := fun X dd fv F' H' t' s' h1 h2 h3 => h X dd fv F' H' t' (s.trans s') h1 h2 h3
theorem sn_var {i : Nat} : Snd K E (tVar i) (wVar i) := fun pp F H σ ss t Q q x r h _ k => by
  unfold wVar at h
  split at h
  · rename_i d e
    obtain ⟨v, h1, h2⟩ := r.env.val i d e
    exact ⟨v, h1, k v d t F H r.refl h2 h⟩
  · exact h.elim
theorem sn_int {i : Int} : Snd K E (tC (.int i)) (wC (.int i)) := fun pp F H σ ss t Q q x r h _ k => k _ _ t F H r.refl (.int i) h
theorem sn_bl {b : Bool} : Snd K E (tC (.bl b)) (wC (.bl b)) := fun pp F H σ ss t Q q x r h _ k => k _ _ t F H r.refl (.bl b) h
theorem sn_non : Snd K E (tC .non) (wC .non) := fun pp F H σ ss t Q q x r h _ k => k _ _ t F H r.refl .non h
theorem sn_str {z : Str} : Snd K E (tC (.str z)) (wC (.str z)) := fun pp F H σ ss t Q q x r h _ k => k _ _ t F H r.refl (.str z) h
theorem sn_ty {n : String} : Snd K E (tC (.ty n)) (wC (.ty n)) := fun pp F H σ ss t Q q x r h _ k => k _ _ t F H r.refl (.ty n) h
theorem sn_cls {C : Addr} : Snd K E (tC (.ref C)) (wC (.cls C)) := fun pp F H σ ss t Q q x r h _ k => k _ _ t F H r.refl (.cls C) h
theorem sn_op {r : R2} {w : W2} (hr : SndR K r w) (ha : Snd K E ta wa) (hb : Snd K E tb wb) : Snd K E (tOp r ta tb) (wOp w wa wb) := fun pp F H σ ss t Q q x R h X k =>
  ha pp F H σ ss t _ _ x R h X fun v d t1 F1 H1 s1 hv h1 => hb pp F1 H1 σ ss t1 _ _ x (R.step s1) h1 (X.step s1) fun u e t2 F2 H2 s2 hu h2 =>
    hr F2 H2 v u d e _ _ s2.fh (rp_mono s2.ff hv) hu h2 fun z f F3 H3 s3 hz h3 => k z f t2 F3 H3 ((s1.trans s2).trans (.of s3 s2.pen)) hz h3
theorem sn_un {r : V → Hp → VK → Prop} {w : W1} (hr : SndU K r w) (ha : Snd K E ta wa) : Snd K E (tUn r ta) (wUn w wa) := fun pp F H σ ss t Q q x R h X k =>
  ha pp F H σ ss t _ _ x R h X fun v d t1 F1 H1 s1 hv h1 => hr F1 H1 v d _ _ s1.fh hv h1 fun z f F3 H3 s3 hz h3 => k z f t1 F3 H3 (s1.trans (.of s3 s1.pen)) hz h3
theorem sa_nil : SndA K E tNil wNil := fun pp F H σ ss t Q q x R h X k => k [] [] t F H R.refl .nil h
theorem sa_cons (ha : Snd K E ta wa) (hr : SndA K E tA wA) : SndA K E (tCons ta tA) (wCons wa wA) := fun pp F H σ ss t Q q x R h X k =>
  ha pp F H σ ss t _ _ x R h X fun v d t1 F1 H1 s1 hv h1 => hr pp F1 H1 σ ss t1 _ _ x (R.step s1) h1 (X.step s1) fun us es t2 F2 H2 s2 hu h2 => k _ _ t2 F2 H2 (s1.trans s2) (.cons (rp_mono s2.ff hv) hu) h2
theorem sn_cb {r : List V → Hp → VK → Prop} {w : WL} (hr : SndC K r w) (ha : SndA K E tA wA) : Snd K E (tCB r tA) (wCB w wA) := fun pp F H σ ss t Q q x R h X k =>
  ha pp F H σ ss t _ _ x R h X fun vs ds t1 F1 H1 s1 hv h1 => hr F1 H1 vs ds _ _ s1.fh hv h1 fun z f F3 H3 s3 hz h3 => k z f t1 F3 H3 (s1.trans (.of s3 s1.pen)) hz h3
theorem sn_tup (ha : SndA K E tA wA) : Snd K E (tTup tA) (wTup wA) := fun pp F H σ ss t Q q x R h X k =>
  ha pp F H σ ss t _ _ x R h X fun vs ds t1 F1 H1 s1 hv h1 => ⟨sz_of (by rw [rpA_len hv]; exact h1.1), fun p hp =>
    k _ _ t1 _ _ (s1.trans ((R.step s1).alloc hp)) (.tup (st_of upd_same) (rpA_mono (same_new (fresh_back s1.fh hp)) hv)) h1.2⟩
theorem nn_lst (ha : SndA K E tA wA) : SndN K E (tLst tA) (wLst wA) := fun pp F H σ ss t Q q x R h X k =>
  ha pp F H σ ss t _ _ x R h X fun vs ds t1 F1 H1 s1 hv h1 => ⟨sz_of (by rw [rpA_len hv]; exact h1.1), fun p hp => k p vs ds t1 F1 H1 s1 hp hv h1.2⟩
theorem sn_new (ha : SndN K E te wA) : Snd K E te (wNew wA) := fun pp F H σ ss t Q q x R h X k =>
  ha pp F H σ ss t _ _ x R h X fun p xs ds t1 F1 H1 s1 hp hv h1 => k _ _ t1 _ _ (s1.trans ((R.step s1).alloc hp)) (.lst (sq_of upd_same) (rpA_mono (same_new (fresh_back s1.fh hp)) hv)) h1
theorem onB_some {d : Dt} {k : Bool → Prop} (h : onB d k) : ∃ c, d = .bl c ∧ k c := by
  unfold onB at h
  split at h
  · exact ⟨_, rfl, h⟩
  · exact h.elim
theorem sn_andV (ha : Snd K E ta wa) (hb : Snd K E tb wb) : Snd K E (tAndV ta tb) (wAndV wa wb) := fun pp F H σ ss t Q q x R h X k =>
  ha pp F H σ ss t _ _ x R h X fun v d t1 F1 H1 s1 hv h1 => by
    obtain ⟨c, rfl, h2⟩ := onB_some h1
    refine ⟨c, rp_bl hv, ?_⟩
    cases c with
    | true =>
      rw [if_pos rfl] at h2 ⊢
      exact hb pp F1 H1 σ ss t1 _ _ x (R.step s1) h2 (X.step s1) fun u e t2 F2 H2 s2 hu h3 => k u e t2 F2 H2 (s1.trans s2) hu h3
    | false =>
      rw [if_neg Bool.false_ne_true] at h2 ⊢
      exact k _ _ t1 F1 H1 s1 (.bl false) h2
theorem sn_orV (ha : Snd K E ta wa) (hb : Snd K E tb wb) : Snd K E (tOrV ta tb) (wOrV wa wb) := fun pp F H σ ss t Q q x R h X k =>
  ha pp F H σ ss t _ _ x R h X fun v d t1 F1 H1 s1 hv h1 => by
    obtain ⟨c, rfl, h2⟩ := onB_some h1
    refine ⟨c, rp_bl hv, ?_⟩
    cases c with
    | false =>
      rw [if_neg Bool.false_ne_true] at h2 ⊢
      exact hb pp F1 H1 σ ss t1 _ _ x (R.step s1) h2 (X.step s1) fun u e t2 F2 H2 s2 hu h3 => k u e t2 F2 H2 (s1.trans s2) hu h3
    | true =>
      rw [if_pos rfl] at h2 ⊢
      exact k _ _ t1 F1 H1 s1 (.bl true) h2
theorem sn_notV (ha : Snd K E ta wa) : Snd K E (tNotV ta) (wNotV wa) := fun pp F H σ ss t Q q x R h X k =>
  ha pp F H σ ss t _ _ x R h X fun v d t1 F1 H1 s1 hv h1 => by
    obtain ⟨c, rfl, h2⟩ := onB_some h1
    exact ⟨c, rp_bl hv, k _ _ t1 F1 H1 s1 (.bl _) h2⟩
theorem st_test (ha : Snd K E ta wa) : SndT K E (tTest ta) (wTest wa) := fun pp F H σ ss t Q q x R h X k =>
  ha pp F H σ ss t _ _ x R h X fun v d t1 F1 H1 s1 hv h1 => by
    obtain ⟨c, rfl, h2⟩ := onB_some h1
    exact ⟨c, rp_bl hv, k _ t1 F1 H1 s1 h2⟩
theorem st_B (ha : Snd K E ta wa) : SndT K E (tB ta) (wTest wa) := fun pp F H σ ss t Q q x R h X k =>
  ha pp F H σ ss t _ _ x R h X fun v d t1 F1 H1 s1 hv h1 => by
    obtain ⟨c, rfl, h2⟩ := onB_some h1
    exact ⟨c, rp_bl hv, k _ t1 F1 H1 s1 h2⟩
theorem st_yes : SndT K E tYes wYes := fun pp F H σ ss t Q q x R h X k => k true t F H R.refl h
theorem st_not (ha : SndT K E tt wt) : SndT K E (tNot tt) (wNotT wt) := fun pp F H σ ss t Q q x R h X k =>
  ha pp F H σ ss t _ _ x R h X fun b t1 F1 H1 s1 h1 => k _ t1 F1 H1 s1 h1
theorem st_and (ha : SndT K E tt wt) (hb : SndT K E tu wu) : SndT K E (tAnd tt tu) (wAnd wt wu) := fun pp F H σ ss t Q q x R h X k =>
  ha pp F H σ ss t _ _ x R h X fun b t1 F1 H1 s1 h1 => by
    cases b with
    | true =>
      rw [if_pos rfl] at h1 ⊢
      exact hb pp F1 H1 σ ss t1 _ _ x (R.step s1) h1 (X.step s1) fun e t2 F2 H2 s2 h3 => k e t2 F2 H2 (s1.trans s2) h3
    | false =>
      rw [if_neg Bool.false_ne_true] at h1 ⊢
      exact k _ t1 F1 H1 s1 h1
theorem st_or (ha : SndT K E tt wt) (hb : SndT K E tu wu) : SndT K E (tOr tt tu) (wOr wt wu) := fun pp F H σ ss t Q q x R h X k =>
  ha pp F H σ ss t _ _ x R h X fun b t1 F1 H1 s1 h1 => by
    cases b with
    | false =>
      rw [if_neg Bool.false_ne_true] at h1 ⊢
      exact hb pp F1 H1 σ ss t1 _ _ x (R.step s1) h1 (X.step s1) fun e t2 F2 H2 s2 h3 => k e t2 F2 H2 (s1.trans s2) h3
    | true =>
      rw [if_pos rfl] at h1 ⊢
      exact k _ t1 F1 H1 s1 h1
theorem sn_if (hc : SndT K E tt wt) (ha : Snd K E ta wa) (hb : Snd K E tb wb) : Snd K E (tIf tt ta tb) (wIf wt wa wb) := fun pp F H σ ss t Q q x R h X k =>
  hc pp F H σ ss t _ _ x R h X fun b t1 F1 H1 s1 h1 => by
    cases b with
    | true =>
      rw [if_pos rfl] at h1 ⊢
      exact ha pp F1 H1 σ ss t1 _ _ x (R.step s1) h1 (X.step s1) fun v e t2 F2 H2 s2 hv h3 => k v e t2 F2 H2 (s1.trans s2) hv h3
    | false =>
      rw [if_neg Bool.false_ne_true] at h1 ⊢
      exact hb pp F1 H1 σ ss t1 _ _ x (R.step s1) h1 (X.step s1) fun v e t2 F2 H2 s2 hv h3 => k v e t2 F2 H2 (s1.trans s2) hv h3
theorem sn_chain {r r' : R2} {w w' : W2} (hr : SndR K r w) (hr' : SndR K r' w') (ha : Snd K E ta wa) (hb : Snd K E tb wb) (hc : Snd K E tc wc) : Snd K E (tChain r r' ta tb tc) (wChain w w' wa wb wc) := fun pp F H σ ss t Q q x R h X k =>
  ha pp F H σ ss t _ _ x R h X fun v d t1 F1 H1 s1 hv h1 => hb pp F1 H1 σ ss t1 _ _ x (R.step s1) h1 (X.step s1) fun u e t2 F2 H2 s2 hu h2 =>
    hr F2 H2 v u d e _ _ s2.fh (rp_mono s2.ff hv) hu h2 fun z f F3 H3 s3 hz h3 => by
      have s12 := s1.trans s2
      have s23 : StE K pp F2 H2 F3 H3 t2 := .of s3 s2.pen
      have s13 := s12.trans s23
      obtain ⟨c, rfl, h4⟩ := onB_some h3
      refine ⟨c, rp_bl hz, ?_⟩
      cases c with
      | true =>
        rw [if_pos rfl] at h4 ⊢
        exact hc pp F3 H3 σ ss t2 _ _ x (R.step s13) h4 (X.step s13) fun y g t4 F4 H4 s4 hy h5 =>
          hr' F4 H4 u y e g _ _ s4.fh (rp_mono (s23.ff.trans s4.ff) hu) hy h5 fun o f2 F5 H5 s5 ho h6 => k o f2 t4 F5 H5 ((s13.trans s4).trans (.of s5 s4.pen)) ho h6
      | false =>
        rw [if_neg Bool.false_ne_true] at h4 ⊢
        exact k _ _ t2 F3 H3 s13 (.bl false) h4
theorem so_none : SndO K E tNoPart wNoP := fun pp F H σ ss t Q q x R h X k => k none t F H R.refl h
theorem so_some (ha : Snd K E ta wa) : SndO K E (tPart ta) (wPart wa) := fun pp F H σ ss t Q q x R h X k =>
  ha pp F H σ ss t _ _ x R h X fun v d t1 F1 H1 s1 hv h1 => by
    split at h1
    · exact ⟨_, rp_int hv, k _ t1 F1 H1 s1 h1⟩
    · exact h1.elim
theorem sn_sl {r : V → Option Int → Option Int → Hp → VK → Prop} {w : Dt → Option Int → Option Int → (Dt → Prop) → Prop} {tl th : L2.TO} {wl wh : WO} (hr : SndS K r w) (ha : Snd K E ta wa) (hl : SndO K E tl wl) (hh : SndO K E th wh) : Snd K E (tSl r ta tl th) (wSl w wa wl wh) := fun pp F H σ ss t Q q x R h X k =>
  ha pp F H σ ss t _ _ x R h X fun v d t1 F1 H1 s1 hv h1 => hl pp F1 H1 σ ss t1 _ _ x (R.step s1) h1 (X.step s1) fun lo t2 F2 H2 s2 h2 => hh pp F2 H2 σ ss t2 _ _ x (R.step (s1.trans s2)) h2 (X.step (s1.trans s2)) fun hi t3 F3 H3 s3 h3 =>
    hr F3 H3 v d lo hi _ _ s3.fh (rp_mono (s2.ff.trans s3.ff) hv) h3 fun z f F4 H4 s4 hz h4 => k z f t3 F4 H4 (((s1.trans s2).trans s3).trans (.of s4 s3.pen)) hz h4
end
end E

set_option Elab.async false
set_option linter.all false
set_option maxRecDepth 100000
set_option maxHeartbeats 1200000
/-! operators, built-in calls over data -/
namespace E
open L2 PySem PySem.Spec PyProof.Rows DL
open Evl (sq_of st_of sz_of sz_lt)
variable [Tb]
def onO {α : Type} (o : Option α) (k : α → Prop) : Prop := match o with
  | some a => k a
  | none => False
theorem onO_some {α : Type} {o : Option α} {k : α → Prop} (h : onO o k) : ∃ a, o = some a ∧ k a := by
  unfold onO at h
  split at h
  · exact ⟨_, rfl, h⟩
  · exact h.elim
def w2I (k : Int → Int → (Dt → Prop) → Prop) : W2 := fun a b q => match a, b with
  | .int i, .int j => k i j q
  | _, _ => False
theorem w2I_ints {k : Int → Int → (Dt → Prop) → Prop} {a b : Dt} {q : Dt → Prop} (h : w2I k a b q) : ∃ i j, a = .int i ∧ b = .int j ∧ k i j q := by
  unfold w2I at h
  split at h
  · exact ⟨_, _, rfl, rfl, h⟩
  · exact h.elim
def wAdd : W2 := fun a b q => match a, b with
  | .int i, .int j => q (.int (i + j))
  | .tup xs, .tup ys => xs.length + ys.length ≤ 100000 ∧ q (.tup (xs ++ ys))
  | .lst xs, .lst ys => xs.length + ys.length ≤ 100000 ∧ q (.lst (xs ++ ys))
  | .str x, .str y => x.length + y.length ≤ 100000 ∧ q (.str (x ++ y))
  | _, _ => False
def wSub : W2 := w2I fun i j q => q (.int (i - j))
def wMul : W2 := fun a b q => match a, b with
  | .int i, .int j => CMulA i j ∧ q (.int (i * j))
  | .tup xs, .int k => (-1000 ≤ k ∧ k ≤ 1000 ∧ xs.length ≤ 1000) ∧ q (.tup (List.replicate k.toNat xs).flatten)
  | _, _ => False
def wDiv : W2 := w2I fun i j q => CDivA i j ∧ q (.int (i.fdiv j))
def wMod : W2 := w2I fun i j q => j ≠ 0 ∧ q (.int (i.fmod j))
def wPow : W2 := w2I fun i j q => CPow i j ∧ q (.int (i ^ j.toNat))
def wLt : W2 := w2I fun i j q => q (.bl (decide (i < j)))
def wLe : W2 := w2I fun i j q => q (.bl (decide (i ≤ j)))
def wGt : W2 := w2I fun i j q => q (.bl (decide (j < i)))
def wGe : W2 := w2I fun i j q => q (.bl (decide (j ≤ i)))
def wEq : W2 := fun a b q => onO (eqD a b) fun c => q (.bl c)
def wNe : W2 := fun a b q => onO (eqD a b) fun c => q (.bl (!c))
def isN : Dt → Bool
  | .non => true
  | _ => false
def wIs : W2 := fun a b q => match b with
  | .non => q (.bl (isN a))
  | .bl c => (match a with | .bl d => q (.bl (decide (d = c))) | _ => False)
  | _ => False
def wIsNot : W2 := fun a b q => match b with
  | .non => q (.bl (!isN a))
  | .bl c => (match a with | .bl d => q (.bl (!decide (d = c))) | _ => False)
  | _ => False
def wNeg : W1 := fun a q => match a with
  | .int i => q (.int (-i))
  | _ => False
def atD (ds : List Dt) (i : Int) : Option Dt := (ixN ds.length i).bind fun k => ds[k]?
def wIx : W2 := fun a b q => match a, b with
  | .lst ds, .int i => onO (atD ds i) q
  | .tup ds, .int i => onO (atD ds i) q
  | _, _ => False
def cutE (xs : List Dt) (lo hi : Option Int) : List Dt := (xs.drop (HT.sIx xs.length 0 lo)).take (HT.sIx xs.length xs.length hi - HT.sIx xs.length 0 lo)
def wCut : Dt → Option Int → Option Int → (Dt → Prop) → Prop := fun a lo hi q => match a with
  | .lst ds => q (.lst (cutE ds lo hi))
  | .tup ds => q (.tup (cutE ds lo hi))
  | _ => False
section
variable {K : PySem.W.Frag}
theorem same_of_stp {F H : Hp} (e : Same F H) : Stp F H F H := .refl e
theorem sr_int {r : R2} {k : Int → Int → (Dt → Prop) → Prop} {c : Int → Int → Prop} {g : Int → Int → Dt} {gV : Int → Int → V} (hk : ∀ i j q, k i j q → c i j ∧ q (g i j)) (hg : ∀ F i j, Rp K F (gV i j) (g i j)) (hr : ∀ i j H Q, c i j → Q (gV i j) H → r (.int i) (.int j) H Q) : SndR K r (w2I k) := fun F H x y a b Q q f hx hy h kk => by
  obtain ⟨i, j, rfl, rfl, h⟩ := w2I_ints h
  rw [rp_int hx, rp_int hy]
  have h2 := hk i j q h
  exact hr i j H Q h2.1 (kk _ _ F H (.refl f) (hg F i j) h2.2)
theorem sr_sub : SndR K rSubA wSub := sr_int (c := fun _ _ => True) (fun i j q h => ⟨trivial, h⟩) (fun F i j => .int _) (fun i j H Q _ h => ⟨i, j, rfl, rfl, h⟩)
theorem sr_div : SndR K rDivA wDiv := sr_int (fun i j q h => h) (fun F i j => .int _) (fun i j H Q c h => ⟨i, j, rfl, rfl, c, h⟩)
theorem sr_mod : SndR K rModA wMod := sr_int (fun i j q h => h) (fun F i j => .int _) (fun i j H Q c h => ⟨i, j, rfl, rfl, c, h⟩)
theorem sr_pow : SndR K rPowA wPow := sr_int (fun i j q h => h) (fun F i j => .int _) (fun i j H Q c h => ⟨i, j, rfl, rfl, c, h⟩)
theorem sr_lt : SndR K rLtA wLt := sr_int (c := fun _ _ => True) (fun i j q h => ⟨trivial, h⟩) (fun F i j => .bl _) (fun i j H Q _ h => ⟨i, j, rfl, rfl, h⟩)
theorem sr_le : SndR K rLeA wLe := sr_int (c := fun _ _ => True) (fun i j q h => ⟨trivial, h⟩) (fun F i j => .bl _) (fun i j H Q _ h => ⟨i, j, rfl, rfl, h⟩)
theorem sr_gt : SndR K rGtA wGt := sr_int (c := fun _ _ => True) (fun i j q h => ⟨trivial, h⟩) (fun F i j => .bl _) (fun i j H Q _ h => ⟨i, j, rfl, rfl, h⟩)
theorem sr_ge : SndR K rGeA wGe := sr_int (c := fun _ _ => True) (fun i j q h => ⟨trivial, h⟩) (fun F i j => .bl _) (fun i j H Q _ h => ⟨i, j, rfl, rfl, h⟩)
theorem sr_add : SndR K (rAddA K) wAdd := fun F H x y a b Q q f hx hy h k => by
  unfold wAdd at h
  split at h
  · rw [rp_int hx, rp_int hy]
    exact .inl (.inl ⟨_, _, rfl, rfl, k _ _ F H (.refl f) (.int _) h⟩)
  · obtain ⟨l, xs, rfl, h1, h2⟩ := rp_tup hx
    obtain ⟨b, ys, rfl, h3, h4⟩ := rp_tup hy
    refine .inl (.inr ⟨l, b, xs, ys, rfl, rfl, same_t f h1, same_t f h3, sz_of (by rw [rpA_len h2, rpA_len h4]; exact h.1), fun e => ?_, fun _ e => ?_, fun _ _ p hp => ?_⟩)
    · subst e
      cases h2
      exact k _ _ F H (.refl f) hy h.2
    · subst e
      cases h4
      rw [List.append_nil] at h
      exact k _ _ F H (.refl f) hx h.2
    · have m := same_new (o := .tup (xs ++ ys)) (fresh_back f hp)
      exact k _ _ _ _ ((Stp.refl f).alloc hp) (.tup (st_of upd_same) (rpA_app (rpA_mono m h2) (rpA_mono m h4))) h.2
  · obtain ⟨l, xs, rfl, h1, h2⟩ := rp_lst hx
    obtain ⟨b, ys, rfl, h3, h4⟩ := rp_lst hy
    refine .inr (.inl ⟨l, b, xs, ys, rfl, rfl, same_l f h1, same_l f h3, sz_of (by rw [rpA_len h2, rpA_len h4]; exact h.1), fun p hp => ?_⟩)
    have m := same_new (o := .lst (xs ++ ys)) (fresh_back f hp)
    exact k _ _ _ _ ((Stp.refl f).alloc hp) (.lst (sq_of upd_same) (rpA_app (rpA_mono m h2) (rpA_mono m h4))) h.2
  · rw [rp_str hx, rp_str hy]
    exact .inr (.inr ⟨_, _, rfl, rfl, sz_of h.1, k _ _ F H (.refl f) (.str _) h.2⟩)
  · exact h.elim
theorem sr_mul : SndR K (rMulB K) wMul := fun F H x y a b Q q f hx hy h k => by
  unfold wMul at h
  split at h
  · rw [rp_int hx, rp_int hy]
    exact .inl (.inl ⟨_, _, rfl, rfl, h.1, k _ _ F H (.refl f) (.int _) h.2⟩)
  · obtain ⟨l, xs, rfl, h1, h2⟩ := rp_tup hx
    rw [rp_int hy]
    rename_i ds kk
    refine .inr ⟨l, kk, xs, rfl, rfl, same_t f h1, h.1.1, h.1.2.1, by rw [rpA_len h2]; exact h.1.2.2, fun e => ?_, fun _ _ p hp => ?_⟩
    · have e2 : (List.replicate kk.toNat ds).flatten = ds := by
        rcases e with e | e
        · subst e; cases h2; simp
        · subst e
          have : (1 : Int).toNat = 1 := rfl
          rw [this]; simp
      rw [e2] at h
      exact k _ _ F H (.refl f) hx h.2
    · have m := same_new (o := .tup (List.replicate kk.toNat xs).flatten) (fresh_back f hp)
      exact k _ _ _ _ ((Stp.refl f).alloc hp) (.tup (st_of upd_same) (rpA_rep (rpA_mono m h2) _)) h.2
  · exact h.elim
theorem eqD_some {a b : Dt} {c : Bool} (h : eqD a b = some c) : ∃ p q, py a = some p ∧ py b = some q ∧ SeqAt.shaped p = true ∧ SeqAt.shaped q = true ∧ c = PyData.eqv p q := by
  unfold eqD at h
  split at h
  · rename_i p q h1 h2
    split at h
    · rename_i h3
      rw [Bool.and_eq_true] at h3
      cases h
      exact ⟨p, q, h1, h2, h3.1, h3.2, rfl⟩
    · cases h
  · cases h
theorem sr_eq : SndR K (rEqD K) wEq := fun F H x y a b Q q f hx hy h k => by
  obtain ⟨c, h1, h2⟩ := onO_some h
  obtain ⟨p, r, h3, h4, h5, h6, rfl⟩ := eqD_some h1
  exact ⟨p, r, dp_mono f (rp_py hx h3), dp_mono f (rp_py hy h4), h5, h6, k _ _ F H (.refl f) (.bl _) h2⟩
theorem sr_ne : SndR K (rNeD K) wNe := fun F H x y a b Q q f hx hy h k => by
  obtain ⟨c, h1, h2⟩ := onO_some h
  obtain ⟨p, r, h3, h4, h5, h6, rfl⟩ := eqD_some h1
  exact ⟨p, r, dp_mono f (rp_py hx h3), dp_mono f (rp_py hy h4), h5, h6, k _ _ F H (.refl f) (.bl _) h2⟩
theorem rp_isN {F : Hp} {x : V} {a : Dt} (h : Rp K F x a) : decide (x = .non) = isN a := by
  cases h <;> first | rfl | exact decide_eq_false (by intro z; cases z)
theorem sr_is : SndR K rIsAny wIs := fun F H x y a b Q q f hx hy h k => by
  unfold wIs at h
  split at h
  · refine .inl ⟨rp_non hy, ?_⟩
    rw [rp_isN hx]
    exact k _ _ F H (.refl f) (.bl _) h
  · split at h
    · exact .inr ⟨_, _, rp_bl hx, rp_bl hy, k _ _ F H (.refl f) (.bl _) h⟩
    · exact h.elim
  · exact h.elim
theorem sr_isNot : SndR K rIsNotAny wIsNot := fun F H x y a b Q q f hx hy h k => by
  unfold wIsNot at h
  split at h
  · refine .inl ⟨rp_non hy, ?_⟩
    rw [rp_isN hx]
    exact k _ _ F H (.refl f) (.bl _) h
  · split at h
    · exact .inr ⟨_, _, rp_bl hx, rp_bl hy, k _ _ F H (.refl f) (.bl _) h⟩
    · exact h.elim
  · exact h.elim
theorem su_neg : SndU K (rU fun i => .int (-i)) wNeg := fun F H x a Q q f hx h k => by
  unfold wNeg at h
  split at h
  · exact ⟨_, rp_int hx, k _ _ F H (.refl f) (.int _) h⟩
  · exact h.elim
theorem at_map {F : Hp} {xs : List V} {ds : List Dt} {d : Dt} (h : RpA K F xs ds) {i : Int} (e : atD ds i = some d) : ∃ v, atI xs i = some v ∧ Rp K F v d := by
  unfold atD at e
  unfold atI
  rw [rpA_len h]
  cases z : ixN ds.length i with
  | none => rw [z] at e; cases e
  | some k =>
    rw [z] at e
    obtain ⟨v, h1, h2⟩ := rpA_get h (i := k) (d := d) e
    exact ⟨v, h1, h2⟩
theorem sr_ix : SndR K (rIx K) wIx := fun F H x y a b Q q f hx hy h k => by
  unfold wIx at h
  split at h
  · obtain ⟨l, xs, rfl, h1, h2⟩ := rp_lst hx
    obtain ⟨d, h3, h4⟩ := onO_some h
    obtain ⟨v, h5, h6⟩ := at_map h2 h3
    rw [rp_int hy]
    exact .inl ⟨l, xs, _, v, rfl, rfl, same_l f h1, h5, k v d F H (.refl f) h6 h4⟩
  · obtain ⟨l, xs, rfl, h1, h2⟩ := rp_tup hx
    obtain ⟨d, h3, h4⟩ := onO_some h
    obtain ⟨v, h5, h6⟩ := at_map h2 h3
    rw [rp_int hy]
    exact .inr (.inl ⟨l, xs, _, v, rfl, rfl, same_t f h1, h5, k v d F H (.refl f) h6 h4⟩)
  · exact h.elim
theorem rpA_cut {F : Hp} {xs : List V} {ds : List Dt} {lo hi : Option Int} (h : RpA K F xs ds) : RpA K F (cutV xs lo hi) (cutE ds lo hi) := by
  unfold cutV cutE
  rw [rpA_len h]
  exact rpA_take (rpA_drop h)
theorem ss_cut : SndS K (rSl K) wCut := fun F H x a lo hi Q q f hx h k => by
  unfold wCut at h
  split at h
  · obtain ⟨l, xs, rfl, h1, h2⟩ := rp_lst hx
    refine .inl ⟨l, xs, rfl, same_l f h1, fun p hp => ?_⟩
    have m := same_new (o := .lst (cutV xs lo hi)) (fresh_back f hp)
    exact k _ _ _ _ ((Stp.refl f).alloc hp) (.lst (sq_of upd_same) (rpA_mono m (rpA_cut h2))) h
  · rename_i ds
    obtain ⟨l, xs, rfl, h1, h2⟩ := rp_tup hx
    refine .inr ⟨l, xs, rfl, same_t f h1, fun e => ?_, fun _ p hp => ?_⟩
    · have : cutE ds lo hi = ds := by
        unfold cutE
        rw [rpA_len h2] at e
        rw [e.1, e.2, List.drop_zero, Nat.sub_zero, List.take_length]
      rw [this] at h
      exact k _ _ F H (.refl f) hx h
    · have m := same_new (o := .tup (cutV xs lo hi)) (fresh_back f hp)
      exact k _ _ _ _ ((Stp.refl f).alloc hp) (.tup (st_of upd_same) (rpA_mono m (rpA_cut h2))) h
  · exact h.elim
end
/-! calls -/
def wLen : WL := fun as q => match as with
  | [.lst ds] => q (.int ds.length)
  | [.tup ds] => q (.int ds.length)
  | [.str z] => z.length ≤ 100000 ∧ q (.int z.length)
  | _ => False
def wListOf : WL := fun as q => match as with
  | [.lst ds] => q (.lst ds)
  | [.tup ds] => q (.lst ds)
  | _ => False
def wTupleOf : WL := fun as q => match as with
  | [.lst ds] => q (.tup ds)
  | [.tup ds] => q (.tup ds)
  | _ => False
def wInt : WL := fun as q => match as with
  | [.int i] => q (.int i)
  | [.bl b] => q (.int (if b then 1 else 0))
  | _ => False
def wAbs : WL := fun as q => match as with
  | [.int i] => q (.int (if i < 0 then -i else i))
  | _ => False
def wMax2 : WL := fun as q => match as with
  | [.int i, .int j] => q (.int (if j > i then j else i))
  | _ => False
def unI : List Dt → Option (List Int)
  | [] => some []
  | .int i :: ds => (unI ds).map (i :: ·)
  | _ :: _ => none
def unB : List Dt → Option (List Bool)
  | [] => some []
  | .bl i :: ds => (unB ds).map (i :: ·)
  | _ :: _ => none
theorem unI_eq : ∀ {ds : List Dt} {ns : List Int}, unI ds = some ns → ds = ns.map .int
  | [], ns, h => by cases h; rfl
  | .int i :: ds, ns, h => by
    rw [unI] at h
    cases e : unI ds with
    | none => rw [e] at h; cases h
    | some ms => rw [e] at h; cases h; rw [unI_eq e]; rfl
  | .non :: _, _, h => by cases h
  | .bl _ :: _, _, h => by cases h
  | .str _ :: _, _, h => by cases h
  | .lst _ :: _, _, h => by cases h
  | .tup _ :: _, _, h => by cases h
  | .obj _ _ :: _, _, h => by cases h
  | .exn _ _ :: _, _, h => by cases h
  | .ty _ :: _, _, h => by cases h
  | .cls _ :: _, _, h => by cases h
  | .dct _ :: _, _, h => by cases h
theorem unB_eq : ∀ {ds : List Dt} {ns : List Bool}, unB ds = some ns → ds = ns.map .bl
  | [], ns, h => by cases h; rfl
  | .bl i :: ds, ns, h => by
    rw [unB] at h
    cases e : unB ds with
    | none => rw [e] at h; cases h
    | some ms => rw [e] at h; cases h; rw [unB_eq e]; rfl
  | .non :: _, _, h => by cases h
  | .int _ :: _, _, h => by cases h
  | .str _ :: _, _, h => by cases h
  | .lst _ :: _, _, h => by cases h
  | .tup _ :: _, _, h => by cases h
  | .obj _ _ :: _, _, h => by cases h
  | .exn _ _ :: _, _, h => by cases h
  | .ty _ :: _, _, h => by cases h
  | .cls _ :: _, _, h => by cases h
  | .dct _ :: _, _, h => by cases h
theorem unI_map : ∀ ns : List Int, unI (ns.map .int) = some ns
  | [] => rfl
  | n :: ns => by rw [List.map_cons, unI, unI_map ns]; rfl
theorem unB_map : ∀ ns : List Bool, unB (ns.map .bl) = some ns
  | [] => rfl
  | n :: ns => by rw [List.map_cons, unB, unB_map ns]; rfl
def wSum : WL := fun as q => match as with
  | [.lst ds] => onO (unI ds) fun ns => q (.int ns.sum)
  | [.tup ds] => onO (unI ds) fun ns => q (.int ns.sum)
  | _ => False
def wAll : WL := fun as q => match as with
  | [.lst ds] => onO (unB ds) fun bs => q (.bl (bs.all id))
  | _ => False
def wAny : WL := fun as q => match as with
  | [.lst ds] => onO (unB ds) fun bs => q (.bl (bs.any id))
  | _ => False
/-- the type of data, as isinstance looks at it: a built-in type -/
def tyD : Dt → Option String
  | .non => some "NoneType"
  | .bl _ => some "bool"
  | .int _ => some "int"
  | .str _ => some "str"
  | .lst _ => some "list"
  | .tup _ => some "tuple"
  | .dct _ => some "dict"
  | _ => none
def clsU : Dt → Option Value
  | .ty n => some (.type n)
  | .cls C => some (.ref C)
  | _ => none
def tyU : Dt → Option Value
  | .obj C _ => some (.ref C)
  | .exn C _ => some (.ref C)
  | d => (tyD d).map Value.type
def wIsi (K : PySem.W.Frag) : WL := fun as q => match as with
  | [d, c] => ∃ t u b, tyU d = some t ∧ clsU c = some u ∧ PySem.W.kitOne K t u = some b ∧ (∀ C fs, d = .exn C fs → ExcC K C) ∧ (∀ C fs, d = .obj C fs → ∀ F : Hp, ∀ a dx fv, F a = some (.ins C dx fv) → TyX K F (.ref a) (.ref C)) ∧ q (.bl b)
  | _ => False
section
variable {K : PySem.W.Frag}
theorem rpA1 {F : Hp} {xs : List V} {d : Dt} (h : RpA K F xs [d]) : ∃ x, xs = [x] ∧ Rp K F x d := by
  cases h with
  | cons h1 h2 => cases h2; exact ⟨_, rfl, h1⟩
theorem rpA2 {F : Hp} {xs : List V} {d e : Dt} (h : RpA K F xs [d, e]) : ∃ x y, xs = [x, y] ∧ Rp K F x d ∧ Rp K F y e := by
  cases h with
  | cons h1 h2 =>
    cases h2 with
    | cons h2 h3 => cases h3; exact ⟨_, _, rfl, h1, h2⟩
theorem sc_len : SndC K (DL.rLen K) wLen := fun F H xs as Q q f hx h k => by
  unfold wLen at h
  split at h
  · obtain ⟨x, rfl, gx⟩ := rpA1 hx
    obtain ⟨a, ys, rfl, h1, h2⟩ := rp_lst gx
    exact .inl ⟨a, ys, rfl, .inl (same_l f h1), by rw [rpA_len h2]; exact k _ _ F H (.refl f) (.int _) h⟩
  · obtain ⟨x, rfl, gx⟩ := rpA1 hx
    obtain ⟨a, ys, rfl, h1, h2⟩ := rp_tup gx
    exact .inl ⟨a, ys, rfl, .inr (same_t f h1), by rw [rpA_len h2]; exact k _ _ F H (.refl f) (.int _) h⟩
  · obtain ⟨x, rfl, gx⟩ := rpA1 hx
    exact .inr ⟨_, by rw [rp_str gx], sz_of h.1, k _ _ F H (.refl f) (.int _) h.2⟩
  · exact h.elim
theorem sc_list : SndC K (rListOf K) wListOf := fun F H xs as Q q f hx h k => by
  unfold wListOf at h
  split at h
  · obtain ⟨x, rfl, gx⟩ := rpA1 hx
    obtain ⟨a, ys, rfl, h1, h2⟩ := rp_lst gx
    exact ⟨a, ys, rfl, .inl (same_l f h1), fun l hl => k _ _ _ _ ((Stp.refl f).alloc hl) (.lst (sq_of upd_same) (rpA_mono (same_new (fresh_back f hl)) h2)) h⟩
  · obtain ⟨x, rfl, gx⟩ := rpA1 hx
    obtain ⟨a, ys, rfl, h1, h2⟩ := rp_tup gx
    exact ⟨a, ys, rfl, .inr (same_t f h1), fun l hl => k _ _ _ _ ((Stp.refl f).alloc hl) (.lst (sq_of upd_same) (rpA_mono (same_new (fresh_back f hl)) h2)) h⟩
  · exact h.elim
theorem sc_tuple : SndC K (rTupleOf K) wTupleOf := fun F H xs as Q q f hx h k => by
  unfold wTupleOf at h
  split at h
  · obtain ⟨x, rfl, gx⟩ := rpA1 hx
    obtain ⟨a, ys, rfl, h1, h2⟩ := rp_lst gx
    exact ⟨a, ys, rfl, .inl ⟨same_l f h1, fun l hl => k _ _ _ _ ((Stp.refl f).alloc hl) (.tup (st_of upd_same) (rpA_mono (same_new (fresh_back f hl)) h2)) h⟩⟩
  · obtain ⟨x, rfl, gx⟩ := rpA1 hx
    obtain ⟨a, ys, rfl, h1, h2⟩ := rp_tup gx
    exact ⟨a, ys, rfl, .inr ⟨same_t f h1, k _ _ F H (.refl f) gx h⟩⟩
  · exact h.elim
theorem sc_int : SndC K rInt wInt := fun F H xs as Q q f hx h k => by
  unfold wInt at h
  split at h
  · obtain ⟨x, rfl, gx⟩ := rpA1 hx
    exact .inl ⟨_, by rw [rp_int gx], k _ _ F H (.refl f) (.int _) h⟩
  · obtain ⟨x, rfl, gx⟩ := rpA1 hx
    exact .inr ⟨_, by rw [rp_bl gx], k _ _ F H (.refl f) (.int _) h⟩
  · exact h.elim
theorem sc_abs : SndC K rAbs wAbs := fun F H xs as Q q f hx h k => by
  unfold wAbs at h
  split at h
  · obtain ⟨x, rfl, gx⟩ := rpA1 hx
    exact ⟨_, by rw [rp_int gx], k _ _ F H (.refl f) (.int _) h⟩
  · exact h.elim
theorem sc_max : SndC K Evl.rMax2 wMax2 := fun F H xs as Q q f hx h k => by
  unfold wMax2 at h
  split at h
  · obtain ⟨x, y, rfl, gx, gy⟩ := rpA2 hx
    exact ⟨_, _, by rw [rp_int gx, rp_int gy], k _ _ F H (.refl f) (.int _) h⟩
  · exact h.elim
/-- sum of a list, of a tuple -/
def rSumT (K : PySem.W.Frag) : List V → Hp → VK → Prop := fun vs H Q => ∃ (a : Addr) (ns : List Int), vs = [V.ref a] ∧ SqT K H a (ns.map V.int) ∧ Q (.int ns.sum) H
theorem cr_sumT {X : Cx} (hc : X.calm = true) : CallR X (.builtin "sum") (rSumT X.K) := by
  intro pins s σ H vs us Q I r h
  obtain ⟨a, ns, rfl, hs, q⟩ := h
  obtain ⟨its, rv, ht, _⟩ := I.tuple hs
  rw [Vals.ref1 r]
  obtain ⟨xs, e⟩ := rv.ints.allInts.items
  have hn : numsOf (intItems xs).toList = ns := by rw [← e]; exact rv.ints.numsOf
  rw [nums_intItems] at hn
  rw [e] at ht
  refine PySem.W.ktm_sumG (I.ok.hd hc) ht fun h' tk t' hk => ?_
  rw [preSum_eq, List.take_of_length_le (by simp), hn]
  exact ⟨.int _, H, I.kept hk, ⟨_, rfl⟩, q⟩
def rSumA (K : PySem.W.Frag) : List V → Hp → VK → Prop := fun vs H Q => rSum K vs H Q ∨ rSumT K vs H Q
theorem cr_sumA {X : Cx} (hc : X.calm = true) : CallR X (.builtin "sum") (rSumA X.K) := CallR.or (cr_sum hc) (cr_sumT hc)
theorem sc_sum : SndC K (rSumA K) wSum := fun F H xs as Q q f hx h k => by
  unfold wSum at h
  split at h
  · obtain ⟨x, rfl, gx⟩ := rpA1 hx
    obtain ⟨a, ys, rfl, h1, h2⟩ := rp_lst gx
    obtain ⟨ns, h3, h4⟩ := onO_some h
    refine .inl ⟨a, ns, rfl, ?_, k _ _ F H (.refl f) (.int _) h4⟩
    rw [unI_eq h3] at h2
    rw [← rpA_ints' h2]
    exact same_l f h1
  · obtain ⟨x, rfl, gx⟩ := rpA1 hx
    obtain ⟨a, ys, rfl, h1, h2⟩ := rp_tup gx
    obtain ⟨ns, h3, h4⟩ := onO_some h
    refine .inr ⟨a, ns, rfl, ?_, k _ _ F H (.refl f) (.int _) h4⟩
    rw [unI_eq h3] at h2
    rw [← rpA_ints' h2]
    exact same_t f h1
  · exact h.elim
theorem sc_all : SndC K (rAll K) wAll := fun F H xs as Q q f hx h k => by
  unfold wAll at h
  split at h
  · obtain ⟨x, rfl, gx⟩ := rpA1 hx
    obtain ⟨a, ys, rfl, h1, h2⟩ := rp_lst gx
    obtain ⟨ns, h3, h4⟩ := onO_some h
    refine ⟨a, ns, rfl, ?_, k _ _ F H (.refl f) (.bl _) h4⟩
    rw [unB_eq h3] at h2
    rw [← rpA_bls' h2]
    exact same_l f h1
  · exact h.elim
theorem sc_any : SndC K (rAny K) wAny := fun F H xs as Q q f hx h k => by
  unfold wAny at h
  split at h
  · obtain ⟨x, rfl, gx⟩ := rpA1 hx
    obtain ⟨a, ys, rfl, h1, h2⟩ := rp_lst gx
    obtain ⟨ns, h3, h4⟩ := onO_some h
    refine ⟨a, ns, rfl, ?_, k _ _ F H (.refl f) (.bl _) h4⟩
    rw [unB_eq h3] at h2
    rw [← rpA_bls' h2]
    exact same_l f h1
  · exact h.elim
theorem rp_cls_of {F : Hp} {y : V} {c : Dt} {u : Value} (h : Rp K F y c) (e : clsU c = some u) : ClsV y u := by
  cases h with
  | ty n => cases e; exact .ty n
  | cls C => cases e; exact .own C
  | _ => cases e
theorem tyX_seqL {F : Hp} {a : Addr} {xs : List V} (h : SqL K F a xs) : TyX K F (.ref a) (.type "list") := by
  rcases h with (hs | ⟨o, hs⟩) | ⟨o, its, n, hk, hc, _⟩
  · exact .base (.lst hs)
  · exact .base (.frz hs)
  · exact .kList hk hc
theorem tyX_seqT {F : Hp} {a : Addr} {xs : List V} (h : SqT K F a xs) : TyX K F (.ref a) (.type "tuple") := by
  rcases h with (hs | ⟨o, hs⟩) | ⟨o, its, n, hk, hc, _⟩
  · exact .base (.tup hs)
  · exact .fTuple hs
  · exact .kTuple hk hc
/-- isinstance of data and own instances; of errors -/
def rIsiE (K : PySem.W.Frag) : List V → Hp → VK → Prop := fun xs H Q => rIsi K xs H Q ∨ rIsX K xs H Q
theorem call_isiE {X : Cx} : CallR X (.builtin "isinstance") (rIsiE X.K) := CallR.or call_isi call_isX
theorem sc_isi : SndC K (rIsiE K) (wIsi K) := fun F H xs as Q q f hx h k => by
  unfold wIsi at h
  split at h
  · rename_i d c
    obtain ⟨t, u, b, h1, h2, h3, hX, hO, h4⟩ := h
    obtain ⟨x, y, rfl, gx, gy⟩ := rpA2 hx
    have hc := rp_cls_of gy h2
    have g := k _ _ F H (.refl f) (.bl b) h4
    have gx := rp_mono f gx
    cases gx with
    | non => cases h1; exact .inl ⟨_, y, _, u, b, rfl, hc, .base .non, h3, g⟩
    | bl z => cases h1; exact .inl ⟨_, y, _, u, b, rfl, hc, .base (.bl z), h3, g⟩
    | int z => cases h1; exact .inl ⟨_, y, _, u, b, rfl, hc, .base (.int z), h3, g⟩
    | str z => cases h1; exact .inl ⟨_, y, _, u, b, rfl, hc, .base (.str z), h3, g⟩
    | lst hs _ => cases h1; exact .inl ⟨_, y, _, u, b, rfl, hc, tyX_seqL hs, h3, g⟩
    | tup hs _ => cases h1; exact .inl ⟨_, y, _, u, b, rfl, hc, tyX_seqT hs, h3, g⟩
    | dct hs _ => cases h1; exact .inl ⟨_, y, _, u, b, rfl, hc, .base (.dK hs), h3, g⟩
    | dctT hs _ => cases h1
    | obj ha _ => cases h1; exact .inl ⟨_, y, _, u, b, rfl, hc, hO _ _ rfl H _ _ _ ha, h3, g⟩
    | exn ha _ => cases h1; exact .inr ⟨_, _, _, y, u, b, rfl, hc, hX _ _ rfl, ha, h3, g⟩
    | ty n => cases h1
    | cls C => cases h1
  · exact h.elim
end
end E

set_option Elab.async false
set_option linter.all false
set_option maxRecDepth 100000
set_option maxHeartbeats 1200000
/-! what is walked; comprehensions; calls of defs -/
namespace E
open L2 PySem PySem.Spec PyProof.Rows DL
open Evl (sq_of st_of sz_of sz_lt)
variable [Tb]
structure WalkE (K : PySem.W.Frag) (J : It) (F : Hp) (ds : List Dt) : Prop where
  go : ∀ i H, Same F H → i < ds.length → J.go i H
  stop : ∀ H, Same F H → J.stop ds.length H
  yld : ∀ i H x H' F1, Same F F1 → Same F1 H → J.yld i H x H' → ∀ d, ds[i]? = some d → ∃ F2, Stp F1 H F2 H' ∧ Rp K F2 x d
section
variable {K : PySem.W.Frag} {F : Hp} {ds : List Dt}
theorem we_list {a : Addr} {xs : List V} (h : SqL K F a xs) (hd : RpA K F xs ds) : WalkE K (Itl K a) F ds where
  go := fun i H e hi => by
    obtain ⟨v, h1, _⟩ := rpA_get hd (List.getElem?_eq_getElem hi)
    exact ⟨xs, v, same_l e h, h1⟩
  stop := fun H e => ⟨xs, same_l e h, by rw [rpA_len hd]; exact Nat.le_refl _⟩
  yld := fun i H x H' F1 e f y d hi => by
    obtain ⟨rfl, y⟩ := y
    obtain ⟨v, h1, h2⟩ := rpA_get hd hi
    have := y xs (same_l (e.trans f) h)
    rw [h1] at this
    cases this
    exact ⟨F1, .refl f, rp_mono e h2⟩
theorem we_tuple {a : Addr} {xs : List V} (h : SqT K F a xs) (hd : RpA K F xs ds) : WalkE K (Itt K a) F ds where
  go := fun i H e hi => by
    obtain ⟨v, h1, _⟩ := rpA_get hd (List.getElem?_eq_getElem hi)
    exact ⟨xs, v, same_t e h, h1⟩
  stop := fun H e => ⟨xs, same_t e h, by rw [rpA_len hd]; exact Nat.le_refl _⟩
  yld := fun i H x H' F1 e f y d hi => by
    obtain ⟨rfl, y⟩ := y
    obtain ⟨v, h1, h2⟩ := rpA_get hd hi
    have := y xs (same_t (e.trans f) h)
    rw [h1] at this
    cases this
    exact ⟨F1, .refl f, rp_mono e h2⟩
def rangeE (lo : Int) (n : Nat) : List Dt := (List.range n).map fun i => .int (lo + (i : Nat))
theorem rangeE_len {lo : Int} {n : Nat} : (rangeE lo n).length = n := by simp [rangeE]
theorem rangeE_get {lo : Int} {n i : Nat} {d : Dt} (h : (rangeE lo n)[i]? = some d) : i < n ∧ d = .int (lo + (i : Nat)) := by
  obtain ⟨h1, h2⟩ := List.getElem?_eq_some_iff.mp h
  rw [rangeE_len] at h1
  exact ⟨h1, by rw [← h2]; simp [rangeE]⟩
theorem we_range {lo : Int} {n : Nat} : WalkE K (Itr lo n) F (rangeE lo n) where
  go := fun i H e hi => by rw [rangeE_len] at hi; exact hi
  stop := fun H e => by simp [rangeE, Itr]
  yld := fun i H x H' F1 e f y d hi => by
    obtain ⟨rfl, rfl⟩ := y
    obtain ⟨_, rfl⟩ := rangeE_get hi
    exact ⟨F1, .refl f, .int _⟩
def enumE (ds : List Dt) : List Dt := ds.mapIdx fun i d => .tup [.int (i : Nat), d]
theorem enumE_len : (enumE ds).length = ds.length := by unfold enumE; exact List.length_mapIdx
theorem enumE_get {i : Nat} {d : Dt} (h : ds[i]? = some d) : (enumE ds)[i]? = some (.tup [.int (i : Nat), d]) := by
  unfold enumE
  rw [List.getElem?_mapIdx, h]
  rfl
theorem enumE_at {i : Nat} {e : Dt} (h : (enumE ds)[i]? = some e) : ∃ d, ds[i]? = some d ∧ e = .tup [.int (i : Nat), d] := by
  have hi : i < ds.length := by
    obtain ⟨h1, _⟩ := List.getElem?_eq_some_iff.mp h
    rwa [enumE_len] at h1
  have h2 := List.getElem?_eq_getElem hi
  rw [enumE_get h2] at h
  exact ⟨_, h2, (Option.some.inj h).symm⟩
theorem we_enumL {a : Addr} {xs : List V} (h : SqL K F a xs) (hd : RpA K F xs ds) : WalkE K (Ite K a) F (enumE ds) where
  go := fun i H e hi => by
    rw [enumE_len] at hi
    obtain ⟨v, h1, _⟩ := rpA_get hd (List.getElem?_eq_getElem hi)
    exact ⟨xs, v, same_l e h, h1⟩
  stop := fun H e => ⟨xs, same_l e h, by rw [rpA_len hd, enumE_len]; exact Nat.le_refl _⟩
  yld := fun i H x H' F1 e f y d hi => by
    obtain ⟨T, u, rfl, hT, rfl, y⟩ := y
    obtain ⟨d', h3, rfl⟩ := enumE_at hi
    obtain ⟨v, h1, h2⟩ := rpA_get hd h3
    have := y xs (same_l (e.trans f) h)
    rw [h1] at this
    cases this
    exact ⟨_, (Stp.refl f).alloc hT, .tup (st_of upd_same) (.cons (.int _) (.cons (rp_mono (e.trans (same_new (fresh_back f hT))) h2) .nil))⟩
theorem we_enumT {a : Addr} {xs : List V} (h : SqT K F a xs) (hd : RpA K F xs ds) : WalkE K (IteT K a) F (enumE ds) where
  go := fun i H e hi => by
    rw [enumE_len] at hi
    obtain ⟨v, h1, _⟩ := rpA_get hd (List.getElem?_eq_getElem hi)
    exact ⟨xs, v, same_t e h, h1⟩
  stop := fun H e => ⟨xs, same_t e h, by rw [rpA_len hd, enumE_len]; exact Nat.le_refl _⟩
  yld := fun i H x H' F1 e f y d hi => by
    obtain ⟨T, u, rfl, hT, rfl, y⟩ := y
    obtain ⟨d', h3, rfl⟩ := enumE_at hi
    obtain ⟨v, h1, h2⟩ := rpA_get hd h3
    have := y xs (same_t (e.trans f) h)
    rw [h1] at this
    cases this
    exact ⟨_, (Stp.refl f).alloc hT, .tup (st_of upd_same) (.cons (.int _) (.cons (rp_mono (e.trans (same_new (fresh_back f hT))) h2) .nil))⟩
end
/-! rules of syntax: a list or a tuple, as it comes -/
def iSeqM (K : PySem.W.Frag) (tl : TE) : TI := fun σ H R => tl σ H fun x H1 => ∃ a, x = .ref a ∧ (((∃ xs, SqL K H1 a xs) ∧ R (Itl K a) H1) ∨ ((∃ xs, SqT K H1 a xs) ∧ R (Itt K a) H1))
def iEnumM (K : PySem.W.Frag) (ta : TA) : TI := fun σ H R => ta σ H fun vs H1 => ∃ a, vs = [.ref a] ∧ (((∃ xs, SqL K H1 a xs) ∧ R (Ite K a) H1) ∨ ((∃ xs, SqT K H1 a xs) ∧ R (IteT K a) H1))
section
variable {X : Cx}
theorem pi_seqM {tg l : Expr} {tl : TE} (hl : PE X l tl) : PI X tg l (iSeqM X.K tl) := ⟨fun pn s σ H R I h => by
  refine thn (hl.run pn s σ H _ I h) fun v s1 ⟨x, H1, I1, r1, q1⟩ => ?_
  obtain ⟨a, rfl, q1⟩ := q1
  cases r1
  have one : ∀ b ∈ [s1.heap.objs.size], FpOk X pn H1 b := fun b kb => by
    have e : b = s1.heap.objs.size := by simpa using kb
    subst e
    exact I1.fpOk (Nat.le_refl _) (I1.hok.fresh (Nat.le_refl _))
  rcases q1 with ⟨⟨xs, kq⟩, q⟩ | ⟨⟨xs, kq⟩, q⟩
  · obtain ⟨its, rv, p, kz⟩ := I1.list kq
    exact wpAny_pyIter_list p.isList ⟨s1.heap.objs.size, [s1.heap.objs.size], _, _, H1, rfl, I1.kept (t' := s1.toks) fun b o e => Heap.get?_push_of_some _ e, turn_list a _, ⟨_, Heap.get?_push_size _ rfl, rfl, rfl⟩, one, q⟩
  · obtain ⟨its, rv, p, kz⟩ := I1.tuple kq
    exact wpAny_pyIter_tuple (show s1.heap.IsTuple a its.toArray from p) ⟨s1.heap.objs.size, [s1.heap.objs.size], _, _, H1, rfl, I1.kept (t' := s1.toks) fun b o e => Heap.get?_push_of_some _ e, turn_tuple a _, ⟨_, Heap.get?_push_size _ rfl, rfl, rfl⟩, one, q⟩⟩
theorem pi_enumM {e : Expr} {ta : TA} {p pos tpos : Pos} {elts : List Expr} {kk : Nat} (kg : Gl X "enumerate") (km : X.mg "enumerate" = none) (ka : PA X [e] ta) (ks : starEach [e] X.env = [(false, eval e X.env)] := by rfl) :
    PI X (.Tuple elts kk tpos) (.Call (.Name "enumerate" p) [e] [] pos) (iEnumM X.K ta) := ⟨fun pn s σ H R I h => by
  refine Call_ (ld_blt I kg km boot_enumerate (PyProof.Rows.callWith_type1 (thn (ka.run pos pn s σ H _ I h) ?_) ks rfl))
  rintro us t1 ⟨vs, G1, J1, rr, a, rfl, q1⟩
  cases rr with
  | cons r rs =>
    cases rs
    cases r
    have two : ∀ b ∈ [t1.heap.objs.size + 1, t1.heap.objs.size], FpOk X pn G1 b := fun b kb =>
      have le : t1.heap.objs.size ≤ b := by
        rcases List.mem_cons.mp kb with c | c
        · rw [c]; exact Nat.le_succ _
        · exact Nat.le_of_eq (List.mem_singleton.mp c).symm
      J1.fpOk le (J1.hok.fresh le)
    rcases q1 with ⟨⟨xs, kq⟩, q⟩ | ⟨⟨xs, kq⟩, q⟩
    · obtain ⟨ys, ry, isL, _⟩ := J1.list kq
      refine call_enumerate_list isL.isList fun g ke kit _ kk2 => wpAny_pyIter_enum ke ?_
      exact ⟨t1.heap.objs.size + 1, [t1.heap.objs.size + 1, t1.heap.objs.size], _, _, G1, rfl, J1.kept (t' := t1.toks) kk2, turn_enum a _ _, ⟨⟨.none, ke⟩, kit, Nat.succ_ne_self _⟩, two, q⟩
    · obtain ⟨ys, ry, isT, _⟩ := J1.tuple kq
      have la : a < t1.heap.objs.size := let ⟨_, e, _⟩ := isT; Heap.lt_size e
      refine call_enumerate_tuple (show t1.heap.IsTuple a ys.toArray from isT) fun g ke kit _ kk2 => wpAny_pyIter_enum ke ?_
      exact ⟨t1.heap.objs.size + 1, [t1.heap.objs.size + 1, t1.heap.objs.size], _, _, G1, rfl, J1.kept (t' := t1.toks) kk2, turn_enumT a _ _, ⟨⟨.none, ke⟩, kit, Nat.succ_ne_self _, Nat.ne_of_lt la, Nat.ne_of_lt (Nat.lt_succ_of_lt la)⟩, two, q⟩⟩
end
def SndI (K : PySem.W.Frag) (E : XK) (ti : TI) (w : WA) : Prop := ∀ pp F H σ ss t R q x, RelE K pp F H σ ss t → w ss t q x → XOk K E pp F H x → (∀ J ds t' F' H', StE K pp F H F' H' t' → WalkE K J F' ds → q ds t' → R J H') → ti σ H R
def seqD (d : Dt) (k : List Dt → Prop) : Prop := match d with
  | .lst ds => k ds
  | .tup ds => k ds
  | _ => False
def wSeq (a : WE) : WA := fun ss t q x => a ss t (fun d t1 => seqD d fun ds => q ds t1) x
def wEnum (a : WA) : WA := fun ss t q x => a ss t (fun as t1 => match as with
  | [d] => seqD d fun ds => q (enumE ds) t1
  | _ => False) x
def wRng1 (a : WA) : WA := fun ss t q x => a ss t (fun as t1 => match as with
  | [.int n] => (-(2 ^ 62) ≤ n ∧ n < 2 ^ 62) ∧ q (rangeE 0 n.toNat) t1
  | _ => False) x
def wRng2 (a : WA) : WA := fun ss t q x => a ss t (fun as t1 => match as with
  | [.int m, .int n] => (-(2 ^ 62) ≤ m ∧ m < 2 ^ 62 ∧ -(2 ^ 62) ≤ n ∧ n < 2 ^ 62) ∧ q (rangeE m (n - m).toNat) t1
  | _ => False) x
section
variable {K : PySem.W.Frag} {E : XK} {te : TE} {we : WE} {ta : TA} {wa : WA}
theorem si_seq (h : Snd K E te we) : SndI K E (iSeqM K te) (wSeq we) := fun pp F H σ ss t R q x r hw X k =>
  h pp F H σ ss t _ _ x r hw X fun v d t1 F1 H1 s1 hv h1 => by
    unfold seqD at h1
    split at h1
    · obtain ⟨a, xs, rfl, h2, h3⟩ := rp_lst hv
      exact ⟨a, rfl, .inl ⟨⟨xs, same_l s1.fh h2⟩, k _ _ t1 F1 H1 s1 (we_list h2 h3) h1⟩⟩
    · obtain ⟨a, xs, rfl, h2, h3⟩ := rp_tup hv
      exact ⟨a, rfl, .inr ⟨⟨xs, same_t s1.fh h2⟩, k _ _ t1 F1 H1 s1 (we_tuple h2 h3) h1⟩⟩
    · exact h1.elim
theorem si_enum (h : SndA K E ta wa) : SndI K E (iEnumM K ta) (wEnum wa) := fun pp F H σ ss t R q x r hw X k =>
  h pp F H σ ss t _ _ x r hw X fun vs ds t1 F1 H1 s1 hv h1 => by
    split at h1
    · obtain ⟨v, rfl, gv⟩ := rpA1 hv
      unfold seqD at h1
      split at h1
      · obtain ⟨a, xs, rfl, h2, h3⟩ := rp_lst gv
        exact ⟨a, rfl, .inl ⟨⟨xs, same_l s1.fh h2⟩, k _ _ t1 F1 H1 s1 (we_enumL h2 h3) h1⟩⟩
      · obtain ⟨a, xs, rfl, h2, h3⟩ := rp_tup gv
        exact ⟨a, rfl, .inr ⟨⟨xs, same_t s1.fh h2⟩, k _ _ t1 F1 H1 s1 (we_enumT h2 h3) h1⟩⟩
      · exact h1.elim
    · exact h1.elim
theorem si_rng1 (h : SndA K E ta wa) : SndI K E (iRng1 ta) (wRng1 wa) := fun pp F H σ ss t R q x r hw X k =>
  h pp F H σ ss t _ _ x r hw X fun vs ds t1 F1 H1 s1 hv h1 => by
    split at h1
    · obtain ⟨v, rfl, gv⟩ := rpA1 hv
      exact ⟨_, by rw [rp_int gv], h1.1.1, h1.1.2, k _ _ t1 F1 H1 s1 we_range h1.2⟩
    · exact h1.elim
theorem si_rng2 (h : SndA K E ta wa) : SndI K E (iRng2 ta) (wRng2 wa) := fun pp F H σ ss t R q x r hw X k =>
  h pp F H σ ss t _ _ x r hw X fun vs ds t1 F1 H1 s1 hv h1 => by
    split at h1
    · obtain ⟨v, w, rfl, gv, gw⟩ := rpA2 hv
      exact ⟨_, _, by rw [rp_int gv, rp_int gw], ⟨h1.1.1, h1.1.2.1, h1.1.2.2.1, h1.1.2.2.2⟩, k _ _ t1 F1 H1 s1 we_range h1.2⟩
    · exact h1.elim
end
/-! targets -/
abbrev WG := Dt → Ss → (Ss → Prop) → Prop
def wgName (i : Nat) : WG := fun d ss k => k (ss.set i (.val d))
abbrev WGs := List Dt → Ss → (Ss → Prop) → Prop
def wgNil : WGs := fun ds ss k => match ds with
  | [] => k ss
  | _ => False
def wgCons (g : WG) (r : WGs) : WGs := fun ds ss k => match ds with
  | d :: es => g d ss fun s2 => r es s2 k
  | _ => False
def wgTup (n : Nat) (r : WGs) : WG := fun d ss k => match d with
  | .tup ds => ds.length = n ∧ r ds ss k
  | _ => False
/-- a relation of slots that stores of data keep -/
structure Keeps (K : PySem.W.Frag) (F H : Hp) (vs : List Nat) (R : L2.St → Ss → Prop) : Prop where
  st : ∀ σ ss i v d, R σ ss → i ∈ vs → Rp K F v d → R (σ.set i (some v)) (ss.set i (.val d))
def SndG (K : PySem.W.Frag) (vs : List Nat) (g : TG) (w : WG) : Prop := ∀ (R : L2.St → Ss → Prop) F H v d σ ss (k : L2.St → Hp → Prop) kd, Same F H → Keeps K F H vs R → R σ ss → Rp K F v d → w d ss kd → (∀ σ2 ss2, R σ2 ss2 → kd ss2 → k σ2 H) → g v σ H k
def SndGs (K : PySem.W.Frag) (vs : List Nat) (g : TGs) (w : WGs) : Prop := ∀ (R : L2.St → Ss → Prop) F H xs ds σ ss (k : L2.St → Hp → Prop) kd, Same F H → Keeps K F H vs R → R σ ss → RpA K F xs ds → w ds ss kd → (∀ σ2 ss2, R σ2 ss2 → kd ss2 → k σ2 H) → g xs σ H k
section
variable {K : PySem.W.Frag} {vs : List Nat} {g : TG} {gs : TGs} {w : WG} {ws : WGs} {n : Nat}
theorem sg_name {i : Nat} (h : i ∈ vs) : SndG K vs (gName i) (wgName i) := fun R F H v d σ ss k kd f ke r hv hw q => q _ _ (ke.st σ ss i v d r h hv) hw
theorem sgs_nil : SndGs K vs gNil wgNil := fun R F H xs ds σ ss k kd f ke r hv hw q => by
  unfold wgNil at hw
  split at hw
  · cases hv
    exact ⟨rfl, q _ _ r hw⟩
  · exact hw.elim
theorem sgs_cons (h1 : SndG K vs g w) (h2 : SndGs K vs gs ws) : SndGs K vs (gCons g gs) (wgCons w ws) := fun R F H xs ds σ ss k kd f ke r hv hw q => by
  unfold wgCons at hw
  split at hw
  · rename_i d es
    cases hv with
    | cons g1 g2 =>
      rename_i v vs'
      exact ⟨v, vs', rfl, h1 R F H _ _ σ ss _ _ f ke r g1 hw fun σ2 s2 r2 hk => h2 R F H _ _ σ2 s2 k kd f ke r2 g2 hk q⟩
  · exact hw.elim
theorem sg_tup (h : SndGs K vs gs ws) : SndG K vs (gTup K n gs) (wgTup n ws) := fun R F H v d σ ss k kd f ke r hv hw q => by
  unfold wgTup at hw
  split at hw
  · obtain ⟨a, xs, rfl, h1, h2⟩ := rp_tup hv
    exact ⟨a, xs, rfl, same_t f h1, by rw [rpA_len h2, hw.1], h R F H xs _ σ ss k kd f ke r h2 hw.2 q⟩
  · exact hw.elim
end
/-! comprehensions -/
def wipeE (ss : Ss) : List Nat → Ss
  | [] => ss
  | v :: vs => (wipeE ss vs).set v .no
theorem EnvE.unset {K : PySem.W.Frag} {pp : Option Pi} {F H : Hp} {σ : L2.St} {ss : Ss} {i : Nat} {o : Option V} (h : EnvE K pp F H σ ss) : EnvE K pp F H (σ.set i o) (ss.set i .no) := by
  have key : ∀ (j : Nat) (s : Sx), s ≠ .no → (ss.set i .no)[j]? = some s → ss[j]? = some s ∧ (σ.set i o)[j]? = σ[j]? := fun j s ne e => by
    rw [List.getElem?_set] at e
    split at e
    · split at e
      · exact absurd (Option.some.inj e).symm ne
      · cases e
    · rename_i hn
      exact ⟨e, by rw [List.getElem?_set, if_neg hn]⟩
  refine ⟨by rw [List.length_set, List.length_set]; exact h.len, fun j d e => ?_, fun j e => ?_, fun j C fs e => ?_, fun j e => h.gho j (key j _ (fun z => by cases z) e).1⟩
  · obtain ⟨h1, h2⟩ := key j _ (fun z => by cases z) e
    rw [h2]; exact h.val j d h1
  · obtain ⟨h1, h2⟩ := key j _ (fun z => by cases z) e
    rw [h2]; exact h.pen j h1
  · obtain ⟨h1, h2⟩ := key j _ (fun z => by cases z) e
    rw [h2]; exact h.slf j C fs h1
theorem EnvE.wipe {K : PySem.W.Frag} {pp : Option Pi} {F H : Hp} {σ : L2.St} {ss : Ss} (h : EnvE K pp F H σ ss) : ∀ vs : List Nat, EnvE K pp F H (wipe σ vs) (wipeE ss vs)
  | [] => h
  | _ :: vs => EnvE.unset (EnvE.wipe h vs)
theorem EnvE.set {K : PySem.W.Frag} {pp : Option Pi} {F H : Hp} {σ : L2.St} {ss : Ss} {i : Nat} {v : V} {d : Dt} (h : EnvE K pp F H σ ss) (hv : Rp K F v d) : EnvE K pp F H (σ.set i (some v)) (ss.set i (.val d)) := by
  have key : ∀ (j : Nat) (s : Sx), (ss.set i (.val d))[j]? = some s → (j = i ∧ i < ss.length ∧ s = .val d) ∨ (ss[j]? = some s ∧ (σ.set i (some v))[j]? = σ[j]?) := fun j s e => by
    rw [List.getElem?_set] at e
    split at e
    · rename_i hij
      split at e
      · rename_i hl
        exact .inl ⟨hij.symm, hl, (Option.some.inj e).symm⟩
      · cases e
    · rename_i hn
      exact .inr ⟨e, by rw [List.getElem?_set, if_neg hn]⟩
  refine ⟨by rw [List.length_set, List.length_set]; exact h.len, fun j d' e => ?_, fun j e => ?_, fun j C fs e => ?_, fun j e => (by
    rcases key j _ e with ⟨_, _, e'⟩ | ⟨h1, _⟩
    · cases e'
    · exact h.gho j h1)⟩
  · rcases key j _ e with ⟨rfl, hl, e'⟩ | ⟨h1, h2⟩
    · cases e'
      exact ⟨v, by rw [List.getElem?_set, if_pos rfl, if_pos (by rw [h.len]; exact hl)], hv⟩
    · rw [h2]; exact h.val j d' h1
  · rcases key j _ e with ⟨rfl, hl, e'⟩ | ⟨h1, h2⟩
    · cases e'
    · rw [h2]; exact h.pen j h1
  · rcases key j _ e with ⟨rfl, hl, e'⟩ | ⟨h1, h2⟩
    · cases e'
    · rw [h2]; exact h.slf j C fs h1
theorem wipe_set {σ τ : L2.St} {vs : List Nat} {j : Nat} {x : V} (h : j ∈ vs) (e : L2.wipe σ vs = τ) : L2.wipe (σ.set j (some x)) vs = τ := by
  rw [← e]
  apply List.ext_getElem?
  intro n
  have key : ∀ (τ : L2.St) (n : Nat), (L2.wipe τ vs)[n]? = if n ∈ vs then τ[n]?.map (fun _ => none) else τ[n]? := by
    intro τ n
    clear h e
    induction vs generalizing n with
    | nil => simp [L2.wipe]
    | cons v vs ih =>
      show ((L2.wipe τ vs).set v none)[n]? = _
      rw [List.getElem?_set]
      by_cases e : v = n
      · subst e
        rw [if_pos rfl]
        simp only [wipe_length, List.mem_cons, true_or, if_true]
        by_cases hl : v < τ.length
        · rw [if_pos hl, List.getElem?_eq_getElem hl]; rfl
        · rw [if_neg hl, List.getElem?_eq_none (by omega)]; rfl
      · rw [if_neg e, ih]
        have : (n ∈ v :: vs) = (n ∈ vs) := by
          simp only [List.mem_cons, eq_iff_iff]
          exact ⟨fun h => h.resolve_left (fun z => e z.symm), .inr⟩
        simp only [this]
  rw [key, key]
  by_cases hn : n ∈ vs
  · rw [if_pos hn, if_pos hn, List.getElem?_set]
    split
    · rename_i e
      subst e
      split
      · rename_i hl
        rw [List.getElem?_eq_getElem hl]; rfl
      · rename_i hl
        rw [List.getElem?_eq_none (by omega)]
    · rfl
  · have hjn : j ≠ n := fun e => hn (by rw [← e]; exact h)
    rw [if_neg hn, if_neg hn, List.getElem?_set, if_neg hjn]
theorem wipe_wipe {σ : L2.St} : ∀ {vs : List Nat}, L2.wipe (L2.wipe σ vs) vs = L2.wipe σ vs := by
  intro vs
  have key : ∀ (us : List Nat), (∀ v ∈ us, v ∈ vs) → L2.wipe (L2.wipe σ vs) us = L2.wipe σ vs := by
    intro us
    induction us with
    | nil => intro _; rfl
    | cons u us ih =>
      intro h
      show (L2.wipe (L2.wipe σ vs) us).set u none = _
      rw [ih fun v hv => h v (List.mem_cons_of_mem _ hv)]
      have hu := h u List.mem_cons_self
      clear ih h
      apply List.ext_getElem?
      intro n
      rw [List.getElem?_set]
      split
      · rename_i e
        subst e
        have : ∀ {ws : List Nat} {τ : L2.St}, u ∈ ws → (L2.wipe τ ws)[u]? = τ[u]?.map fun _ => none := by
          intro ws
          induction ws with
          | nil => intro τ h; simp at h
          | cons w ws ih =>
            intro τ h
            show ((L2.wipe τ ws).set w none)[u]? = _
            rw [List.getElem?_set]
            split
            · rename_i e
              subst e
              rw [wipe_length]
              split
              · rename_i hl
                rw [List.getElem?_eq_getElem hl]; rfl
              · rename_i hl
                rw [List.getElem?_eq_none (by omega)]; rfl
            · rename_i hn
              exact ih ((List.mem_cons.mp h).resolve_left fun z => hn z.symm)
        rw [this hu, wipe_length]
        split
        · rename_i hl
          rw [List.getElem?_eq_getElem hl]; rfl
        · rename_i hl
          rw [List.getElem?_eq_none (by omega)]; rfl
      · rfl
  exact key vs fun v hv => hv
theorem stE_minus {K : PySem.W.Frag} {pp : Option Pi} {F1 H1 F3 H F4 H4 : Hp} {L : Addr} {t t4 : Int} (a : StE K pp F1 H1 F3 (minus H L) t) (b : StE K pp F3 H F4 H4 t4) (hl : ∃ xs, H L = some (.lst xs)) (hpl : L ∉ pl pp) : StE K pp F1 H1 F4 (minus H4 L) t4 := by
  obtain ⟨lx, hl⟩ := hl
  have hL : H L ≠ none := by rw [hl]; exact fun z => by cases z
  have f3 : F3 L = none := a.fh.free minus_at
  have f4 : F4 L = none := b.gr.nw L f3 hL
  refine ⟨⟨a.ff.trans b.ff, fun c o h => ?_, fun c o hc h => ?_, fun p h1 h2 => ?_, fun p h => ?_⟩, fun p e => ?_⟩
  · have e : c ≠ L := fun z => by subst z; rw [f4] at h; cases h
    rw [minus_ne e]
    exact b.fh c o h
  · have h1 := a.gr.hh c o hc h
    have e : c ≠ L := fun z => by subst z; rw [minus_at] at h1; cases h1
    rw [minus_ne e] at h1 ⊢
    exact b.gr.hh c o hc h1
  · exact b.gr.nw p (a.gr.nw p h1 h2) (some_of_same minus_le (a.gr.al p h2))
  · have h1 := a.gr.al p h
    have e : p ≠ L := fun z => h1 (by subst z; exact minus_at)
    rw [minus_ne e] at h1 ⊢
    exact b.gr.al p h1
  · obtain ⟨h1, ⟨h0, h6⟩, tt, r, h2, h3⟩ := b.pen p e
    have pn : p.p ≠ L := fun z => hpl (by rw [e]; exact z ▸ List.mem_cons_self)
    exact ⟨h1, ⟨h0, h6.off (b.gr.hh L _ hpl hl) h6.1 fun a o n q => by rw [minus_ne n]; exact q⟩, tt, r, by rw [minus_ne pn]; exact h2, h3⟩
def wLc (wi : WA) (g : WG) (wt : WT) (we : WE) (vs : List Nat) : WA := fun ss t q x => wi ss t (fun ds t1 => ds.length ≤ 100000 ∧ ∃ I : Nat → List Dt → Int → Prop, I 0 [] t1 ∧
  (∀ i d acc tt, ds[i]? = some d → I i acc tt → acc.length ≤ i → g d (wipeE ss vs) fun s2 => wt s2 tt (fun b t2 => if b = true then we s2 t2 (fun e t3 => I (i + 1) (acc ++ [e]) t3) (fun _ _ => False) else I (i + 1) acc t2) (fun _ _ => False)) ∧
  ∀ acc tt, I ds.length acc tt → q acc tt) x
theorem xok_none {K : PySem.W.Frag} {E : XK} {pp : Option Pi} {F H : Hp} : XOk K E pp F H (fun _ _ => False) := fun _ _ _ _ _ _ _ _ _ h => h.elim
theorem nn_lc {K : PySem.W.Frag} {E : XK} {ti : TI} {wi : WA} {g : TG} {wg : WG} {tt : TT} {wt : WT} {te : TE} {we : WE} {vs : List Nat} (hi : SndI K E ti wi) (hg : SndG K vs g wg) (ht : SndT K E tt wt) (he : Snd K E te we) : SndN K E (tLc ti g tt te vs) (wLc wi wg wt we vs) := fun pp F H σ ss t Q q x r hw X k =>
  hi pp F H σ ss t _ _ x r hw X fun J ds t1 F1 H1 s1 w hw => by
    obtain ⟨hl, I, h0, hs, hd⟩ := hw
    intro L hL
    have r1 := r.step s1
    have hpL : L ∉ pl pp := fun z => by
      obtain ⟨P, e, h⟩ := pl_mem z
      exact (r1.pen P e).there h hL
    refine ⟨fun i m H => i + m = ds.length ∧ ∃ F3 xs acc tt, StE K pp F1 H1 F3 (minus H L) tt ∧ H L = some (.lst xs) ∧ RpA K F3 xs acc ∧ acc.length ≤ i ∧ I i acc tt, ⟨ds.length, by omega, F1, [], [], t1, ?_, upd_same, .nil, Nat.le_refl _, h0⟩, ?_⟩
    · rw [minus_upd, minus_new hL]
      exact r1.refl
    · rintro i m H ⟨em, F3, xs, acc, t3, s3, eL, hacc, hlen, hI⟩
      have fH : Same F3 H := s3.fh.trans minus_le
      have hLs : ∃ xs, H L = some (.lst xs) := ⟨_, eL⟩
      have hLp : ∀ {H' : Hp} {F F' : Hp} {t' : Int}, StE K pp F H F' H' t' → H' L = some (.lst xs) := fun s => s.gr.hh _ _ hpL eL
      have r3 : RelE K pp F3 H (wipe σ vs) (wipeE ss vs) t3 := by
        have r3' := r1.step s3
        refine ⟨fH, (r3'.env.mono (.refl _) fun a o _ h => minus_le a o h).wipe vs, fun p e => ?_⟩
        obtain ⟨g1, ⟨g0, g6⟩, tt, rr, g2, g3⟩ := s3.pen p e
        exact ⟨g1, ⟨g0, g6.up g6.1 minus_le⟩, tt, rr, minus_le _ _ g2, g3⟩
      by_cases hi : i < ds.length
      · refine .inr ⟨w.go i H (s3.ff.trans fH) hi, fun H => ∃ F3 xs acc tt, StE K pp F1 H1 F3 (minus H L) tt ∧ H L = some (.lst xs) ∧ RpA K F3 xs acc ∧ acc.length ≤ i + 1 ∧ I (i + 1) acc tt, fun H' hN => ⟨m - 1, by omega, by omega, hN⟩, fun y H' hy => ?_⟩
        have hd' := List.getElem?_eq_getElem hi
        obtain ⟨F4, s4, hy⟩ := w.yld i H y H' F3 s3.ff fH hy _ hd'
        have s4e := r3.stp s4
        have r4 := r3.step s4e
        have s34 := stE_minus s3 s4e hLs hpL
        refine hg (fun σ2 ss2 => EnvE K pp F4 H' σ2 ss2 ∧ wipe σ2 vs = wipe σ vs) F4 H' y _ (wipe σ vs) (wipeE ss vs) _ _ r4.fh ⟨fun σ2 s2 j v d h hj hv => ⟨h.1.set hv, wipe_set hj h.2⟩⟩ ⟨r4.env, wipe_wipe⟩ hy (hs i _ acc t3 hd' hI hlen) fun σ2 ss2 h2 hk => ⟨h2.2, ?_⟩
        have r4' : RelE K pp F4 H' σ2 ss2 t3 := ⟨r4.fh, h2.1, r4.pen⟩
        refine ht pp F4 H' σ2 ss2 t3 _ _ _ r4' hk xok_none fun b t5 F5 H5 s5 hb => ?_
        have hLs4 : ∃ xs, H' L = some (.lst xs) := ⟨_, hLp s4e⟩
        have s35 := stE_minus s34 s5 hLs4 hpL
        cases b with
        | false =>
          rw [if_neg Bool.false_ne_true] at hb ⊢
          exact ⟨F5, xs, acc, t5, s35, hLp (s4e.trans s5), rpA_mono (s4.ff.trans s5.ff) hacc, by omega, hb⟩
        | true =>
          rw [if_pos rfl] at hb ⊢
          refine he pp F5 H5 σ2 ss2 t5 _ _ _ (r4'.step s5) hb xok_none fun z e t6 F6 H6 s6 hz hI6 => ?_
          have hLs5 : ∃ xs, H5 L = some (.lst xs) := ⟨_, hLp (s4e.trans s5)⟩
          have s36 := stE_minus s35 s6 hLs5 hpL
          have eL6 := hLp ((s4e.trans s5).trans s6)
          refine ⟨xs, eL6, sz_lt (by rw [rpA_len hacc]; omega), F6, xs ++ [z], acc ++ [e], t6, by rw [minus_upd]; exact s36, upd_same, rpA_app (rpA_mono ((s4.ff.trans s5.ff).trans s6.ff) hacc) (.cons hz .nil), by rw [List.length_append, List.length_singleton]; omega, hI6⟩
      · have : i = ds.length := by omega
        subst this
        refine .inl ⟨w.stop H (s3.ff.trans fH), ?_⟩
        have := k L xs acc t3 F3 (minus H L) (s1.trans s3) minus_at hacc (hd acc t3 hI)
        rw [upd_minus eL] at this
        exact this
/-! calls -/
abbrev Tp := List Dt → (Dt → Prop) → (Xn → Prop) → Prop
abbrev Tpm := List Dt → Int → (Dt → Int → Prop) → XQ → Prop
/-- a def that changes nothing -/
def spT (K : PySem.W.Frag) (T : Tp) : Sp := fun vs H Q E => ∃ F ds q x, Same F H ∧ RpA K F vs ds ∧ T ds q x ∧ (∀ v d F2 H2, Stp F H F2 H2 → Rp K F2 v d → q d → Q v H2) ∧ ∀ X dd fv F2 H2, Stp F H F2 H2 → F2 dd = some (.xd fv) → RpF K F2 fv X.fs → x X → E (.ref X.C) (some dd) H2
/-- a def that draws: the pen ahead -/
def spM (K : PySem.W.Frag) (T : Tpm) : Sp := fun vs H Q E => ∃ F p ws ds t q x, vs = .ref p.p :: ws ∧ Same F H ∧ PenAt K F H p t ∧ RpA K F ws ds ∧ T ds t q x ∧ (∀ v d t' F2 H2, StE K (some p) F H F2 H2 t' → Rp K F2 v d → q d t' → Q v H2) ∧
  ∀ X dd fv t' F2 H2, StE K (some p) F H F2 H2 t' → F2 dd = some (.xd fv) → RpF K F2 fv X.fs → x X t' → E (.ref X.C) (some dd) H2
def wCall (T : Tp) (wa : WA) : WE := fun ss t q x => wa ss t (fun ds t1 => T ds (fun d => q d t1) fun X => x X t1) x
def wCallM (i : Nat) (T : Tpm) (wa : WA) : WE := fun ss t q x => match ss[i]? with
  | some .pen => wa ss t (fun ds t1 => T ds t1 q x) x
  | _ => False
def wCallK (T : Tp) (g : List Dt → List Dt → List Dt) (wa wk : WA) : WE := fun ss t q x => wa ss t (fun ds t1 => wk ss t1 (fun es t2 => T (g ds es) (fun d => q d t2) fun X => x X t2) x) x
section
variable {K : PySem.W.Frag} {E : XK} {ta tk : TA} {wa wk : WA} {T : Tp} {Tq : Tpm}
theorem sn_call (h : SndA K E ta wa) : Snd K E (tCall (spT K T) [] E ta) (wCall T wa) := fun pp F H σ ss t Q q x r hw X k =>
  h pp F H σ ss t _ _ x r hw X fun vs ds t1 F1 H1 s1 hv h1 => ⟨F1, ds, _, _, s1.fh, by rw [List.append_nil]; exact hv, h1,
    fun v d F2 H2 s2 h2 hq => k v d t1 F2 H2 (s1.trans (.of s2 s1.pen)) h2 hq, fun Y dd fv F2 H2 s2 h2 h3 hx => X Y dd fv F2 H2 t1 (s1.trans (.of s2 s1.pen)) h2 h3 hx⟩
theorem sn_callK {gV : List V → List V → List V} {g : List Dt → List Dt → List Dt} (hg : ∀ {F vs ds zs es}, RpA K F vs ds → RpA K F zs es → RpA K F (gV vs zs) (g ds es)) (h : SndA K E ta wa) (h2 : SndA K E tk wk) : Snd K E (tCallK (spT K T) gV E ta tk) (wCallK T g wa wk) := fun pp F H σ ss t Q q x r hw X k =>
  h pp F H σ ss t _ _ x r hw X fun vs ds t1 F1 H1 s1 hv h1 => h2 pp F1 H1 σ ss t1 _ _ x (r.step s1) h1 (X.step s1) fun zs es t2 F2 H2 s2 hz h3 => ⟨F2, _, _, _, s2.fh, hg (rpA_mono s2.ff hv) hz, h3,
    fun v d F3 H3 s3 h4 hq => k v d t2 F3 H3 ((s1.trans s2).trans (.of s3 s2.pen)) h4 hq, fun Y dd fv F3 H3 s3 h4 h5 hx => X Y dd fv F3 H3 t2 ((s1.trans s2).trans (.of s3 s2.pen)) h4 h5 hx⟩
theorem sn_callM {i : Nat} (h : SndA K E ta wa) : Snd K E (tCall (spM K Tq) [] E (tCons (tVar i) ta)) (wCallM i Tq wa) := fun pp F H σ ss t Q q x r hw X k => by
  unfold wCallM at hw
  split at hw
  · rename_i e
    obtain ⟨p, rfl, h1⟩ := r.env.pen i e
    refine ⟨.ref p.p, h1, h _ F H σ ss t _ _ x r hw X fun vs ds t1 F1 H1 s1 hv h1 => ?_⟩
    exact ⟨F1, p, vs, ds, t1, q, x, by rw [List.append_nil], s1.fh, s1.pen p rfl, hv, h1, fun v d t2 F2 H2 s2 h2 hq => k v d t2 F2 H2 (s1.trans s2) h2 hq, fun Y dd fv t2 F2 H2 s2 h2 h3 hx => X Y dd fv F2 H2 t2 (s1.trans s2) h2 h3 hx⟩
  · exact hw.elim
end
end E

set_option Elab.async false
set_option linter.all false
set_option maxRecDepth 100000
set_option maxHeartbeats 1200000
/-! statements over data -/
namespace E
open L2 PySem PySem.Spec PyProof.Rows DL
open Evl (sq_of st_of sz_of sz_lt ixN_nat)
variable [Tb]
def OwS : Sx → Bool
  | .own _ => true
  | .dic _ => true
  | _ => false
def RpK (K : PySem.W.Frag) (F : Hp) (o : HO) : Dic → Prop
  | .k kvs => ∃ kv, o = .dK kv ∧ RpD K F kv kvs
  | .t kvs => ∃ kv, o = .dT kv ∧ RpT K F kv kvs
/-- what stands for a list or dict that the def alone holds -/
def OwR (K : PySem.W.Frag) (F : Hp) (o : HO) : Sx → Prop
  | .own ds => ∃ xs, o = .lst xs ∧ RpA K F xs ds
  | .dic d => RpK K F o d
  | _ => False
theorem OwR.mono {K : PySem.W.Frag} {F F' : Hp} {o : HO} {s : Sx} (e : Same F F') (h : OwR K F o s) : OwR K F' o s := by
  cases s with
  | own ds => obtain ⟨xs, h1, h2⟩ := h; exact ⟨xs, h1, rpA_mono e h2⟩
  | dic d =>
    cases d with
    | k kvs => obtain ⟨xs, h1, h2⟩ := h; exact ⟨xs, h1, rpD_mono e h2⟩
    | t kvs => obtain ⟨xs, h1, h2⟩ := h; exact ⟨xs, h1, rpT_mono e h2⟩
  | _ => exact h
/-- a list or dict -/
def Big (o : HO) : Prop := (∃ xs, o = .lst xs) ∨ (∃ kvs, o = .dK kvs) ∨ ∃ kvs, o = .dT kvs
theorem OwR.big {K : PySem.W.Frag} {F : Hp} {o : HO} {s : Sx} (h : OwR K F o s) : Big o := by
  cases s with
  | own ds => obtain ⟨xs, h1, _⟩ := h; exact .inl ⟨xs, h1⟩
  | dic d =>
    cases d with
    | k kvs => obtain ⟨xs, h1, _⟩ := h; exact .inr (.inl ⟨xs, h1⟩)
    | t kvs => obtain ⟨xs, h1, _⟩ := h; exact .inr (.inr ⟨xs, h1⟩)
  | _ => exact h.elim
theorem Big.code {c : Addr} {nm : Str} : ¬ Big (LamX.CodeO c nm) := fun h => by
  rcases h with ⟨xs, h⟩ | ⟨xs, h⟩ | ⟨xs, h⟩ <;> unfold LamX.CodeO at h <;> cases h
theorem Big.tbl {ps : Array Value} : ¬ Big (.tbl ps) := fun h => by
  rcases h with ⟨xs, h⟩ | ⟨xs, h⟩ | ⟨xs, h⟩ <;> cases h
theorem TabF.offB {K : PySem.W.Frag} {T : List (Addr × Str)} {F H F' H' : Hp} {L : Addr} {u : HO} (h : TabF K T F H) (b : Big u) (e : H L = some u) (hF : ∀ a ∈ T, F' a.1 = none) (hH : ∀ a o, a ≠ L → H a = some o → H' a = some o) : TabF K T F' H' :=
  ⟨hF, fun a ha => by
    obtain ⟨ps, h1, h2, h3⟩ := h.2.1 a ha
    refine ⟨ps, hH _ _ (fun z => by rw [z, e] at h1; cases h1; exact Big.tbl b) h1, h2, fun pos cv hc => ?_⟩
    obtain ⟨c, e1, e2⟩ := h3 pos cv hc
    exact ⟨c, e1, hH _ _ (fun z => by rw [z, e] at e2; cases e2; exact Big.code b) e2⟩, h.2.2⟩
def isOwn (ss : Ss) (i : Nat) : Prop := (∃ s, ss[i]? = some s ∧ OwS s = true) ∨ ∃ C fs, ss[i]? = some (.slf C fs)
structure Rel (K : PySem.W.Frag) (B : Bse) (F H : Hp) (σ : L2.St) (ss : Ss) (t : Int) : Prop where
  gr : Gr B.M B.F0 B.H0 F H
  env : EnvE K B.pp F H σ ss
  ow : ∀ (i : Nat) (s : Sx), ss[i]? = some s → OwS s = true → ∃ p o, σ[i]? = some (some (.ref p)) ∧ F p = none ∧ H p = some o ∧ OwR K F o s ∧ B.H0 p = none ∧ p ∉ pl B.pp
  slm : ∀ (i : Nat) (C : Addr) (fs : List (Str × Dt)), ss[i]? = some (.slf C fs) → ∃ p, σ[i]? = some (some (.ref p)) ∧ F p = none ∧ p ∈ B.M
  sep : ∀ (i j : Nat) (p : Addr), isOwn ss i → isOwn ss j → σ[i]? = some (some (.ref p)) → σ[j]? = some (some (.ref p)) → i = j
  pen : ∀ p, B.pp = some p → PenAt K F H p t ∧ ∀ a ∈ pl (some p), a ∈ B.M ∨ B.H0 a = none
  inv : ∀ (i : Nat) (v : V) (B0 : Bse), ss[i]? = some (.inv v B0) → B = B0 ∧ σ[i]? = some (some v)
section
variable {K : PySem.W.Frag} {B : Bse} {F H F' H' : Hp} {σ : L2.St} {ss : Ss} {t t' : Int}
theorem Rel.own (r : Rel K B F H σ ss t) (i : Nat) (ds : List Dt) (e : ss[i]? = some (.own ds)) : ∃ p xs, σ[i]? = some (some (.ref p)) ∧ F p = none ∧ H p = some (.lst xs) ∧ RpA K F xs ds ∧ B.H0 p = none ∧ p ∉ pl B.pp := by
  obtain ⟨p, o, h1, h2, h3, ⟨xs, rfl, h4⟩, h5⟩ := r.ow i _ e rfl
  exact ⟨p, xs, h1, h2, h3, h4, h5⟩
theorem Rel.dic (r : Rel K B F H σ ss t) (i : Nat) (d : Dic) (e : ss[i]? = some (.dic d)) : ∃ p o, σ[i]? = some (some (.ref p)) ∧ F p = none ∧ H p = some o ∧ RpK K F o d ∧ B.H0 p = none ∧ p ∉ pl B.pp := r.ow i _ e rfl
theorem Rel.fh (r : Rel K B F H σ ss t) : Same F H := r.gr.fh
theorem Rel.toE (r : Rel K B F H σ ss t) : RelE K B.pp F H σ ss t := ⟨r.gr.fh, r.env, fun p e => (r.pen p e).1⟩
theorem Rel.step (r : Rel K B F H σ ss t) (s : StE K B.pp F H F' H' t') : Rel K B F' H' σ ss t' where
  gr := r.gr.trans s.gr fun p hp => by
    obtain ⟨P, e, h⟩ := pl_mem hp
    exact (r.pen P e).2 p h
  env := r.env.mono s.ff s.gr.hh
  ow := fun i u e ho => by
    obtain ⟨p, o, h1, h2, h3, h4, h5, h6⟩ := r.ow i u e ho
    exact ⟨p, o, h1, s.gr.nw p h2 (by rw [h3]; exact fun z => by cases z), s.gr.hh _ _ h6 h3, h4.mono s.ff, h5, h6⟩
  slm := fun i C fs e => by
    obtain ⟨p, h1, h2, h3⟩ := r.slm i C fs e
    obtain ⟨q, dx, fv, g1, g2, g3, g4⟩ := r.env.slf i C fs e
    rw [h1] at g1
    cases g1
    exact ⟨p, h1, s.gr.nw p h2 (by rw [g3]; exact fun z => by cases z), h3⟩
  sep := r.sep
  pen := fun p e => ⟨s.pen p e, (r.pen p e).2⟩
  inv := r.inv
theorem set_get {ss : Ss} {i j : Nat} {s s' : Sx} (e : (ss.set i s)[j]? = some s') : (j = i ∧ i < ss.length ∧ s' = s) ∨ (j ≠ i ∧ ss[j]? = some s') := by
  rw [List.getElem?_set] at e
  split at e
  · rename_i h
    split at e
    · rename_i hl
      exact .inl ⟨h.symm, hl, (Option.some.inj e).symm⟩
    · cases e
  · rename_i h
    exact .inr ⟨fun z => h z.symm, e⟩
theorem set_ne {σ : L2.St} {i j : Nat} {o : Option V} (h : j ≠ i) : (σ.set i o)[j]? = σ[j]? := by
  rw [List.getElem?_set, if_neg (Ne.symm h)]
theorem own_set_val {ss : Ss} {i j : Nat} {d : Dt} (h : isOwn (ss.set i (.val d)) j) : j ≠ i ∧ isOwn ss j := by
  rcases h with ⟨s, h, ho⟩ | ⟨C, fs, h⟩
  · rcases set_get h with ⟨_, _, e⟩ | ⟨h1, h2⟩
    · subst e; cases ho
    · exact ⟨h1, .inl ⟨s, h2, ho⟩⟩
  · rcases set_get h with ⟨_, _, e⟩ | ⟨h1, h2⟩
    · cases e
    · exact ⟨h1, .inr ⟨C, fs, h2⟩⟩
theorem Rel.set {i : Nat} {v : V} {d : Dt} (r : Rel K B F H σ ss t) (h : Rp K F v d) : Rel K B F H (σ.set i (some v)) (ss.set i (.val d)) t where
  gr := r.gr
  env := r.env.set h
  ow := fun j u e ho => by
    rcases set_get e with ⟨_, _, e'⟩ | ⟨h1, h2⟩
    · subst e'; cases ho
    · rw [set_ne h1]; exact r.ow j u h2 ho
  slm := fun j C fs e => by
    rcases set_get e with ⟨_, _, e'⟩ | ⟨h1, h2⟩
    · cases e'
    · rw [set_ne h1]; exact r.slm j C fs h2
  sep := fun j k p hj hk e1 e2 => by
    obtain ⟨j1, j2⟩ := own_set_val hj
    obtain ⟨k1, k2⟩ := own_set_val hk
    rw [set_ne j1] at e1
    rw [set_ne k1] at e2
    exact r.sep j k p j2 k2 e1 e2
  pen := r.pen
  inv := fun j v B0 e => by
    rcases set_get e with ⟨_, _, e'⟩ | ⟨h1, h2⟩
    · cases e'
    · rw [set_ne h1]; exact r.inv j v B0 h2
theorem Rel.keeps {vs : List Nat} (r : Rel K B F H σ ss t) : Keeps K F H vs (fun σ ss => Rel K B F H σ ss t) := ⟨fun σ ss i v d h _ hv => h.set hv⟩
theorem own_addr_ne {i j : Nat} {p q : Addr} (r : Rel K B F H σ ss t) (hi : isOwn ss i) (hj : isOwn ss j) (e1 : σ[i]? = some (some (.ref p))) (e2 : σ[j]? = some (some (.ref q))) (n : i ≠ j) : p ≠ q := fun z => n (r.sep i j p hi hj e1 (by rw [z]; exact e2))
/-- a new list that the def alone holds -/
theorem Rel.newW {i : Nat} {p : Addr} {u : HO} {w : Sx} (r : Rel K B F H σ ss t) (hp : H p = none) (hw : OwS w = true) (h : OwR K F u w) : Rel K B F (upd H p u) (σ.set i (some (.ref p))) (ss.set i w) t := by
  have nv : ∀ d, w ≠ .val d := fun d z => by rw [z] at hw; cases hw
  have np0 : w ≠ .pen := fun z => by rw [z] at hw; cases hw
  have ns : ∀ C fs, w ≠ .slf C fs := fun C fs z => by rw [z] at hw; cases hw
  have ng : w ≠ .gho := fun z => by rw [z] at hw; cases hw
  have ni : ∀ v B0, w ≠ .inv v B0 := fun v B0 z => by rw [z] at hw; cases hw
  have fp : F p = none := fresh_back r.fh hp
  have np : p ∉ pl B.pp := fun z => by
    obtain ⟨P, e, h⟩ := pl_mem z
    exact (r.pen P e).1.there h hp
  have h0 : B.H0 p = none := by
    cases e : B.H0 p with
    | none => rfl
    | some u => exact absurd hp (r.gr.al p (by rw [e]; exact fun z => by cases z))
  have keep : ∀ a o, H a = some o → upd H p u a = some o := fun a o e => by rw [upd_ne (ne_of_none e hp)]; exact e
  refine ⟨r.gr.step ((Stp.refl r.fh).allocO hp), ?_, fun j y e ho => ?_, fun j C fs e => ?_, fun j k q hj hk e1 e2 => ?_, fun P e => ?_, fun j v B0 e => ?_⟩
  · refine ⟨by rw [List.length_set, List.length_set]; exact r.env.len, fun j d e => ?_, fun j e => ?_, fun j C fs e => ?_, fun j e => ?_⟩
    · rcases set_get e with ⟨_, _, e'⟩ | ⟨h1, h2⟩
      · exact absurd e'.symm (nv d)
      · rw [set_ne h1]; exact r.env.val j d h2
    · rcases set_get e with ⟨_, _, e'⟩ | ⟨h1, h2⟩
      · exact absurd e'.symm np0
      · rw [set_ne h1]; exact r.env.pen j h2
    · rcases set_get e with ⟨_, _, e'⟩ | ⟨h1, h2⟩
      · exact absurd e'.symm (ns C fs)
      · rw [set_ne h1]
        obtain ⟨q, dx, fv, g1, g2, g3, g4⟩ := r.env.slf j C fs h2
        exact ⟨q, dx, fv, g1, g2, keep _ _ g3, g4⟩
    · rcases set_get e with ⟨_, _, e'⟩ | ⟨h1, h2⟩
      · exact absurd e'.symm ng
      · exact r.env.gho j h2
  · rcases set_get e with ⟨rfl, hl, e'⟩ | ⟨h1, h2⟩
    · subst e'
      exact ⟨p, u, by rw [List.getElem?_set, if_pos rfl, if_pos (by rw [r.env.len]; exact hl)], fp, upd_same, h, h0, np⟩
    · rw [set_ne h1]
      obtain ⟨q, ys, g1, g2, g3, g4⟩ := r.ow j y h2 ho
      exact ⟨q, ys, g1, g2, keep _ _ g3, g4⟩
  · rcases set_get e with ⟨_, _, e'⟩ | ⟨h1, h2⟩
    · exact absurd e'.symm (ns C fs)
    · rw [set_ne h1]; exact r.slm j C fs h2
  · have key : ∀ j, isOwn (ss.set i w) j → j ≠ i → isOwn ss j := fun j hj n => by
      rcases hj with ⟨es, h, ho⟩ | ⟨C, fs, h⟩
      · rcases set_get h with ⟨z, _, _⟩ | ⟨_, h2⟩
        · exact absurd z n
        · exact .inl ⟨es, h2, ho⟩
      · rcases set_get h with ⟨z, _, _⟩ | ⟨_, h2⟩
        · exact absurd z n
        · exact .inr ⟨C, fs, h2⟩
    have old : ∀ j q, isOwn ss j → σ[j]? = some (some (.ref q)) → q ≠ p := fun j q hj e z => by
      subst z
      rcases hj with ⟨es, h, ho⟩ | ⟨C, fs, h⟩
      · obtain ⟨q', ys, g1, g2, g3, g4⟩ := r.ow j es h ho
        rw [e] at g1
        cases g1
        rw [hp] at g3
        cases g3
      · obtain ⟨q', dx, fv, g1, g2, g3, g4⟩ := r.env.slf j C fs h
        rw [e] at g1
        cases g1
        rw [hp] at g3
        cases g3
    have at_i : ∀ q, (σ.set i (some (V.ref p)))[i]? = some (some (.ref q)) → q = p := fun q e => by
      rw [List.getElem?_set, if_pos rfl] at e
      split at e
      · cases e; rfl
      · cases e
    by_cases hji : j = i
    · by_cases hki : k = i
      · rw [hji, hki]
      · subst hji
        have := at_i q e1
        subst this
        rw [set_ne hki] at e2
        exact absurd rfl (old k _ (key k hk hki) e2)
    · by_cases hki : k = i
      · subst hki
        have := at_i q e2
        subst this
        rw [set_ne hji] at e1
        exact absurd rfl (old j _ (key j hj hji) e1)
      · rw [set_ne hji] at e1
        rw [set_ne hki] at e2
        exact r.sep j k q (key j hj hji) (key k hk hki) e1 e2
  · obtain ⟨⟨g1, ⟨g2, g6⟩, tt, r', g3, g4⟩, g5⟩ := r.pen P e
    exact ⟨⟨g1, ⟨g2, g6.up g6.1 keep⟩, tt, r', keep _ _ g3, g4⟩, g5⟩
  · rcases set_get e with ⟨_, _, e'⟩ | ⟨h1, h2⟩
    · exact absurd e'.symm (ni v B0)
    · rw [set_ne h1]; exact r.inv j v B0 h2
theorem Rel.newO {i : Nat} {p : Addr} {xs : List V} {ds : List Dt} (r : Rel K B F H σ ss t) (hp : H p = none) (h : RpA K F xs ds) : Rel K B F (upd H p (.lst xs)) (σ.set i (some (.ref p))) (ss.set i (.own ds)) t := r.newW hp rfl ⟨xs, rfl, h⟩
/-- it is changed -/
theorem Rel.mutW {i : Nat} {p : Addr} {u : HO} {w w0 : Sx} (r : Rel K B F H σ ss t) (hi : ss[i]? = some w0) (ho0 : OwS w0 = true) (hw : OwS w = true) (hp : σ[i]? = some (some (.ref p))) (h : OwR K F u w) : Rel K B F (upd H p u) σ (ss.set i w) t := by
  have nv : ∀ d, w ≠ .val d := fun d z => by rw [z] at hw; cases hw
  have np0 : w ≠ .pen := fun z => by rw [z] at hw; cases hw
  have ns : ∀ C fs, w ≠ .slf C fs := fun C fs z => by rw [z] at hw; cases hw
  have ng : w ≠ .gho := fun z => by rw [z] at hw; cases hw
  have ni : ∀ v B0, w ≠ .inv v B0 := fun v B0 z => by rw [z] at hw; cases hw
  obtain ⟨p', ys, g1, fp, g3, g4, h0, np⟩ := r.ow i w0 hi ho0
  rw [hp] at g1
  cases g1
  have il : i < ss.length := (List.getElem?_eq_some_iff.mp hi).1
  have oi : isOwn ss i := .inl ⟨w0, hi, ho0⟩
  have key : ∀ j, isOwn (ss.set i w) j → isOwn ss j := fun j hj => by
    rcases hj with ⟨es, h, ho⟩ | ⟨C, fs, h⟩
    · rcases set_get h with ⟨z, _, _⟩ | ⟨_, h2⟩
      · subst z; exact oi
      · exact .inl ⟨es, h2, ho⟩
    · rcases set_get h with ⟨_, _, e⟩ | ⟨_, h2⟩
      · exact absurd e.symm (ns C fs)
      · exact .inr ⟨C, fs, h2⟩
  refine ⟨⟨r.gr.ff, fun a o e => ?_, fun a o hm e => ?_, r.gr.nw, fun q hq => ?_⟩, ?_, fun j y e ho => ?_, fun j C fs e => ?_, fun j k q hj hk e1 e2 => r.sep j k q (key j hj) (key k hk) e1 e2, fun P e => ?_, fun j v B0 e => ?_⟩
  · rw [upd_ne (ne_of_none e fp)]; exact r.gr.fh a o e
  · rw [upd_ne (fun z => by subst z; rw [h0] at e; cases e)]; exact r.gr.hh a o hm e
  · by_cases z : q = p
    · subst z; rw [upd_same]; exact fun z => by cases z
    · rw [upd_ne z]; exact r.gr.al q hq
  · refine ⟨by rw [List.length_set]; exact r.env.len, fun j d e => ?_, fun j e => ?_, fun j C fs e => ?_, fun j e => ?_⟩
    · rcases set_get e with ⟨_, _, e'⟩ | ⟨h1, h2⟩
      · exact absurd e'.symm (nv d)
      · exact r.env.val j d h2
    · rcases set_get e with ⟨_, _, e'⟩ | ⟨h1, h2⟩
      · exact absurd e'.symm np0
      · exact r.env.pen j h2
    · rcases set_get e with ⟨_, _, e'⟩ | ⟨h1, h2⟩
      · exact absurd e'.symm (ns C fs)
      · obtain ⟨q, dx, fv, k1, k2, k3, k4⟩ := r.env.slf j C fs h2
        exact ⟨q, dx, fv, k1, k2, by rw [upd_ne (own_addr_ne r (.inr ⟨C, fs, h2⟩) oi k1 hp h1)]; exact k3, k4⟩
    · rcases set_get e with ⟨_, _, e'⟩ | ⟨h1, h2⟩
      · exact absurd e'.symm ng
      · exact r.env.gho j h2
  · rcases set_get e with ⟨rfl, hl, e'⟩ | ⟨h1, h2⟩
    · subst e'
      exact ⟨p, u, hp, fp, upd_same, h, h0, np⟩
    · obtain ⟨q, zs, k1, k2, k3, k4⟩ := r.ow j y h2 ho
      exact ⟨q, zs, k1, k2, by rw [upd_ne (own_addr_ne r (.inl ⟨_, h2, ho⟩) oi k1 hp h1)]; exact k3, k4⟩
  · rcases set_get e with ⟨_, _, e'⟩ | ⟨h1, h2⟩
    · exact absurd e'.symm (ns C fs)
    · exact r.slm j C fs h2
  · obtain ⟨⟨k1, ⟨k2, k6⟩, tt, r', k3, k4⟩, k5⟩ := r.pen P e
    refine ⟨⟨k1, ⟨k2, k6.offB g4.big g3 k6.1 fun a o n q => by rw [upd_ne n]; exact q⟩, tt, r', ?_, k4⟩, k5⟩
    rw [upd_ne (fun z => np (by rw [← z, e]; simp [pl]))]
    exact k3
  · rcases set_get e with ⟨_, _, e'⟩ | ⟨h1, h2⟩
    · exact absurd e'.symm (ni v B0)
    · exact r.inv j v B0 h2
theorem Rel.mut {i : Nat} {p : Addr} {xs : List V} {ds es : List Dt} (r : Rel K B F H σ ss t) (hi : ss[i]? = some (.own es)) (hp : σ[i]? = some (some (.ref p))) (h : RpA K F xs ds) : Rel K B F (upd H p (.lst xs)) σ (ss.set i (.own ds)) t := r.mutW hi rfl rfl hp ⟨xs, rfl, h⟩
def frz1 : Sx → Sx
  | .own ds => .val (.lst ds)
  | .dic d => .val d.dt
  | s => s
theorem frz1_val {w : Sx} (h : OwS w = true) : ∃ d, E.frz1 w = .val d := by
  cases w with
  | own ds => exact ⟨_, rfl⟩
  | dic d => exact ⟨_, rfl⟩
  | _ => cases h
theorem rp_frz {w : Sx} {o : HO} {p : Addr} {d : Dt} (h : OwR K F o w) (e : F p = some o) (ed : E.frz1 w = .val d) : Rp K F (.ref p) d := by
  cases w with
  | own ds => obtain ⟨xs, rfl, h2⟩ := h; cases ed; exact .lst (sq_of e) h2
  | dic d =>
    cases d with
    | k kvs => obtain ⟨xs, rfl, h2⟩ := h; cases ed; exact .dct e h2
    | t kvs => obtain ⟨xs, rfl, h2⟩ := h; cases ed; exact .dctT e h2
  | _ => exact h.elim
/-- it is given up: data from now on -/
theorem Rel.frzW {i : Nat} {w : Sx} (r : Rel K B F H σ ss t) (hi : ss[i]? = some w) (hw : OwS w = true) : ∃ F', Same F F' ∧ Rel K B F' H σ (ss.set i (E.frz1 w)) t := by
  obtain ⟨p, u, hp, fp, g3, g4, h0, np⟩ := r.ow i w hi hw
  have oi : isOwn ss i := .inl ⟨w, hi, hw⟩
  obtain ⟨dd, ed⟩ := frz1_val hw
  rw [ed]
  have m : Same F (upd F p u) := same_new fp
  have F'n : ∀ q, q ≠ p → upd F p u q = F q := fun q n => upd_ne n
  refine ⟨upd F p u, m, ⟨r.gr.ff.trans m, fun a o e => ?_, r.gr.hh, fun q h4 h5 => ?_, r.gr.al⟩, ?_, fun j y e ho => ?_, fun j C fs e => ?_, fun j k q hj hk e1 e2 => ?_, fun P e => ?_, fun j v B0 e => ?_⟩
  · by_cases z : a = p
    · subst z; rw [upd_same] at e; cases e; exact g3
    · rw [upd_ne z] at e; exact r.gr.fh a o e
  · rw [upd_ne (fun z => h5 (by subst z; exact h0))]
    exact r.gr.nw q h4 h5
  · refine ⟨by rw [List.length_set]; exact r.env.len, fun j d e => ?_, fun j e => ?_, fun j C fs e => ?_, fun j e => ?_⟩
    · rcases set_get e with ⟨rfl, _, e'⟩ | ⟨h1, h2⟩
      · cases e'
        exact ⟨.ref p, hp, rp_frz (g4.mono m) upd_same ed⟩
      · obtain ⟨v, k1, k2⟩ := r.env.val j d h2
        exact ⟨v, k1, rp_mono m k2⟩
    · rcases set_get e with ⟨_, _, e'⟩ | ⟨h1, h2⟩
      · cases e'
      · exact r.env.pen j h2
    · rcases set_get e with ⟨_, _, e'⟩ | ⟨h1, h2⟩
      · cases e'
      · obtain ⟨q, dx, fv, k1, k2, k3, k4⟩ := r.env.slf j C fs h2
        exact ⟨q, dx, fv, k1, k2, k3, rpF_mono m k4⟩
    · rcases set_get e with ⟨_, _, e'⟩ | ⟨h1, h2⟩
      · cases e'
      · exact r.env.gho j h2
  · rcases set_get e with ⟨_, _, e'⟩ | ⟨h1, h2⟩
    · subst e'; cases ho
    · obtain ⟨q, ys, k1, k2, k3, k4, k5⟩ := r.ow j y h2 ho
      exact ⟨q, ys, k1, by rw [F'n q (own_addr_ne r (.inl ⟨_, h2, ho⟩) oi k1 hp h1)]; exact k2, k3, k4.mono m, k5⟩
  · rcases set_get e with ⟨_, _, e'⟩ | ⟨h1, h2⟩
    · cases e'
    · obtain ⟨q, k1, k2, k3⟩ := r.slm j C fs h2
      exact ⟨q, k1, by rw [F'n q (own_addr_ne r (.inr ⟨_, _, h2⟩) oi k1 hp h1)]; exact k2, k3⟩
  · obtain ⟨_, j2⟩ := own_set_val hj
    obtain ⟨_, k2⟩ := own_set_val hk
    exact r.sep j k q j2 k2 e1 e2
  · obtain ⟨⟨k1, ⟨k2, k6⟩, k3⟩, k5⟩ := r.pen P e
    refine ⟨⟨?_, ⟨(fCell K P.c P.cells).m m k2, k6.up (fun a ha => ?_) (.refl _)⟩, k3⟩, k5⟩
    rotate_left
    · rw [F'n _ (fun z => np (by rw [← z, e]; exact List.mem_cons_of_mem _ (List.mem_map_of_mem ha)))]
      exact k6.1 a ha
    rw [F'n _ (fun z => np (by rw [← z, e]; simp [pl]))]
    exact k1
  · rcases set_get e with ⟨_, _, e'⟩ | ⟨h1, h2⟩
    · cases e'
    · exact r.inv j v B0 h2
theorem Rel.frz1 {i : Nat} {ds : List Dt} (r : Rel K B F H σ ss t) (hi : ss[i]? = some (.own ds)) : ∃ F', Same F F' ∧ Rel K B F' H σ (ss.set i (.val (.lst ds))) t := r.frzW hi rfl
/-! owned lists read where they stand -/
def frz : Ss → Ss
  | [] => []
  | s :: r => frz1 s :: frz r
theorem frz_eq : ∀ ss : Ss, frz ss = ss.map frz1
  | [] => rfl
  | s :: r => by rw [frz, frz_eq r, List.map_cons]
def ownA (σ : L2.St) (ss : Ss) (a : Addr) : Prop := ∃ (i : Nat) (w : Sx), (ss[i]? = some w ∧ OwS w = true) ∧ σ[i]? = some (some (.ref a))
open Classical in
noncomputable def fz (F H : Hp) (σ : L2.St) (ss : Ss) : Hp := fun a => if ownA σ ss a then H a else F a
open Classical in
noncomputable def unz (F : Hp) (σ : L2.St) (ss : Ss) : Hp := fun a => if ownA σ ss a then none else F a
theorem fz_ff (r : Rel K B F H σ ss t) : Same F (fz F H σ ss) := fun a o e => by
  unfold fz
  by_cases h : ownA σ ss a
  · obtain ⟨i, w, ⟨h1, ho⟩, h2⟩ := h
    obtain ⟨p, xs, g1, g2, _⟩ := r.ow i w h1 ho
    rw [h2] at g1
    cases g1
    rw [g2] at e
    cases e
  · rw [if_neg h]; exact e
theorem fz_fh (r : Rel K B F H σ ss t) : Same (fz F H σ ss) H := fun a o e => by
  unfold fz at e
  by_cases h : ownA σ ss a
  · rw [if_pos h] at e; exact e
  · rw [if_neg h] at e; exact r.fh a o e
theorem frz_get {i : Nat} {s : Sx} (e : (frz ss)[i]? = some s) : (∃ w, (ss[i]? = some w ∧ OwS w = true) ∧ s = E.frz1 w) ∨ (ss[i]? = some s ∧ OwS s = false) := by
  rw [frz_eq, List.getElem?_map] at e
  cases q : ss[i]? with
  | none => rw [q] at e; cases e
  | some u =>
    rw [q] at e
    cases h : OwS u with
    | true => cases e; exact .inl ⟨u, ⟨rfl, h⟩, rfl⟩
    | false =>
      have : E.frz1 u = u := by
        cases u <;> first | rfl | cases h
      have e : some (E.frz1 u) = some s := e
      rw [this] at e
      cases e
      exact .inr ⟨rfl, h⟩
theorem not_ownA_pl {P : Pi} {a : Addr} (r : Rel K B F H σ ss t) (e : B.pp = some P) (ha : a ∈ pl (some P)) : ¬ ownA σ ss a := fun ⟨i, w, ⟨h1, ho⟩, h2⟩ => by
  obtain ⟨p, xs, g1, _, _, _, _, g6⟩ := r.ow i w h1 ho
  rw [h2] at g1
  cases g1
  exact g6 (by rw [e]; exact ha)
theorem not_ownA_pen {P : Pi} (r : Rel K B F H σ ss t) (e : B.pp = some P) : ¬ ownA σ ss P.p := not_ownA_pl r e List.mem_cons_self
theorem Rel.frzE (r : Rel K B F H σ ss t) : RelE K B.pp (fz F H σ ss) H σ (frz ss) t := by
  have m := fz_ff r
  refine ⟨fz_fh r, ⟨by rw [frz_eq, List.length_map]; exact r.env.len, fun i d e => ?_, fun i e => ?_, fun i C fs e => ?_, fun i e => ?_⟩, fun P e => ?_⟩
  · rcases frz_get e with ⟨w, ⟨h1, ho⟩, h2⟩ | ⟨h1, _⟩
    · obtain ⟨p, u, g1, g2, g3, g4, _⟩ := r.ow i w h1 ho
      refine ⟨.ref p, g1, rp_frz (g4.mono m) ?_ h2.symm⟩
      unfold fz
      rw [if_pos ⟨i, w, ⟨h1, ho⟩, g1⟩]
      exact g3
    · obtain ⟨v, g1, g2⟩ := r.env.val i d h1
      exact ⟨v, g1, rp_mono m g2⟩
  · rcases frz_get e with ⟨w, ⟨h1, ho⟩, h2⟩ | ⟨h1, _⟩
    · obtain ⟨d, ed⟩ := frz1_val ho
      rw [ed] at h2; cases h2
    · exact r.env.pen i h1
  · rcases frz_get e with ⟨w, ⟨h1, ho⟩, h2⟩ | ⟨h1, _⟩
    · obtain ⟨d, ed⟩ := frz1_val ho
      rw [ed] at h2; cases h2
    · obtain ⟨p, dx, fv, g1, g2, g3, g4⟩ := r.env.slf i C fs h1
      exact ⟨p, dx, fv, g1, g2, g3, rpF_mono m g4⟩
  · rcases frz_get e with ⟨w, ⟨h1, ho⟩, h2⟩ | ⟨h1, _⟩
    · obtain ⟨d, ed⟩ := frz1_val ho
      rw [ed] at h2; cases h2
    · exact r.env.gho i h1
  · obtain ⟨⟨g1, ⟨g2, g6⟩, g3⟩, _⟩ := r.pen P e
    refine ⟨?_, ⟨(fCell K P.c P.cells).m m g2, g6.up (fun a ha => ?_) (.refl _)⟩, g3⟩
    rotate_left
    · unfold fz
      rw [if_neg (not_ownA_pl r e (List.mem_cons_of_mem _ (List.mem_map_of_mem ha)))]
      exact g6.1 a ha
    unfold fz
    rw [if_neg (not_ownA_pen r e)]
    exact g1
theorem Rel.unfrz (r : Rel K B F H σ ss t) (s : StE K B.pp (fz F H σ ss) H F' H' t') : StE K B.pp F H (unz F' σ ss) H' t' ∧ Less F' (unz F' σ ss) := by
  have fn : ∀ a, ownA σ ss a → F a = none := fun a ⟨i, w, ⟨h1, ho⟩, h2⟩ => by
    obtain ⟨p, xs, g1, g2, _⟩ := r.ow i w h1 ho
    rw [h2] at g1
    cases g1
    exact g2
  have ff : Same F (unz F' σ ss) := fun a o e => by
    unfold unz
    by_cases h : ownA σ ss a
    · rw [fn a h] at e; cases e
    · rw [if_neg h]
      refine s.gr.ff a o ?_
      unfold fz
      rw [if_neg h]
      exact e
  refine ⟨⟨⟨ff, fun a o e => ?_, s.gr.hh, fun p h1 h2 => ?_, s.gr.al⟩, fun P e => ?_⟩, fun a o e => ?_⟩
  · unfold unz at e
    by_cases h : ownA σ ss a
    · rw [if_pos h] at e; cases e
    · rw [if_neg h] at e; exact s.gr.fh a o e
  · unfold unz
    by_cases h : ownA σ ss p
    · rw [if_pos h]
    · rw [if_neg h]
      refine s.gr.nw p ?_ h2
      unfold fz
      rw [if_neg h]
      exact h1
  · obtain ⟨g1, ⟨g2, g6⟩, g3⟩ := s.pen P e
    refine ⟨?_, ⟨?_, g6.up (fun a ha => ?_) (.refl _)⟩, g3⟩
    rotate_left 2
    · unfold unz
      rw [if_neg (not_ownA_pl r e (List.mem_cons_of_mem _ (List.mem_map_of_mem ha)))]
      exact g6.1 a ha
    · unfold unz
      rw [if_neg (not_ownA_pen r e)]
      exact g1
    · exact (fCell K P.c P.cells).m ff (r.pen P e).1.2.1.1
  · unfold unz
    by_cases h : ownA σ ss a
    · refine .inr ?_
      obtain ⟨i, w, ⟨h1, ho⟩, h2⟩ := h
      obtain ⟨p, u, g1, g2, g3, g4, g5, g6⟩ := r.ow i w h1 ho
      rw [h2] at g1
      cases g1
      have a1 := s.gr.hh a _ g6 g3
      have a2 := s.gr.fh a o e
      rw [a1] at a2
      cases a2
      exact g4.big
    · rw [if_neg h]; exact .inl e
end
/-! ### what statements come to -/
structure Pst where
  nx : Ss → Int → Prop
  rt : Dt → Int → Prop
  bk : Ss → Int → Prop
  ct : Ss → Int → Prop
  x : XQ
abbrev WS := Ss → Int → Pst → Prop
structure Fin (K : PySem.W.Frag) (B : Bse) (F H : Hp) (t : Int) : Prop where
  gr : Gr B.M B.F0 B.H0 F H
  pen : ∀ p, B.pp = some p → PenAt K F H p t
structure EnK (K : PySem.W.Frag) (E : XK) (B : Bse) (D : Ends) (F : Hp) (P : Pst) : Prop where
  nx : ∀ F' H' σ' ss' t', Same F F' → Rel K B F' H' σ' ss' t' → P.nx ss' t' → D.nx σ' H'
  rt : ∀ v d F' H' t', Same F F' → Fin K B F' H' t' → Rp K F' v d → P.rt d t' → D.rt v H'
  bk : ∀ F' H' σ' ss' t', Same F F' → Rel K B F' H' σ' ss' t' → P.bk ss' t' → D.bk σ' H'
  ct : ∀ F' H' σ' ss' t', Same F F' → Rel K B F' H' σ' ss' t' → P.ct ss' t' → D.ct σ' H'
  x : ∀ X dd fv F' H' t', Same F F' → Fin K B F' H' t' → F' dd = some (.xd fv) → RpF K F' fv X.fs → P.x X t' → E (.ref X.C) (some dd) H'
def SndB (K : PySem.W.Frag) (E : XK) (ts : TS) (w : WS) : Prop := ∀ B D F H σ ss t P, Rel K B F H σ ss t → w ss t P → EnK K E B D F P → ts D σ H
section
variable {K : PySem.W.Frag} {E : XK} {B : Bse} {D : Ends} {F F' H H' : Hp} {P : Pst} {σ : L2.St} {ss : Ss} {t t' : Int}
theorem Rel.fin (r : Rel K B F H σ ss t) : Fin K B F H t := ⟨r.gr, fun p e => (r.pen p e).1⟩
theorem EnK.up (k : EnK K E B D F P) (e : Same F F') : EnK K E B D F' P :=
  ⟨fun F' H' σ' ss' t' e' => k.nx F' H' σ' ss' t' (e.trans e'), fun v d F' H' t' e' => k.rt v d F' H' t' (e.trans e'), fun F' H' σ' ss' t' e' => k.bk F' H' σ' ss' t' (e.trans e'), fun F' H' σ' ss' t' e' => k.ct F' H' σ' ss' t' (e.trans e'), fun X dd fv F' H' t' e' => k.x X dd fv F' H' t' (e.trans e')⟩
theorem EnK.xok (k : EnK K E B D F P) (r : Rel K B F H σ ss t) : XOk K E B.pp F H P.x := fun X dd fv F' H' t' s h1 h2 h3 =>
  k.x X dd fv F' H' t' s.ff ((r.step s).fin) h1 h2 h3
/-- from owned lists read where they stand, errors come out as well, when nothing in them is a list -/
def xnl (x : XQ) : XQ := fun X t => nlF X.fs = true ∧ x X t
theorem EnK.xokz (k : EnK K E B D F P) (r : Rel K B F H σ ss t) : XOk K E B.pp (fz F H σ ss) H (xnl P.x) := fun X dd fv F' H' t' s h1 h2 h3 => by
  obtain ⟨s', l⟩ := r.unfrz s
  exact k.x X dd fv _ H' t' s'.ff ((r.step s').fin) (l.at h1 (fun _ z => by cases z) (fun _ z => by cases z) (fun _ z => by cases z)) (rpF_less l h3.1 h2) h3.2
end
def wNext : WS := fun ss t P => P.nx ss t
/-- what follows, not yet opened -/
def wThen (b : WS) (P : Pst) : Ss → Int → Prop := fun s2 t2 => b s2 t2 P
def wBr (k : Bool) (a b : WS) (ss : Ss) (t : Int) (P : Pst) : Prop := if k = true then a ss t P else b ss t P
def wS2 (a b : WS) : WS := fun ss t P => a ss t { P with nx := wThen b P }
def wRet (e : WE) : WS := fun ss t P => e ss t P.rt P.x
/-- owned lists read -/
def wRetZ (e : WE) : WS := fun ss t P => e (frz ss) t (fun d t1 => nl d = true ∧ P.rt d t1) (xnl P.x)
/-- .. a new list given back -/
def wRetN (e : WA) : WS := fun ss t P => e (frz ss) t (fun ds t1 => nlA ds = true ∧ P.rt (.lst ds) t1) (xnl P.x)
/-- an owned list given back -/
def wRetO (i : Nat) : WS := fun ss t P => match ss[i]? with
  | some (.own ds) => P.rt (.lst ds) t
  | some (.val d) => P.rt d t
  | _ => False
def wAsg (e : WE) (g : WG) : WS := fun ss t P => e ss t (fun d t1 => g d ss fun s2 => P.nx s2 t1) P.x
def wAsgZ (e : WE) (g : WG) : WS := fun ss t P => e (frz ss) t (fun d t1 => nl d = true ∧ g d ss fun s2 => P.nx s2 t1) (xnl P.x)
/-- a new list that the def alone holds -/
def wOwn (i : Nat) (e : WA) : WS := fun ss t P => e ss t (fun ds t1 => P.nx (ss.set i (.own ds)) t1) P.x
def wOwnZ (i : Nat) (e : WA) : WS := fun ss t P => e (frz ss) t (fun ds t1 => nlA ds = true ∧ P.nx (ss.set i (.own ds)) t1) (xnl P.x)
def wDrop (e : WE) : WS := fun ss t P => e ss t (fun _ t1 => P.nx ss t1) P.x
def wDropZ (e : WE) : WS := fun ss t P => e (frz ss) t (fun _ t1 => P.nx ss t1) (xnl P.x)
def wIfS (c : WT) (a b : WS) : WS := fun ss t P => c ss t (fun k t1 => wBr k a b ss t1 P) P.x
def wIfZ (c : WT) (a b : WS) : WS := fun ss t P => c (frz ss) t (fun k t1 => wBr k a b ss t1 P) (xnl P.x)
def wBrk : WS := fun ss t P => P.bk ss t
def wCnt : WS := fun ss t P => P.ct ss t
section
variable {K : PySem.W.Frag} {E : XK} {ta tb : TS} {wa wb : WS} {te : TE} {we : WE} {wn : WA} {tt : TT} {wt : WT}
theorem sb_next : SndB K E tNext wNext := fun B D F H σ ss t P r h k => k.nx F H σ ss t (.refl _) r h
theorem sb_brk : SndB K E tBreak wBrk := fun B D F H σ ss t P r h k => k.bk F H σ ss t (.refl _) r h
theorem sb_cnt : SndB K E tCont wCnt := fun B D F H σ ss t P r h k => k.ct F H σ ss t (.refl _) r h
theorem sb_seq (h1 : SndB K E ta wa) (h2 : SndB K E tb wb) : SndB K E (tSeq ta tb) (wS2 wa wb) := fun B D F H σ ss t P r h k =>
  h1 B _ F H σ ss t _ r h ⟨fun F' H' σ' ss' t' e r' h' => h2 B D F' H' σ' ss' t' P r' h' (k.up e), k.rt, k.bk, k.ct, k.x⟩
theorem sb_ret (h : Snd K E te we) : SndB K E (tRet te) (wRet we) := fun B D F H σ ss t P r hw k =>
  h B.pp F H σ ss t _ _ _ r.toE hw (k.xok r) fun v d t1 F1 H1 s hv h1 => k.rt v d F1 H1 t1 s.ff (r.step s).fin hv h1
theorem sb_retZ (h : Snd K E te we) : SndB K E (tRet te) (wRetZ we) := fun B D F H σ ss t P r hw k =>
  h B.pp _ H σ _ t _ _ _ r.frzE hw (k.xokz r) fun v d t1 F1 H1 s hv h1 => by
    obtain ⟨s', l⟩ := r.unfrz s
    exact k.rt v d _ H1 t1 s'.ff (r.step s').fin (rp_less l h1.1 hv) h1.2
theorem Rel.newF {K : PySem.W.Frag} {B : Bse} {F H : Hp} {σ : L2.St} {ss : Ss} {t : Int} {p : Addr} {o : HO} (r : Rel K B F H σ ss t) (hp : H p = none) : Rel K B (upd F p o) (upd H p o) σ ss t := r.step (r.toE.alloc hp)
theorem sb_retN (h : SndN K E te wn) : SndB K E (tRet te) (wRetN wn) := fun B D F H σ ss t P r hw k =>
  h B.pp _ H σ _ t _ _ _ r.frzE hw (k.xokz r) fun p xs ds t1 F1 H1 s hp hv h1 => by
    obtain ⟨s', l⟩ := r.unfrz s
    have r1 := r.step s'
    have r2 := r1.newF (o := .lst xs) hp
    have m := same_new (o := .lst xs) (fresh_back r1.fh hp)
    exact k.rt (.ref p) (.lst ds) _ _ t1 (s'.ff.trans m) r2.fin (.lst (sq_of upd_same) (rpA_mono m (rpA_less l h1.1 hv))) h1.2
theorem sb_retO {i : Nat} : SndB K E (tRet (tVar i)) (wRetO i) := fun B D F H σ ss t P r hw k => by
  unfold wRetO at hw
  split at hw
  · rename_i ds e
    obtain ⟨F', m, r'⟩ := r.frz1 e
    have il : i < ss.length := (List.getElem?_eq_some_iff.mp e).1
    obtain ⟨v, h1, h2⟩ := r'.env.val i (.lst ds) (by rw [List.getElem?_set, if_pos rfl, if_pos il])
    exact ⟨v, h1, k.rt v _ F' H t m r'.fin h2 hw⟩
  · rename_i d e
    obtain ⟨v, h1, h2⟩ := r.env.val i d e
    exact ⟨v, h1, k.rt v d F H t (.refl _) r.fin h2 hw⟩
  · exact hw.elim
theorem sb_asg {vs : List Nat} {g : TG} {wg : WG} (h : Snd K E te we) (hg : SndG K vs g wg) : SndB K E (tAsg te g) (wAsg we wg) := fun B D F H σ ss t P r hw k =>
  h B.pp F H σ ss t _ _ _ r.toE hw (k.xok r) fun v d t1 F1 H1 s hv h1 =>
    hg _ F1 H1 v d σ ss _ _ (r.step s).fh (r.step s).keeps (r.step s) hv h1 fun σ2 s2 r2 h2 => k.nx F1 H1 σ2 s2 t1 s.ff r2 h2
theorem sb_asgZ {vs : List Nat} {g : TG} {wg : WG} (h : Snd K E te we) (hg : SndG K vs g wg) : SndB K E (tAsg te g) (wAsgZ we wg) := fun B D F H σ ss t P r hw k =>
  h B.pp _ H σ _ t _ _ _ r.frzE hw (k.xokz r) fun v d t1 F1 H1 s hv h1 => by
    obtain ⟨s', l⟩ := r.unfrz s
    have r1 := r.step s'
    exact hg _ _ H1 v d σ ss _ _ r1.fh r1.keeps r1 (rp_less l h1.1 hv) h1.2 fun σ2 s2 r2 h2 => k.nx _ H1 σ2 s2 t1 s'.ff r2 h2
theorem sb_own {i : Nat} (h : SndN K E te wn) : SndB K E (tAsg te (gName i)) (wOwn i wn) := fun B D F H σ ss t P r hw k =>
  h B.pp F H σ ss t _ _ _ r.toE hw (k.xok r) fun p xs ds t1 F1 H1 s hp hv h1 => k.nx F1 _ _ _ t1 s.ff ((r.step s).newO hp hv) h1
theorem sb_ownZ {i : Nat} (h : SndN K E te wn) : SndB K E (tAsg te (gName i)) (wOwnZ i wn) := fun B D F H σ ss t P r hw k =>
  h B.pp _ H σ _ t _ _ _ r.frzE hw (k.xokz r) fun p xs ds t1 F1 H1 s hp hv h1 => by
    obtain ⟨s', l⟩ := r.unfrz s
    exact k.nx _ _ _ _ t1 s'.ff ((r.step s').newO hp (rpA_less l h1.1 hv)) h1.2
theorem sb_drop (h : Snd K E te we) : SndB K E (tDrop te) (wDrop we) := fun B D F H σ ss t P r hw k =>
  h B.pp F H σ ss t _ _ _ r.toE hw (k.xok r) fun v d t1 F1 H1 s hv h1 => k.nx F1 H1 σ ss t1 s.ff (r.step s) h1
theorem sb_dropZ (h : Snd K E te we) : SndB K E (tDrop te) (wDropZ we) := fun B D F H σ ss t P r hw k =>
  h B.pp _ H σ _ t _ _ _ r.frzE hw (k.xokz r) fun v d t1 F1 H1 s hv h1 => by
    obtain ⟨s', l⟩ := r.unfrz s
    exact k.nx _ H1 σ ss t1 s'.ff (r.step s') h1
theorem sb_if (h : SndT K E tt wt) (h1 : SndB K E ta wa) (h2 : SndB K E tb wb) : SndB K E (tIfS tt ta tb) (wIfS wt wa wb) := fun B D F H σ ss t P r hw k =>
  h B.pp F H σ ss t _ _ _ r.toE hw (k.xok r) fun b t1 F1 H1 s hb => by
    cases b with
    | true =>
      unfold wBr at hb
      rw [if_pos rfl] at hb ⊢
      exact h1 B D F1 H1 σ ss t1 P (r.step s) hb (k.up s.ff)
    | false =>
      unfold wBr at hb
      rw [if_neg Bool.false_ne_true] at hb ⊢
      exact h2 B D F1 H1 σ ss t1 P (r.step s) hb (k.up s.ff)
theorem sb_ifZ (h : SndT K E tt wt) (h1 : SndB K E ta wa) (h2 : SndB K E tb wb) : SndB K E (tIfS tt ta tb) (wIfZ wt wa wb) := fun B D F H σ ss t P r hw k =>
  h B.pp _ H σ _ t _ _ _ r.frzE hw (k.xokz r) fun b t1 F1 H1 s hb => by
    obtain ⟨s', l⟩ := r.unfrz s
    cases b with
    | true =>
      unfold wBr at hb
      rw [if_pos rfl] at hb ⊢
      exact h1 B D _ H1 σ ss t1 P (r.step s') hb (k.up s'.ff)
    | false =>
      unfold wBr at hb
      rw [if_neg Bool.false_ne_true] at hb ⊢
      exact h2 B D _ H1 σ ss t1 P (r.step s') hb (k.up s'.ff)
end
theorem br {k : Bool} {a b : WS} {ss : Ss} {t : Int} {P : Pst} (h1 : k = true → a ss t P) (h2 : k = false → b ss t P) : wBr k a b ss t P := by
  unfold wBr
  cases k with
  | true => rw [if_pos rfl]; exact h1 rfl
  | false => rw [if_neg Bool.false_ne_true]; exact h2 rfl
theorem brT {a b : WS} {ss : Ss} {t : Int} {P : Pst} (h : a ss t P) : wBr true a b ss t P := br (fun _ => h) fun z => by cases z
theorem brF {a b : WS} {ss : Ss} {t : Int} {P : Pst} (h : b ss t P) : wBr false a b ss t P := br (fun z => by cases z) fun _ => h
/-! owned lists changed -/
def wAppend (i : Nat) (e : WE) : WS := fun ss t P => match ss[i]? with
  | some (.own ds) => e ss t (fun d t1 => ds.length < 100000 ∧ P.nx (ss.set i (.own (ds ++ [d]))) t1) P.x
  | _ => False
def wAppendZ (i : Nat) (e : WE) : WS := fun ss t P => match ss[i]? with
  | some (.own ds) => e (frz ss) t (fun d t1 => nl d = true ∧ ds.length < 100000 ∧ P.nx (ss.set i (.own (ds ++ [d]))) t1) (xnl P.x)
  | _ => False
def wPop (i : Nat) : WS := fun ss t P => match ss[i]? with
  | some (.own ds) => ds ≠ [] ∧ P.nx (ss.set i (.own ds.dropLast)) t
  | _ => False
/-- v = xs.pop() -/
def wPopTo (i : Nat) (g : WG) : WS := fun ss t P => match ss[i]? with
  | some (.own ds) => ∃ d, ds[ds.length - 1]? = some d ∧ g d (ss.set i (.own ds.dropLast)) fun s2 => P.nx s2 t
  | _ => False
/-- xs[j] = e, all read where it stands -/
def wSetZ (i : Nat) (ix : WE) (e : WE) : WS := fun ss t P => match ss[i]? with
  | some (.own ds) => e (frz ss) t (fun d t1 => nl d = true ∧ ix (frz ss) t1 (fun k t2 => match k with
    | .int n => onO (ixN ds.length n) fun j => P.nx (ss.set i (.own (ds.set j d))) t2
    | _ => False) (xnl P.x)) (xnl P.x)
  | _ => False
/-- xs[j] op= e, of ints -/
def wAugSZ (i : Nat) (f : Int → Int → Int) (ix : WE) (e : WE) : WS := fun ss t P => match ss[i]? with
  | some (.own ds) => ix (frz ss) t (fun k t1 => match k with
    | .int n => ∃ (j : Nat) (m : Int), n = (j : Nat) ∧ ds[j]? = some (.int m) ∧ e (frz ss) t1 (fun d t2 => match d with
      | .int y => P.nx (ss.set i (.own (ds.set j (.int (f m y))))) t2
      | _ => False) (xnl P.x)
    | _ => False) (xnl P.x)
  | _ => False
/-- n op= e -/
def wAugN (i : Nat) (f : Int → Int → Int) (e : WE) : WS := fun ss t P => match ss[i]? with
  | some (.val (.int m)) => e (frz ss) t (fun d t1 => match d with
      | .int y => P.nx (ss.set i (.val (.int (f m y)))) t1
      | _ => False) (xnl P.x)
  | _ => False
def wFz (i : Nat) (w : WS) : WS := fun ss t P => match ss[i]? with
  | some (.own ds) => w (ss.set i (.val (.lst ds))) t P
  | _ => w ss t P
def wFor (wi : WA) (g : WG) (body : WS) : WS := fun ss t P => wi ss t (fun ds t1 => ∃ I : Nat → Ss → Int → Prop, I 0 ss t1 ∧
  (∀ i d s tt, ds[i]? = some d → I i s tt → g d s fun s2 => body s2 tt { P with nx := I (i + 1), ct := I (i + 1), bk := P.nx }) ∧ ∀ s tt, I ds.length s tt → P.nx s tt) P.x
/-- owned lists read in what is walked, which is new or not owned -/
def wWhile (c : WT) (body : WS) : WS := fun ss t P => ∃ I : Nat → Ss → Int → Prop, (∃ m, I m ss t) ∧ ∀ m s tt, I m s tt → c (frz s) tt (fun b t1 => if b = true then
  body s t1 { P with nx := fun s2 t2 => ∃ m', m' < m ∧ I m' s2 t2, ct := fun s2 t2 => ∃ m', m' < m ∧ I m' s2 t2, bk := P.nx } else P.nx s t1) (xnl P.x)
section
variable {K : PySem.W.Frag} {E : XK} {te ti : TE} {we wi : WE} {tb : TS} {wb : WS} {tt : TT} {wt : WT}
theorem sb_append {i : Nat} (h : Snd K E te we) : SndB K E (tDrop (tBM K "list" rAppend (tVar i) (tCons te tNil))) (wAppend i we) := fun B D F H σ ss t P r hw k => by
  unfold wAppend at hw
  split at hw
  · rename_i ds ho
    obtain ⟨p, xs, g1, g2, g3, g4, _⟩ := r.own i ds ho
    refine ⟨.ref p, g1, .inl ⟨rfl, xs, sq_of g3⟩, h B.pp F H σ ss t _ _ _ r.toE hw (k.xok r) fun v d t1 F1 H1 s hv h1 => ?_⟩
    have r1 := r.step s
    obtain ⟨p', ys, k1, k2, k3, k4, _⟩ := r1.own i ds ho
    rw [g1] at k1
    cases k1
    exact ⟨p, ys, v, rfl, rfl, k3, sz_lt (by rw [rpA_len k4]; exact h1.1), k.nx F1 _ σ _ t1 s.ff (r1.mut ho g1 (rpA_app k4 (.cons hv .nil))) h1.2⟩
  · exact hw.elim
theorem sb_appendZ {i : Nat} (h : Snd K E te we) : SndB K E (tDrop (tBM K "list" rAppend (tVar i) (tCons te tNil))) (wAppendZ i we) := fun B D F H σ ss t P r hw k => by
  unfold wAppendZ at hw
  split at hw
  · rename_i ds ho
    obtain ⟨p, xs, g1, g2, g3, g4, _⟩ := r.own i ds ho
    refine ⟨.ref p, g1, .inl ⟨rfl, xs, sq_of g3⟩, h B.pp _ H σ _ t _ _ _ r.frzE hw (k.xokz r) fun v d t1 F1 H1 s hv h1 => ?_⟩
    obtain ⟨s', l⟩ := r.unfrz s
    have r1 := r.step s'
    obtain ⟨p', ys, k1, k2, k3, k4, _⟩ := r1.own i ds ho
    rw [g1] at k1
    cases k1
    exact ⟨p, ys, v, rfl, rfl, k3, sz_lt (by rw [rpA_len k4]; exact h1.2.1), k.nx _ _ σ _ t1 s'.ff (r1.mut ho g1 (rpA_app k4 (.cons (rp_less l h1.1 hv) .nil))) h1.2.2⟩
  · exact hw.elim
theorem sb_pop {i : Nat} : SndB K E (tDrop (tBM0 K "list" rPop (tVar i))) (wPop i) := fun B D F H σ ss t P r hw k => by
  unfold wPop at hw
  split at hw
  · rename_i ds ho
    obtain ⟨p, xs, g1, g2, g3, g4, _⟩ := r.own i ds ho
    have hl : 0 < xs.length := by rw [rpA_len g4]; exact List.length_pos_iff.mpr hw.1
    exact ⟨.ref p, g1, .inl ⟨rfl, xs, sq_of g3⟩, p, xs, xs[xs.length - 1], rfl, rfl, g3, List.getElem?_eq_getElem (by omega), k.nx F _ σ _ t (.refl _) (r.mut ho g1 (rpA_dropLast g4)) hw.2⟩
  · exact hw.elim
theorem sb_popTo {i : Nat} {vs : List Nat} {g : TG} {wg : WG} (hg : SndG K vs g wg) : SndB K E (tAsg (tBM0 K "list" rPop (tVar i)) g) (wPopTo i wg) := fun B D F H σ ss t P r hw k => by
  unfold wPopTo at hw
  split at hw
  · rename_i ds ho
    obtain ⟨d, hd, hw⟩ := hw
    obtain ⟨p, xs, g1, g2, g3, g4, _⟩ := r.own i ds ho
    obtain ⟨v, h1, h2⟩ := rpA_get g4 hd
    rw [← rpA_len g4] at h1
    have r2 := r.mut ho g1 (rpA_dropLast g4)
    exact ⟨.ref p, g1, .inl ⟨rfl, xs, sq_of g3⟩, p, xs, v, rfl, rfl, g3, h1, hg _ F _ v d σ _ _ _ r2.fh r2.keeps r2 h2 hw fun σ2 s2 r3 h3 => k.nx F _ σ2 s2 t (.refl _) r3 h3⟩
  · exact hw.elim
theorem sb_setZ {i : Nat} (h : Snd K E te we) (hi : Snd K E ti wi) : SndB K E (tAsg te (gSub (tVar i) ti rSetL)) (wSetZ i wi we) := fun B D F H σ ss t P r hw k => by
  unfold wSetZ at hw
  split at hw
  · rename_i ds ho
    refine h B.pp _ H σ _ t _ _ _ r.frzE hw (k.xokz r) fun v d t1 F1 H1 s hv h1 => ?_
    obtain ⟨s', l⟩ := r.unfrz s
    have r1 := r.step s'
    obtain ⟨p, xs, g1, g2, g3, g4, _⟩ := r1.own i ds ho
    refine ⟨.ref p, g1, hi B.pp _ H1 σ _ t1 _ _ _ r1.frzE h1.2 ((k.up s'.ff).xokz r1) fun u e t2 F2 H2 s2 hu h2 => ?_⟩
    obtain ⟨s2', l2⟩ := r1.unfrz s2
    have r2 := r1.step s2'
    obtain ⟨p', ys, k1, k2, k3, k4, _⟩ := r2.own i ds ho
    rw [g1] at k1
    cases k1
    split at h2
    · rename_i n
      obtain ⟨j, hj, h3⟩ := onO_some h2
      rw [← rpA_len k4] at hj
      exact ⟨p, ys, n, j, rfl, rp_int hu, k3, hj, k.nx _ _ σ _ t2 (s'.ff.trans s2'.ff) (r2.mut ho g1 (rpA_set k4 (rp_mono s2'.ff (rp_less l h1.1 hv)))) h3⟩
    · exact h2.elim
  · exact hw.elim
theorem sb_augSZ {i : Nat} {f : Int → Int → Int} (hi : Snd K E ti wi) (h : Snd K E te we) : SndB K E (tAugS (tVar i) ti te (rGetL K) (ipI f) rSetL) (wAugSZ i f wi we) := fun B D F H σ ss t P r hw k => by
  unfold wAugSZ at hw
  split at hw
  · rename_i ds ho
    obtain ⟨p, xs, g1, g2, g3, g4, _⟩ := r.own i ds ho
    refine ⟨.ref p, g1, hi B.pp _ H σ _ t _ _ _ r.frzE hw (k.xokz r) fun u e t1 F1 H1 s hu h1 => ?_⟩
    obtain ⟨s', l⟩ := r.unfrz s
    have r1 := r.step s'
    obtain ⟨p', ys, k1, k2, k3, k4, _⟩ := r1.own i ds ho
    rw [g1] at k1
    cases k1
    split at h1
    · rename_i n
      obtain ⟨j, m, rfl, hj, h2⟩ := h1
      obtain ⟨z, e1, e2⟩ := rpA_get k4 hj
      rw [rp_int e2] at e1
      refine ⟨p, ys, j, j, .int m, rfl, rp_int hu, sq_of k3, rfl, e1, ?_⟩
      refine h B.pp _ H1 σ _ t1 _ _ _ r1.frzE h2 ((k.up s'.ff).xokz r1) fun v d t2 F2 H2 s2 hv h3 => ?_
      obtain ⟨s2', l2⟩ := r1.unfrz s2
      have r2 := r1.step s2'
      obtain ⟨p', zs, k1, k2, k3, k4, _⟩ := r2.own i ds ho
      rw [g1] at k1
      cases k1
      split at h3
      · rename_i y
        have hj2 : j < zs.length := by rw [rpA_len k4]; exact (List.getElem?_eq_some_iff.mp hj).1
        exact ⟨m, y, rfl, rp_int hv, p, zs, j, j, rfl, rp_int hu, k3, ixN_nat hj2, k.nx _ _ σ _ t2 (s'.ff.trans s2'.ff) (r2.mut ho g1 (rpA_set k4 (.int _))) h3⟩
      · exact h3.elim
    · exact h1.elim
  · exact hw.elim
theorem sb_augN {i : Nat} {f : Int → Int → Int} (h : Snd K E te we) : SndB K E (tAug i te (ipI f)) (wAugN i f we) := fun B D F H σ ss t P r hw k => by
  unfold wAugN at hw
  split at hw
  · rename_i m ho
    obtain ⟨w, h1, h2⟩ := r.env.val i _ ho
    rw [rp_int h2] at h1
    refine ⟨.int m, h1, h B.pp _ H σ _ t _ _ _ r.frzE hw (k.xokz r) fun v d t1 F1 H1 s hv h3 => ?_⟩
    obtain ⟨s', l⟩ := r.unfrz s
    have r1 := r.step s'
    split at h3
    · exact ⟨m, _, rfl, rp_int hv, k.nx _ H1 _ _ t1 s'.ff (r1.set (.int _)) h3⟩
    · exact h3.elim
  · exact hw.elim
theorem sb_frz {i : Nat} (h : SndB K E tb wb) : SndB K E tb (wFz i wb) := fun B D F H σ ss t P r hw k => by
  unfold wFz at hw
  split at hw
  · rename_i ds ho
    obtain ⟨F', m, r'⟩ := r.frz1 ho
    exact h B D F' H σ _ t P r' hw (k.up m)
  · exact h B D F H σ ss t P r hw k
theorem sb_for {ti : TI} {wi : WA} {vs : List Nat} {g : TG} {wg : WG} (hi : SndI K E ti wi) (hg : SndG K vs g wg) (hb : SndB K E tb wb) : SndB K E (tFor ti g tb) (wFor wi wg wb) := fun B D F H σ ss t P r hw k =>
  hi B.pp F H σ ss t _ _ _ r.toE hw (k.xok r) fun J ds t1 F1 H1 s w hw => by
    obtain ⟨I, h0, hs, hd⟩ := hw
    refine ⟨fun i m σ H => i + m = ds.length ∧ ∃ F2 s2 t2, Same F1 F2 ∧ I i s2 t2 ∧ Rel K B F2 H σ s2 t2, ⟨ds.length, by omega, F1, ss, t1, .refl _, h0, r.step s⟩, ?_⟩
    rintro i m σ H ⟨em, F2, s2, t2, e, hI, r2⟩
    by_cases hl : i < ds.length
    · refine .inr ⟨w.go i H (e.trans r2.fh) hl, fun σ H => ∃ F2 s2 t2, Same F1 F2 ∧ I (i + 1) s2 t2 ∧ Rel K B F2 H σ s2 t2, fun σ' H' hN => ⟨m - 1, by omega, by omega, hN⟩, fun x H' hy => ?_⟩
      have hd' := List.getElem?_eq_getElem hl
      obtain ⟨F3, st, hx⟩ := w.yld i H x H' F2 e r2.fh hy _ hd'
      have se := r2.toE.stp st
      have r3 := r2.step se
      refine hg _ F3 H' x _ σ s2 _ _ r3.fh r3.keeps r3 hx (hs i _ s2 t2 hd' hI) fun σ4 s4 r4 hk => ?_
      have kk := k.up (s.ff.trans (e.trans st.ff))
      exact hb B _ F3 H' σ4 s4 t2 _ r4 hk ⟨fun F' H' σ' ss' t' e' r' h' => ⟨F', ss', t', (e.trans st.ff).trans e', h', r'⟩, kk.rt, fun F' H' σ' ss' t' e' r' h' => kk.nx F' H' σ' ss' t' e' r' h', fun F' H' σ' ss' t' e' r' h' => ⟨F', ss', t', (e.trans st.ff).trans e', h', r'⟩, kk.x⟩
    · have : i = ds.length := by omega
      subst this
      exact .inl ⟨w.stop H (e.trans r2.fh), k.nx F2 H σ s2 t2 (s.ff.trans e) r2 (hd s2 t2 hI)⟩
theorem sb_while (hc : SndT K E tt wt) (hb : SndB K E tb wb) : SndB K E (tWhile tt tb) (wWhile wt wb) := fun B D F H σ ss t P r hw k => by
  obtain ⟨I, ⟨m0, h0⟩, hs⟩ := hw
  refine ⟨fun m σ H => ∃ F2 s2 t2, Same F F2 ∧ I m s2 t2 ∧ Rel K B F2 H σ s2 t2, ⟨m0, F, ss, t, .refl _, h0, r⟩, ?_⟩
  rintro m σ H ⟨F2, s2, t2, e, hI, r2⟩
  refine hc B.pp _ H σ _ t2 _ _ _ r2.frzE (hs m s2 t2 hI) ((k.up e).xokz r2) fun b t3 F3 H3 s3 h3 => ?_
  obtain ⟨s', l⟩ := r2.unfrz s3
  have r3 := r2.step s'
  have kk := k.up (e.trans s'.ff)
  cases b with
  | true =>
    rw [if_pos rfl] at h3 ⊢
    refine ⟨fun σ H => ∃ m', m' < m ∧ ∃ F2 s2 t2, Same F F2 ∧ I m' s2 t2 ∧ Rel K B F2 H σ s2 t2, fun σ' H' hN => hN, ?_⟩
    exact hb B _ _ H3 σ s2 t3 _ r3 h3 ⟨fun F' H' σ' ss' t' e' r' ⟨m', h1, h2⟩ => ⟨m', h1, F', ss', t', (e.trans s'.ff).trans e', h2, r'⟩, kk.rt, fun F' H' σ' ss' t' e' r' h' => kk.nx F' H' σ' ss' t' e' r' h', fun F' H' σ' ss' t' e' r' ⟨m', h1, h2⟩ => ⟨m', h1, F', ss', t', (e.trans s'.ff).trans e', h2, r'⟩, kk.x⟩
  | false =>
    rw [if_neg Bool.false_ne_true] at h3 ⊢
    exact kk.nx _ H3 σ s2 t3 (.refl _) r3 h3
end
/-! ### a def, entered -/
def stS (n : Nat) (ds : List Dt) : Ss := ds.map .val ++ List.replicate (n - ds.length) .no
theorem stS_env {K : PySem.W.Frag} {pp : Option Pi} {F H : Hp} {N : List Str} {vs : List V} {ds : List Dt} (h : RpA K F vs ds) (hl : ds.length ≤ N.length) : EnvE K pp F H (L2.start N vs) (stS N.length ds) := by
  have e := rpA_len h
  have get : ∀ (i : Nat) (s : Sx), (stS N.length ds)[i]? = some s → (∃ v d, (L2.start N vs)[i]? = some (some v) ∧ s = .val d ∧ Rp K F v d) ∨ s = .no := fun i s q => by
    unfold stS at q
    rw [List.getElem?_append] at q
    split at q
    · rename_i hi
      rw [List.getElem?_map] at q
      cases z : ds[i]? with
      | none => rw [z] at q; cases q
      | some d =>
        rw [z] at q
        cases q
        obtain ⟨v, h1, h2⟩ := rpA_get h z
        refine .inl ⟨v, d, ?_, rfl, h2⟩
        unfold L2.start
        rw [List.getElem?_append, if_pos (by rw [List.length_map, e]; simpa using hi), List.getElem?_map, h1]
        rfl
    · rw [List.getElem?_replicate] at q
      split at q
      · cases q; exact .inr rfl
      · cases q
  refine ⟨?_, fun i d q => ?_, fun i q => ?_, fun i C fs q => ?_, fun i q => (by rcases get i _ q with ⟨v, d', h1, h2, h3⟩ | h <;> first | cases h2 | cases h)⟩
  · unfold stS L2.start
    simp only [List.length_append, List.length_map, List.length_replicate]
    omega
  · rcases get i _ q with ⟨v, d', h1, h2, h3⟩ | h
    · cases h2; exact ⟨v, h1, h3⟩
    · cases h
  · rcases get i _ q with ⟨v, d', h1, h2, h3⟩ | h
    · cases h2
    · cases h
  · rcases get i _ q with ⟨v, d', h1, h2, h3⟩ | h
    · cases h2
    · cases h
theorem stS_no {n : Nat} {ds : List Dt} {i : Nat} {s : Sx} (q : (stS n ds)[i]? = some s) : (∃ d, s = .val d) ∨ s = .no := by
  unfold stS at q
  rw [List.getElem?_append] at q
  split at q
  · rw [List.getElem?_map] at q
    cases z : ds[i]? with
    | none => rw [z] at q; cases q
    | some d => rw [z] at q; cases q; exact .inl ⟨d, rfl⟩
  · rw [List.getElem?_replicate] at q
    split at q
    · cases q; exact .inr rfl
    · cases q
theorem def_T {K : PySem.W.Frag} {E : XK} {N : List Str} {ts : TS} {w : WS} {T : Tp} {vs : List V} {H : Hp} {Q : VK} (hs : SndB K E ts w) (h : spT K T vs H Q E) (hl : ∀ ds q x, T ds q x → ds.length ≤ N.length)
    (hw : ∀ ds q x, T ds q x → w (stS N.length ds) 0 ⟨fun _ _ => q .non, fun d _ => q d, fun _ _ => False, fun _ _ => False, fun X _ => x X⟩) : ts { nx := fun _ H' => Q .non H', rt := Q } (L2.start N vs) H := by
  obtain ⟨F, ds, q, x, e, hv, hT, k, kx⟩ := h
  have stp : ∀ {F' H' t'}, Fin K ⟨[], F, H, none⟩ F' H' t' → Stp F H F' H' := fun f => f.gr.stp
  refine hs ⟨[], F, H, none⟩ _ F H (L2.start N vs) (stS N.length ds) 0 _ ⟨.refl e, stS_env hv (hl ds q x hT), fun i es q' ho => ?_, fun i C fs q' => ?_, fun i j p hi _ _ _ => ?_, fun p q' => (by cases q'), fun i v B0 q' => by rcases stS_no q' with ⟨d, z⟩ | z <;> cases z⟩ (hw ds q x hT)
    ⟨fun F' H' σ' ss' t' _ r' h' => k _ _ F' H' (stp r'.fin) .non h', fun v d F' H' t' _ f hv h' => k v d F' H' (stp f) hv h', fun _ _ _ _ _ _ _ h' => h'.elim, fun _ _ _ _ _ _ _ h' => h'.elim, fun X dd fv F' H' t' _ f h1 h2 h3 => kx X dd fv F' H' (stp f) h1 h2 h3⟩
  · rcases stS_no q' with ⟨d, z⟩ | z <;> (subst z; cases ho)
  · rcases stS_no q' with ⟨d, z⟩ | z <;> cases z
  · rcases hi with ⟨es, q', ho⟩ | ⟨C, fs, q'⟩
    · rcases stS_no q' with ⟨d, z⟩ | z <;> (subst z; cases ho)
    · rcases stS_no q' with ⟨d, z⟩ | z <;> cases z
def stM (n : Nat) (ds : List Dt) : Ss := .pen :: stS (n - 1) ds
theorem def_M {K : PySem.W.Frag} {E : XK} {a : Str} {N : List Str} {ts : TS} {w : WS} {T : Tpm} {vs : List V} {H : Hp} {Q : VK} (hs : SndB K E ts w) (h : spM K T vs H Q E) (hl : ∀ ds t q x, T ds t q x → ds.length ≤ N.length)
    (hw : ∀ ds t q x, T ds t q x → w (.pen :: stS N.length ds) t ⟨fun _ t' => q .non t', fun d t' => q d t', fun _ _ => False, fun _ _ => False, x⟩) : ts { nx := fun _ H' => Q .non H', rt := Q } (L2.start (a :: N) vs) H := by
  obtain ⟨F, p, ws, ds, t, q, x, rfl, e, hp, hv, hT, k, kx⟩ := h
  have stp : ∀ {F' H' t'}, Fin K ⟨pl (some p), F, H, some p⟩ F' H' t' → StE K (some p) F H F' H' t' := fun f => ⟨f.gr, f.pen⟩
  have en := stS_env (pp := some p) (H := H) hv (hl ds t q x hT)
  have es : L2.start (a :: N) (.ref p.p :: ws) = some (.ref p.p) :: L2.start N ws := by
    unfold L2.start
    simp only [List.map_cons, List.length_cons, List.cons_append, Nat.add_sub_add_right]
  have up : ∀ (i : Nat) (s : Sx), (Sx.pen :: stS N.length ds)[i]? = some s → (i = 0 ∧ s = .pen) ∨ ∃ j, i = j + 1 ∧ (stS N.length ds)[j]? = some s := fun i s q' => by
    cases i with
    | zero => cases q'; exact .inl ⟨rfl, rfl⟩
    | succ j => exact .inr ⟨j, rfl, by simpa using q'⟩
  refine hs ⟨pl (some p), F, H, some p⟩ _ F H (L2.start (a :: N) (.ref p.p :: ws)) (.pen :: stS N.length ds) t _ ⟨.refl e, ?_, fun i es q' ho => ?_, fun i C fs q' => ?_, fun i j p hi _ _ _ => ?_, fun P q' => by cases q'; exact ⟨hp, fun a ha => .inl ha⟩, fun i v B0 q' => by rcases up i _ q' with ⟨_, z⟩ | ⟨j, rfl, z⟩ <;> first | cases z | (rcases stS_no z with ⟨d, z⟩ | z <;> cases z)⟩ (hw ds t q x hT)
    ⟨fun F' H' σ' ss' t' _ r' h' => k _ _ t' F' H' (stp r'.fin) .non h', fun v d F' H' t' _ f hv h' => k v d t' F' H' (stp f) hv h', fun _ _ _ _ _ _ _ h' => h'.elim, fun _ _ _ _ _ _ _ h' => h'.elim, fun X dd fv F' H' t' _ f h1 h2 h3 => kx X dd fv t' F' H' (stp f) h1 h2 h3⟩
  · rw [es]
    refine ⟨by rw [List.length_cons, List.length_cons, en.len], fun i d q' => ?_, fun i q' => ?_, fun i C fs q' => ?_, fun i q' => ⟨p, rfl⟩⟩
    · rcases up i _ q' with ⟨_, z⟩ | ⟨j, rfl, z⟩
      · cases z
      · obtain ⟨v, h1, h2⟩ := en.val j d z
        exact ⟨v, by simpa using h1, h2⟩
    · rcases up i _ q' with ⟨rfl, _⟩ | ⟨j, rfl, z⟩
      · exact ⟨p, rfl, rfl⟩
      · rcases stS_no z with ⟨d, z⟩ | z <;> cases z
    · rcases up i _ q' with ⟨_, z⟩ | ⟨j, rfl, z⟩
      · cases z
      · rcases stS_no z with ⟨d, z⟩ | z <;> cases z
  · rcases up i _ q' with ⟨_, z⟩ | ⟨j, rfl, z⟩
    · subst z; cases ho
    · rcases stS_no z with ⟨d, z⟩ | z <;> (subst z; cases ho)
  · rcases up i _ q' with ⟨_, z⟩ | ⟨j, rfl, z⟩
    · cases z
    · rcases stS_no z with ⟨d, z⟩ | z <;> cases z
  · rcases hi with ⟨es, q', ho⟩ | ⟨C, fs, q'⟩
    · rcases up i _ q' with ⟨_, z⟩ | ⟨j, rfl, z⟩
      · subst z; cases ho
      · rcases stS_no z with ⟨d, z⟩ | z <;> (subst z; cases ho)
    · rcases up i _ q' with ⟨_, z⟩ | ⟨j, rfl, z⟩
      · cases z
      · rcases stS_no z with ⟨d, z⟩ | z <;> cases z
end E

set_option Elab.async false
set_option linter.all false
set_option maxRecDepth 100000
set_option maxHeartbeats 1200000
/-! calls that let nothing out; errors; fields; a list many times; the pen's draws -/
namespace E
open L2 PySem PySem.Spec PyProof.Rows DL
open Evl (sq_of st_of sz_of sz_lt ixN_nat)
variable [Tb]
def wCall0 (T : Tp) (wa : WA) : WE := fun ss t q x => wa ss t (fun ds t1 => T ds (fun d => q d t1) fun _ => False) x
def wCallM0 (i : Nat) (T : Tpm) (wa : WA) : WE := fun ss t q x => match ss[i]? with
  | some .pen => wa ss t (fun ds t1 => T ds t1 q fun _ _ => False) x
  | _ => False
def wCallK0 (T : Tp) (g : List Dt → List Dt → List Dt) (wa wk : WA) : WE := fun ss t q x => wa ss t (fun ds t1 => wk ss t1 (fun es t2 => T (g ds es) (fun d => q d t2) fun _ => False) x) x
def wRaise (C : Addr) (f : Str) (e : WE) : WS := fun ss t P => e ss t (fun d t1 => P.x ⟨C, [(f, d)]⟩ t1) P.x
def wFld (C : Addr) (f : Str) (a : WE) : WE := fun ss t q x => a ss t (fun d t1 => match d with
  | .obj C' fs => C' = C ∧ onO (fs.lookup f) fun e => q e t1
  | _ => False) x
/-- self.f, in the making of self -/
def wSelf (i : Nat) (f : Str) : WE := fun ss t q _ => match ss[i]? with
  | some (.slf _ fs) => onO (fs.lookup f) fun e => q e t
  | _ => False
def wRepN (a : WA) (b : WE) : WA := fun ss t q x => a ss t (fun ds t1 => b ss t1 (fun e t2 => match e with
  | .int k => (-100000 ≤ k ∧ k ≤ 100000 ∧ ds.length * k.toNat ≤ 100000) ∧ q (List.replicate k.toNat ds).flatten t2
  | _ => False) x) x
def wNever : WS := fun _ _ _ => False
def wPar (i j : Nat) (a : WA) : WS := fun ss t P => a ss t (fun ds t1 => match ds with
  | [d, e] => P.nx ((ss.set i (.val d)).set j (.val e)) t1
  | _ => False) P.x
def wPar3 (i j l : Nat) (a : WA) : WS := fun ss t P => a ss t (fun ds t1 => match ds with
  | [d, e, f] => P.nx (((ss.set i (.val d)).set j (.val e)).set l (.val f)) t1
  | _ => False) P.x
section
variable {K : PySem.W.Frag} {E : XK} {ta tk : TA} {wa wk : WA} {T : Tp} {Tq : Tpm} {te tb : TE} {we wb : WE}
theorem sn_call0 (h : SndA K E ta wa) : Snd K E (tCall (spT K T) [] E0 ta) (wCall0 T wa) := fun pp F H σ ss t Q q x r hw X k =>
  h pp F H σ ss t _ _ x r hw X fun vs ds t1 F1 H1 s1 hv h1 => ⟨F1, ds, _, _, s1.fh, by rw [List.append_nil]; exact hv, h1,
    fun v d F2 H2 s2 h2 hq => k v d t1 F2 H2 (s1.trans (.of s2 s1.pen)) h2 hq, fun Y dd fv F2 H2 s2 h2 h3 hx => hx.elim⟩
theorem sn_callK0 {gV : List V → List V → List V} {g : List Dt → List Dt → List Dt} (hg : ∀ {F vs ds zs es}, RpA K F vs ds → RpA K F zs es → RpA K F (gV vs zs) (g ds es)) (h : SndA K E ta wa) (h2 : SndA K E tk wk) : Snd K E (tCallK (spT K T) gV E0 ta tk) (wCallK0 T g wa wk) := fun pp F H σ ss t Q q x r hw X k =>
  h pp F H σ ss t _ _ x r hw X fun vs ds t1 F1 H1 s1 hv h1 => h2 pp F1 H1 σ ss t1 _ _ x (r.step s1) h1 (X.step s1) fun zs es t2 F2 H2 s2 hz h3 => ⟨F2, _, _, _, s2.fh, hg (rpA_mono s2.ff hv) hz, h3,
    fun v d F3 H3 s3 h4 hq => k v d t2 F3 H3 ((s1.trans s2).trans (.of s3 s2.pen)) h4 hq, fun Y dd fv F3 H3 s3 h4 h5 hx => hx.elim⟩
theorem sn_callM0 {i : Nat} (h : SndA K E ta wa) : Snd K E (tCall (spM K Tq) [] E0 (tCons (tVar i) ta)) (wCallM0 i Tq wa) := fun pp F H σ ss t Q q x r hw X k => by
  unfold wCallM0 at hw
  split at hw
  · rename_i e
    obtain ⟨p, rfl, h1⟩ := r.env.pen i e
    refine ⟨.ref p.p, h1, h _ F H σ ss t _ _ x r hw X fun vs ds t1 F1 H1 s1 hv h1 => ?_⟩
    exact ⟨F1, p, vs, ds, t1, q, _, by rw [List.append_nil], s1.fh, s1.pen p rfl, hv, h1, fun v d t2 F2 H2 s2 h2 hq => k v d t2 F2 H2 (s1.trans s2) h2 hq, fun Y dd fv t2 F2 H2 s2 h2 h3 hx => hx.elim⟩
  · exact hw.elim
theorem sb_never : SndB K E tNever wNever := fun _ _ _ _ _ _ _ _ _ h _ => h.elim
theorem sb_raise {C : Addr} {f : Str} (h : Snd K E te we) : SndB K E (fun _ σ H => tMkO C (spIni C f) [] (tCons te tNil) σ H fun cls d H' => E cls d H') (wRaise C f we) := fun B D F H σ ss t P r hw k =>
  h B.pp F H σ ss t _ _ _ r.toE hw (k.xok r) fun v d t1 F2 H2 s hv h1 => ⟨by show 1 ≤ 1000; decide, fun a ha => ⟨a, v, rfl, upd_same, fun dd hd hne => ⟨rfl, dd, [(f, v)], upd_same, by rw [upd_ne hne, upd_same], by rwa [upd_ne hne] at hd, by
    rw [upd_ne hne] at hd
    rw [made_heap ha hne]
    have r2 := (r.step s).newF (o := .xd [(f, v)]) hd
    have m := same_new (o := .xd [(f, v)]) (fresh_back (r.step s).fh hd)
    exact k.x ⟨C, [(f, d)]⟩ dd [(f, v)] _ _ t1 (s.ff.trans m) r2.fin upd_same (.cons (rp_mono m hv) .nil) h1⟩⟩⟩
theorem sn_fld {f : Str} {C : Addr} (hc : Cls K C) (hn : NoAttr K C f) (h : Snd K E te we) : Snd K E (tFld K te f) (wFld C f we) := fun pp F H σ ss t Q q x r hw X k =>
  h pp F H σ ss t _ _ x r hw X fun v d t1 F1 H1 s1 hv h1 => by
    split at h1
    · rename_i fs
      obtain ⟨rfl, h1⟩ := h1
      obtain ⟨e, h2, h3⟩ := onO_some h1
      obtain ⟨a, dx, fv, rfl, g1, g2⟩ := rp_obj hv
      obtain ⟨w, g3, g4⟩ := rpF_lookup g2 h2
      exact ⟨a, _, dx, fv, w, rfl, s1.fh _ _ g1, hc, hn, g3, k w e t1 F1 H1 s1 g4 h3⟩
    · exact h1.elim
theorem nn_rep (ha : SndN K E te wa) (hb : Snd K E tb wb) : SndN K E (tOp (rMulB K) te tb) (wRepN wa wb) := fun pp F H σ ss t Q q x r hw X k =>
  ha pp F H σ ss t _ _ x r hw X fun p xs ds t1 F1 H1 s1 hp hv h1 => by
    have r1 := r.step s1
    have s2 := r1.alloc (o := .lst xs) hp
    refine hb pp _ _ σ ss t1 _ _ x (r1.step s2) h1 ((X.step s1).step s2) fun y e t3 F3 H3 s3 hy h3 => ?_
    split at h3
    · rename_i kk
      rw [rp_int hy]
      have np : p ∉ pl pp := fun z => by
        obtain ⟨P, e, h⟩ := pl_mem z
        exact (r1.pen P e).there h hp
      have e3 : H3 p = some (.lst xs) := s3.gr.hh p _ np upd_same
      refine .inl (.inr ⟨p, kk, xs, rfl, rfl, e3, by omega, by omega, sz_of (by rw [rpA_len hv]; exact h3.1.2.2), fun z hz => ?_⟩)
      exact k z _ _ t3 F3 H3 ((s1.trans s2).trans s3) hz (rpA_rep (rpA_mono ((same_new (fresh_back s1.fh hp)).trans s3.ff) hv) _) h3.2
    · exact h3.elim
theorem sb_par {i j : Nat} (h : SndA K E ta wa) : SndB K E (tPar i j ta) (wPar i j wa) := fun B D F H σ ss t P r hw k =>
  h B.pp F H σ ss t _ _ _ r.toE hw (k.xok r) fun vs ds t1 F2 H2 s hv h1 => by
    split at h1
    · obtain ⟨x, y, rfl, gx, gy⟩ := rpA2 hv
      exact ⟨x, y, rfl, k.nx F2 H2 _ _ t1 s.ff (((r.step s).set gx).set gy) h1⟩
    · exact h1.elim
theorem sb_par3 {i j l : Nat} (h : SndA K E ta wa) : SndB K E (tPar3 i j l ta) (wPar3 i j l wa) := fun B D F H σ ss t P r hw k =>
  h B.pp F H σ ss t _ _ _ r.toE hw (k.xok r) fun vs ds t1 F2 H2 s hv h1 => by
    split at h1
    · cases hv with
      | cons gx hv =>
        obtain ⟨y, z, rfl, gy, gz⟩ := rpA2 hv
        exact ⟨_, y, z, rfl, k.nx F2 H2 _ _ t1 s.ff ((((r.step s).set gx).set gy).set gz) h1⟩
    · exact h1.elim
end
/-! entered, where nothing is let out -/
theorem def_T0 {K : PySem.W.Frag} {E : XK} {N : List Str} {ts : TS} {w : WS} {T : Tp} {vs : List V} {H : Hp} {Q : VK} (hs : SndB K E0 ts w) (h : spT K T vs H Q E) (hl : ∀ ds q x, T ds q x → ds.length ≤ N.length)
    (hw : ∀ ds q x, T ds q x → w (stS N.length ds) 0 ⟨fun _ _ => q .non, fun d _ => q d, fun _ _ => False, fun _ _ => False, fun _ _ => False⟩) : ts { nx := fun _ H' => Q .non H', rt := Q } (L2.start N vs) H := by
  obtain ⟨F, ds, q, x, e, hv, hT, k, kx⟩ := h
  have stp : ∀ {F' H' t'}, Fin K ⟨[], F, H, none⟩ F' H' t' → Stp F H F' H' := fun f => f.gr.stp
  refine hs ⟨[], F, H, none⟩ _ F H (L2.start N vs) (stS N.length ds) 0 _ ⟨.refl e, stS_env hv (hl ds q x hT), fun i es q' ho => ?_, fun i C fs q' => ?_, fun i j p hi _ _ _ => ?_, fun p q' => (by cases q'), fun i v B0 q' => by rcases stS_no q' with ⟨d, z⟩ | z <;> cases z⟩ (hw ds q x hT)
    ⟨fun F' H' σ' ss' t' _ r' h' => k _ _ F' H' (stp r'.fin) .non h', fun v d F' H' t' _ f hv h' => k v d F' H' (stp f) hv h', fun _ _ _ _ _ _ _ h' => h'.elim, fun _ _ _ _ _ _ _ h' => h'.elim, fun X dd fv F' H' t' _ f h1 h2 h3 => h3.elim⟩
  · rcases stS_no q' with ⟨d, z⟩ | z <;> (subst z; cases ho)
  · rcases stS_no q' with ⟨d, z⟩ | z <;> cases z
  · rcases hi with ⟨es, q', ho⟩ | ⟨C, fs, q'⟩
    · rcases stS_no q' with ⟨d, z⟩ | z <;> (subst z; cases ho)
    · rcases stS_no q' with ⟨d, z⟩ | z <;> cases z
theorem def_M0 {K : PySem.W.Frag} {E : XK} {a : Str} {N : List Str} {ts : TS} {w : WS} {T : Tpm} {vs : List V} {H : Hp} {Q : VK} (hs : SndB K E0 ts w) (h : spM K T vs H Q E) (hl : ∀ ds t q x, T ds t q x → ds.length ≤ N.length)
    (hw : ∀ ds t q x, T ds t q x → w (.pen :: stS N.length ds) t ⟨fun _ t' => q .non t', fun d t' => q d t', fun _ _ => False, fun _ _ => False, fun _ _ => False⟩) : ts { nx := fun _ H' => Q .non H', rt := Q } (L2.start (a :: N) vs) H := by
  obtain ⟨F, p, ws, ds, t, q, x, rfl, e, hp, hv, hT, k, kx⟩ := h
  have stp : ∀ {F' H' t'}, Fin K ⟨pl (some p), F, H, some p⟩ F' H' t' → StE K (some p) F H F' H' t' := fun f => ⟨f.gr, f.pen⟩
  have en := stS_env (pp := some p) (H := H) hv (hl ds t q x hT)
  have es : L2.start (a :: N) (.ref p.p :: ws) = some (.ref p.p) :: L2.start N ws := by
    unfold L2.start
    simp only [List.map_cons, List.length_cons, List.cons_append, Nat.add_sub_add_right]
  have up : ∀ (i : Nat) (s : Sx), (Sx.pen :: stS N.length ds)[i]? = some s → (i = 0 ∧ s = .pen) ∨ ∃ j, i = j + 1 ∧ (stS N.length ds)[j]? = some s := fun i s q' => by
    cases i with
    | zero => cases q'; exact .inl ⟨rfl, rfl⟩
    | succ j => exact .inr ⟨j, rfl, by simpa using q'⟩
  refine hs ⟨pl (some p), F, H, some p⟩ _ F H (L2.start (a :: N) (.ref p.p :: ws)) (.pen :: stS N.length ds) t _ ⟨.refl e, ?_, fun i es q' ho => ?_, fun i C fs q' => ?_, fun i j p hi _ _ _ => ?_, fun P q' => by cases q'; exact ⟨hp, fun a ha => .inl ha⟩, fun i v B0 q' => by rcases up i _ q' with ⟨_, z⟩ | ⟨j, rfl, z⟩ <;> first | cases z | (rcases stS_no z with ⟨d, z⟩ | z <;> cases z)⟩ (hw ds t q x hT)
    ⟨fun F' H' σ' ss' t' _ r' h' => k _ _ t' F' H' (stp r'.fin) .non h', fun v d F' H' t' _ f hv h' => k v d t' F' H' (stp f) hv h', fun _ _ _ _ _ _ _ h' => h'.elim, fun _ _ _ _ _ _ _ h' => h'.elim, fun X dd fv F' H' t' _ f h1 h2 h3 => h3.elim⟩
  · rw [es]
    refine ⟨by rw [List.length_cons, List.length_cons, en.len], fun i d q' => ?_, fun i q' => ?_, fun i C fs q' => ?_, fun i q' => ⟨p, rfl⟩⟩
    · rcases up i _ q' with ⟨_, z⟩ | ⟨j, rfl, z⟩
      · cases z
      · obtain ⟨v, h1, h2⟩ := en.val j d z
        exact ⟨v, by simpa using h1, h2⟩
    · rcases up i _ q' with ⟨rfl, _⟩ | ⟨j, rfl, z⟩
      · exact ⟨p, rfl, rfl⟩
      · rcases stS_no z with ⟨d, z⟩ | z <;> cases z
    · rcases up i _ q' with ⟨_, z⟩ | ⟨j, rfl, z⟩
      · cases z
      · rcases stS_no z with ⟨d, z⟩ | z <;> cases z
  · rcases up i _ q' with ⟨_, z⟩ | ⟨j, rfl, z⟩
    · subst z; cases ho
    · rcases stS_no z with ⟨d, z⟩ | z <;> (subst z; cases ho)
  · rcases up i _ q' with ⟨_, z⟩ | ⟨j, rfl, z⟩
    · cases z
    · rcases stS_no z with ⟨d, z⟩ | z <;> cases z
  · rcases hi with ⟨es, q', ho⟩ | ⟨C, fs, q'⟩
    · rcases up i _ q' with ⟨_, z⟩ | ⟨j, rfl, z⟩
      · subst z; cases ho
      · rcases stS_no z with ⟨d, z⟩ | z <;> (subst z; cases ho)
    · rcases up i _ q' with ⟨_, z⟩ | ⟨j, rfl, z⟩
      · cases z
      · rcases stS_no z with ⟨d, z⟩ | z <;> cases z
theorem spT_len {K : PySem.W.Frag} {T : Tp} {vs : List V} {H : Hp} {Q : VK} {E : XK} {n : Nat} (h : spT K T vs H Q E) (hl : ∀ ds q x, T ds q x → ds.length = n) : vs.length = n := by
  obtain ⟨F, ds, q, x, _, h2, h3, _⟩ := h
  rw [rpA_len h2]
  exact hl ds q x h3
theorem spM_len {K : PySem.W.Frag} {T : Tpm} {vs : List V} {H : Hp} {Q : VK} {E : XK} {n : Nat} (h : spM K T vs H Q E) (hl : ∀ ds t q x, T ds t q x → ds.length + 1 = n) : vs.length = n := by
  obtain ⟨F, p, ws, ds, t, q, x, rfl, _, _, h2, h3, _⟩ := h
  rw [List.length_cons, rpA_len h2]
  exact hl ds t q x h3
/-- a draw: some int below -/
def Tdraw : Tpm := fun ds t q _ => match ds with
  | [.int m] => (0 < m ∧ m < 1000000000000000000000000000000 ∧ 0 ≤ t ∧ t + 1 ≤ 1000000) ∧ ∀ r, 0 ≤ r → r < m → q (.int r) (t + 1)
  | _ => False
/-- one of some -/
def Tpick : Tpm := fun ds t q _ => match ds with
  | [d] => seqD d fun es => (es ≠ [] ∧ es.length ≤ 10000 ∧ 0 ≤ t ∧ t + 1 ≤ 1000000) ∧ ∀ e ∈ es, q e (t + 1)
  | _ => False
theorem draw_spM {K : PySem.W.Frag} {R : List Ty → (V → Hp → Prop) → Prop} (hR : ∀ m : Int, 0 < m → m < 1000000000000000000000000000000 → R [TD K (.int m)] (fun v _ => ∃ i : Int, v = .int i ∧ 0 ≤ i ∧ i < m)) {vs : List V} {H : Hp} {Q : VK} {E : XK} (h : spM K Tdraw vs H Q E) : spPen K 1 R vs H Q E := by
  obtain ⟨F, p, ws, ds, t, q, x, rfl, e, ⟨h1, ⟨h2, h7⟩, tt, r, h3, h4, h5, h6⟩, hv, hT, k, _⟩ := h
  unfold Tdraw at hT
  split at hT
  · rename_i m
    obtain ⟨v, rfl, gv⟩ := rpA1 hv
    refine ⟨F, p.p, p.c, p.cells, tt, r, [v], [TD K (.int m)], _, rfl, e, h1, h3, h2, h4, by omega, h6, ⟨by rw [rp_int gv]; exact .int m, trivial⟩, hR m hT.1.1 hT.1.2.1, fun v F2 H2 t' r' g hF hH a1 a2 a3 ⟨i, ei, i0, i1⟩ => ?_⟩
    subst ei
    have np : ∀ a ∈ p.T, a.1 ∉ [p.p] := fun a ha z => by
      obtain ⟨ps, e'⟩ := h7.at ha
      rw [List.mem_singleton.mp z, h3] at e'
      cases e'
    exact k _ _ (t + 1) F2 H2 ⟨⟨g.ff, g.fh, fun a o n q => g.hh a o (fun z => n (by rw [List.mem_singleton.mp z]; exact List.mem_cons_self)) q, g.nw, g.al⟩, fun P eP => by cases eP; exact ⟨hF, ⟨(fCell K p.c p.cells).m g.ff h2, h7.off (xs := _) h3 (fun a ha => g.nw a.1 (h7.1 a ha) (by obtain ⟨ps, e'⟩ := h7.at ha; rw [e']; exact fun z => by cases z)) fun a o n q => g.hh a o (fun z => n (List.mem_singleton.mp z)) q⟩, t', r', hH, a1, by omega, a3⟩⟩ (.int i) (hT.2 i i0 i1)
  · exact hT.elim
end E

set_option Elab.async false
set_option linter.all false
set_option maxRecDepth 100000
set_option maxHeartbeats 1200000
/-! new lists by operators, calls, slices; isinstance of several classes; zip -/
namespace E
open L2 PySem PySem.Spec PyProof.Rows DL
open Evl (sq_of st_of sz_of sz_lt ixN_nat)
variable [Tb]
abbrev W2N := Dt → Dt → (List Dt → Prop) → Prop
abbrev WLN := List Dt → (List Dt → Prop) → Prop
def SndRN (K : PySem.W.Frag) (r : R2) (w : W2N) : Prop := ∀ F H x y a b Q q, Same F H → Rp K F x a → Rp K F y b → w a b q → (∀ p xs ds, H p = none → RpA K F xs ds → q ds → Q (.ref p) (upd H p (.lst xs))) → r x y H Q
def SndCN (K : PySem.W.Frag) (r : List V → Hp → VK → Prop) (w : WLN) : Prop := ∀ F H xs as Q q, Same F H → RpA K F xs as → w as q → (∀ p xs ds, H p = none → RpA K F xs ds → q ds → Q (.ref p) (upd H p (.lst xs))) → r xs H Q
def wAddN : W2N := fun a b q => match a, b with
  | .lst xs, .lst ys => xs.length + ys.length ≤ 100000 ∧ q (xs ++ ys)
  | _, _ => False
def wListN : WLN := fun as q => match as with
  | [.lst ds] => q ds
  | [.tup ds] => q ds
  | _ => False
def wOpN (r : W2N) (a b : WE) : WA := fun ss t q x => a ss t (fun d t1 => b ss t1 (fun e t2 => r d e fun z => q z t2) x) x
def wCBN (r : WLN) (a : WA) : WA := fun ss t q x => a ss t (fun ds t1 => r ds fun z => q z t1) x
def wSlN (a : WE) (l h : WO) : WA := fun ss t q x => a ss t (fun d t1 => l ss t1 (fun lo t2 => h ss t2 (fun hi t3 => match d with
  | .lst ds => q (cutE ds lo hi) t3
  | _ => False) x) x) x
def anyU (t : Value) : Dt → Option (List Value)
  | .tup cs => cs.mapM clsU
  | _ => none
/-- isinstance(d, (..)) -/
def wIsiT (K : PySem.W.Frag) : WL := fun as q => match as with
  | [d, .tup cs] => ∃ t us b, tyU d = some t ∧ cs.mapM clsU = some us ∧ PySem.W.kitAny K t us = some b ∧ (∀ C fs, d = .exn C fs → ExcC K C) ∧ (∀ C fs, d = .obj C fs → ∀ F : Hp, ∀ a dx fv, F a = some (.ins C dx fv) → TyX K F (.ref a) (.ref C)) ∧ q (.bl b)
  | _ => False
def rIsiS (K : PySem.W.Frag) : List V → Hp → VK → Prop := fun xs H Q => ∃ (x : V) (tp : Addr) (cs : List V) (us : List Value) (b : Bool), xs = [x, .ref tp] ∧ SqT K H tp cs ∧ Paired ClsV cs us ∧
  ((∃ t, TyX K H x t ∧ PySem.W.kitAny K t us = some b) ∨ ∃ a C fs, x = .ref a ∧ ExcC K C ∧ IsX H a C fs ∧ PySem.W.kitAny K (.ref C) us = some b) ∧ Q (.bl b) H
section
variable {X : Cx}
theorem call_isiS : CallR X (.builtin "isinstance") (rIsiS X.K) := by
  intro pn s σ H xs us Q I r h
  obtain ⟨x, tp, cs, ws, b, rfl, hT, k, ty, q⟩ := h
  obtain ⟨u1, u2, rfl, r1, r2⟩ := vals2 r
  cases (show u2 = Value.ref tp from r2)
  obtain ⟨its, rv, pt, _⟩ := I.tuple hT
  obtain ⟨o, h1, h2, n, h3⟩ := pt
  have e3 := ClsV.all k rv
  subst e3
  obtain ⟨oc, od, dt, sl⟩ := o
  simp only at h2 h3
  subst h2 h3
  rcases ty with ⟨t, ty, e⟩ | ⟨a, C, fs, rfl, T, ex, e⟩
  · obtain ⟨P, Z, p, hx⟩ := kit_of I r1 ty
    exact PySem.W.kia_tup Z I.kIn p h1 e hx fun tk => ⟨.bl b, H, I.tok tk, rfl, q⟩
  · cases (show u1 = Value.ref a from r1)
    obtain ⟨oe, od, J, _⟩ := isX_inst I.hok ex
    exact PySem.W.kia_tup (kitx_exv T) I.kIn J h1 e (fun z => nomatch z) fun tk => ⟨.bl b, H, I.tok tk, rfl, q⟩
end
section
variable {K : PySem.W.Frag} {E : XK} {te tb : TE} {we wb : WE} {ta : TA} {wa : WA}
theorem nn_op {r : R2} {w : W2N} (hr : SndRN K r w) (ha : Snd K E te we) (hb : Snd K E tb wb) : SndN K E (tOp r te tb) (wOpN w we wb) := fun pp F H σ ss t Q q x R h X k =>
  ha pp F H σ ss t _ _ x R h X fun v d t1 F1 H1 s1 hv h1 => hb pp F1 H1 σ ss t1 _ _ x (R.step s1) h1 (X.step s1) fun u e t2 F2 H2 s2 hu h2 =>
    hr F2 H2 v u d e _ _ s2.fh (rp_mono s2.ff hv) hu h2 fun p xs ds hp hd h3 => k p xs ds t2 F2 H2 (s1.trans s2) hp hd h3
theorem nn_cb {r : List V → Hp → VK → Prop} {w : WLN} (hr : SndCN K r w) (ha : SndA K E ta wa) : SndN K E (tCB r ta) (wCBN w wa) := fun pp F H σ ss t Q q x R h X k =>
  ha pp F H σ ss t _ _ x R h X fun vs ds t1 F1 H1 s1 hv h1 => hr F1 H1 vs ds _ _ s1.fh hv h1 fun p xs ds hp hd h3 => k p xs ds t1 F1 H1 s1 hp hd h3
theorem sr_addN : SndRN K (rAddA K) wAddN := fun F H x y a b Q q f hx hy h k => by
  unfold wAddN at h
  split at h
  · obtain ⟨l, xs, rfl, h1, h2⟩ := rp_lst hx
    obtain ⟨b, ys, rfl, h3, h4⟩ := rp_lst hy
    exact .inr (.inl ⟨l, b, xs, ys, rfl, rfl, same_l f h1, same_l f h3, sz_of (by rw [rpA_len h2, rpA_len h4]; exact h.1), fun p hp => k p _ _ hp (rpA_app h2 h4) h.2⟩)
  · exact h.elim
theorem sc_listN : SndCN K (rListOf K) wListN := fun F H xs as Q q f hx h k => by
  unfold wListN at h
  split at h
  · obtain ⟨x, rfl, gx⟩ := rpA1 hx
    obtain ⟨a, ys, rfl, h1, h2⟩ := rp_lst gx
    exact ⟨a, ys, rfl, .inl (same_l f h1), fun l hl => k l _ _ hl h2 h⟩
  · obtain ⟨x, rfl, gx⟩ := rpA1 hx
    obtain ⟨a, ys, rfl, h1, h2⟩ := rp_tup gx
    exact ⟨a, ys, rfl, .inr (same_t f h1), fun l hl => k l _ _ hl h2 h⟩
  · exact h.elim
theorem nn_sl {tl th : L2.TO} {wl wh : WO} (ha : Snd K E te we) (hl : SndO K E tl wl) (hh : SndO K E th wh) : SndN K E (tSl (rSl K) te tl th) (wSlN we wl wh) := fun pp F H σ ss t Q q x R h X k =>
  ha pp F H σ ss t _ _ x R h X fun v d t1 F1 H1 s1 hv h1 => hl pp F1 H1 σ ss t1 _ _ x (R.step s1) h1 (X.step s1) fun lo t2 F2 H2 s2 h2 => hh pp F2 H2 σ ss t2 _ _ x (R.step (s1.trans s2)) h2 (X.step (s1.trans s2)) fun hi t3 F3 H3 s3 h3 => by
    split at h3
    · obtain ⟨l, xs, rfl, g1, g2⟩ := rp_lst (rp_mono (s2.ff.trans s3.ff) hv)
      exact .inl ⟨l, xs, rfl, same_l s3.fh g1, fun p hp => k p _ _ t3 F3 H3 ((s1.trans s2).trans s3) hp (rpA_cut g2) h3⟩
    · exact h3.elim
theorem rpA_cls {F : Hp} : ∀ {cs : List Dt} {vs : List V} {us : List Value}, RpA K F vs cs → cs.mapM clsU = some us → Paired ClsV vs us
  | [], _, us, h, e => by
    cases h
    have : us = [] := by simpa using e.symm
    subst this
    exact .nil
  | c :: cs, _, us, h, e => by
    cases h with
    | cons h1 h2 =>
      rw [List.mapM_cons] at e
      cases z : clsU c with
      | none => rw [z] at e; cases e
      | some u =>
        cases z2 : cs.mapM clsU with
        | none => rw [z, z2] at e; cases e
        | some ws =>
          rw [z, z2] at e
          cases e
          exact .cons (rp_cls_of h1 z) (rpA_cls h2 z2)
theorem sc_isiT : SndC K (rIsiS K) (wIsiT K) := fun F H xs as Q q f hx h k => by
  unfold wIsiT at h
  split at h
  · rename_i d cs
    obtain ⟨t, us, b, h1, h2, h3, hX, hO, h4⟩ := h
    obtain ⟨x, y, rfl, gx, gy⟩ := rpA2 hx
    obtain ⟨tp, ys, rfl, g1, g2⟩ := rp_tup gy
    have g := k _ _ F H (.refl f) (.bl b) h4
    have hc := rpA_cls g2 h2
    have gx := rp_mono f gx
    have T := same_t f g1
    cases gx with
    | non => cases h1; exact ⟨_, tp, ys, us, b, rfl, T, hc, .inl ⟨_, .base .non, h3⟩, g⟩
    | bl z => cases h1; exact ⟨_, tp, ys, us, b, rfl, T, hc, .inl ⟨_, .base (.bl z), h3⟩, g⟩
    | int z => cases h1; exact ⟨_, tp, ys, us, b, rfl, T, hc, .inl ⟨_, .base (.int z), h3⟩, g⟩
    | str z => cases h1; exact ⟨_, tp, ys, us, b, rfl, T, hc, .inl ⟨_, .base (.str z), h3⟩, g⟩
    | lst hs _ => cases h1; exact ⟨_, tp, ys, us, b, rfl, T, hc, .inl ⟨_, tyX_seqL hs, h3⟩, g⟩
    | tup hs _ => cases h1; exact ⟨_, tp, ys, us, b, rfl, T, hc, .inl ⟨_, tyX_seqT hs, h3⟩, g⟩
    | dct hs _ => cases h1; exact ⟨_, tp, ys, us, b, rfl, T, hc, .inl ⟨_, .base (.dK hs), h3⟩, g⟩
    | dctT hs _ => cases h1
    | obj ha _ => cases h1; exact ⟨_, tp, ys, us, b, rfl, T, hc, .inl ⟨_, hO _ _ rfl H _ _ _ ha, h3⟩, g⟩
    | exn ha _ => cases h1; exact ⟨_, tp, ys, us, b, rfl, T, hc, .inr ⟨_, _, _, rfl, hX _ _ rfl, ha, h3⟩, g⟩
    | ty n => cases h1
    | cls C => cases h1
  · exact h.elim
/-- pairs of two rows of one length -/
def zipE (xs ys : List Dt) : List Dt := (xs.zip ys).map fun p => .tup [p.1, p.2]
def wZip (a : WA) : WA := fun ss t q x => a ss t (fun as t1 => match as with
  | [.lst xs, .lst ys] => q (zipE xs ys) t1
  | [.tup xs, .tup ys] => q (zipE xs ys) t1
  | _ => False) x
theorem zipE_len {xs ys : List Dt} : (zipE xs ys).length = min xs.length ys.length := by simp [zipE]
theorem zipE_get {xs ys : List Dt} {i : Nat} {d : Dt} (h : (zipE xs ys)[i]? = some d) : ∃ x y, xs[i]? = some x ∧ ys[i]? = some y ∧ d = .tup [x, y] := by
  unfold zipE at h
  rw [List.getElem?_map] at h
  cases e : (xs.zip ys)[i]? with
  | none => rw [e] at h; cases h
  | some p =>
    rw [e] at h
    obtain ⟨h1, h2⟩ := List.getElem?_zip_eq_some.mp e
    exact ⟨p.1, p.2, h1, h2, (Option.some.inj h).symm⟩
theorem we_zipL {F : Hp} {a b : Addr} {xs ys : List V} {ds es : List Dt} (h : SqL K F a xs) (hd : RpA K F xs ds) (h' : SqL K F b ys) (hd' : RpA K F ys es) : WalkE K (Itz K a b) F (zipE ds es) where
  go := fun i H e hi => by
    rw [zipE_len] at hi
    obtain ⟨v, h1, _⟩ := rpA_get hd (List.getElem?_eq_getElem (show i < ds.length by omega))
    obtain ⟨w, h2, _⟩ := rpA_get hd' (List.getElem?_eq_getElem (show i < es.length by omega))
    exact ⟨xs, ys, v, w, same_l e h, same_l e h', h1, h2⟩
  stop := fun H e => ⟨xs, ys, same_l e h, same_l e h', by rw [rpA_len hd, rpA_len hd', zipE_len]; omega⟩
  yld := fun i H x H' F1 e f y d hi => by
    obtain ⟨T, u, w, rfl, hT, rfl, y1, y2⟩ := y
    obtain ⟨d1, d2, h3, h4, rfl⟩ := zipE_get hi
    obtain ⟨v, h1, h2⟩ := rpA_get hd h3
    obtain ⟨v', h1', h2'⟩ := rpA_get hd' h4
    have z1 := y1 xs (same_l (e.trans f) h)
    have z2 := y2 ys (same_l (e.trans f) h')
    rw [h1] at z1
    rw [h1'] at z2
    cases z1
    cases z2
    have m := e.trans (same_new (o := .tup [u, w]) (fresh_back f hT))
    exact ⟨_, (Stp.refl f).alloc hT, .tup (st_of upd_same) (.cons (rp_mono m h2) (.cons (rp_mono m h2') .nil))⟩
theorem we_zipT {F : Hp} {a b : Addr} {xs ys : List V} {ds es : List Dt} (h : SqT K F a xs) (hd : RpA K F xs ds) (h' : SqT K F b ys) (hd' : RpA K F ys es) : WalkE K (RZ.ItzT K a b) F (zipE ds es) where
  go := fun i H e hi => by
    rw [zipE_len] at hi
    obtain ⟨v, h1, _⟩ := rpA_get hd (List.getElem?_eq_getElem (show i < ds.length by omega))
    obtain ⟨w, h2, _⟩ := rpA_get hd' (List.getElem?_eq_getElem (show i < es.length by omega))
    exact ⟨xs, ys, v, w, same_t e h, same_t e h', h1, h2⟩
  stop := fun H e => ⟨xs, ys, same_t e h, same_t e h', by rw [rpA_len hd, rpA_len hd', zipE_len]; omega⟩
  yld := fun i H x H' F1 e f y d hi => by
    obtain ⟨T, u, w, rfl, hT, rfl, y1, y2⟩ := y
    obtain ⟨d1, d2, h3, h4, rfl⟩ := zipE_get hi
    obtain ⟨v, h1, h2⟩ := rpA_get hd h3
    obtain ⟨v', h1', h2'⟩ := rpA_get hd' h4
    have z1 := y1 xs (same_t (e.trans f) h)
    have z2 := y2 ys (same_t (e.trans f) h')
    rw [h1] at z1
    rw [h1'] at z2
    cases z1
    cases z2
    have m := e.trans (same_new (o := .tup [u, w]) (fresh_back f hT))
    exact ⟨_, (Stp.refl f).alloc hT, .tup (st_of upd_same) (.cons (rp_mono m h2) (.cons (rp_mono m h2') .nil))⟩
theorem si_zip (h : SndA K E ta wa) : SndI K E (RZ.iZipA K ta) (wZip wa) := fun pp F H σ ss t R q x r hw X k =>
  h pp F H σ ss t _ _ x r hw X fun vs ds t1 F1 H1 s1 hv h1 => by
    split at h1
    · obtain ⟨v, w, rfl, gv, gw⟩ := rpA2 hv
      obtain ⟨a, xs, rfl, h2, h3⟩ := rp_lst gv
      obtain ⟨b, ys, rfl, h4, h5⟩ := rp_lst gw
      exact ⟨a, b, xs, ys, rfl, .inl ⟨same_l s1.fh h2, same_l s1.fh h4, k _ _ t1 F1 H1 s1 (we_zipL h2 h3 h4 h5) h1⟩⟩
    · obtain ⟨v, w, rfl, gv, gw⟩ := rpA2 hv
      obtain ⟨a, xs, rfl, h2, h3⟩ := rp_tup gv
      obtain ⟨b, ys, rfl, h4, h5⟩ := rp_tup gw
      exact ⟨a, b, xs, ys, rfl, .inr ⟨same_t s1.fh h2, same_t s1.fh h4, k _ _ t1 F1 H1 s1 (we_zipT h2 h3 h4 h5) h1⟩⟩
    · exact h1.elim
end
end E

set_option Elab.async false
set_option linter.all false
set_option maxRecDepth 100000
set_option maxHeartbeats 1200000
/-! plain data functions that the program's defs tell; rules of use -/
namespace E
open L2 PySem PySem.Spec PyProof.Rows DL
variable [Tb]
abbrev lI (ns : List Int) : Dt := .lst (ns.map .int)
abbrev tI (ns : List Int) : Dt := .tup (ns.map .int)
/-- one of Python's own data -/
def plainD (d : Dt) : Bool := (tyD d).isSome
def isTy (d : Dt) (n : String) : Bool := match tyD d with
  | some m => (kitB m n).getD false
  | none => false
def okN (n : String) : Bool := ["NoneType", "bool", "int", "str", "list", "tuple", "dict"].all fun t => (kitB t n).isSome
theorem kit_isTy {K : PySem.W.Frag} {d : Dt} {n m : String} (h : okN n = true) (e : tyD d = some m) : PySem.W.kitOne K (.type m) (.type n) = some (isTy d n) := by
  have hm : m ∈ ["NoneType", "bool", "int", "str", "list", "tuple", "dict"] := by
    cases d <;> simp only [tyD, Option.some.injEq] at e <;> first | (subst e; decide) | cases e
  unfold okN at h
  rw [List.all_eq_true] at h
  have h1 := h m hm
  have h2 : kitB m n = some (isTy d n) := by
    unfold isTy
    rw [e]
    cases z : kitB m n with
    | none => rw [z] at h1; cases h1
    | some b => simp [z]
  exact kit_ty h2
theorem isi_ty {K : PySem.W.Frag} {d : Dt} {n : String} {q : Dt → Prop} (h : okN n = true) (hd : plainD d = true) (hq : q (.bl (isTy d n))) : wIsi K [d, .ty n] q := by
  unfold plainD at hd
  cases e : tyD d with
  | none => rw [e] at hd; cases hd
  | some m =>
    refine ⟨.type m, .type n, _, ?_, rfl, kit_isTy h e, fun C fs z => ?_, fun C fs z => ?_, hq⟩
    · cases d <;> first | cases e; rfl | cases e
    · subst z; cases e
    · subst z; cases e
def anyTy (d : Dt) (ns : List String) : Bool := ns.any (isTy d)
theorem kit_anyTy {K : PySem.W.Frag} {d : Dt} {m : String} (e : tyD d = some m) : ∀ {ns : List String}, (ns.all okN) = true → PySem.W.kitAny K (.type m) (ns.map Value.type) = some (anyTy d ns)
  | [], _ => rfl
  | n :: ns, h => by
    rw [List.all_cons, Bool.and_eq_true] at h
    refine kitAny_cons (kit_isTy h.1 e) (fun z => ?_) (fun z => ?_)
    · rw [kit_anyTy e h.2]
      unfold anyTy
      rw [List.any_cons, z, Bool.false_or]
    · unfold anyTy
      rw [List.any_cons, z, Bool.true_or]
theorem mapM_ty : ∀ ns : List String, (ns.map Dt.ty).mapM clsU = some (ns.map Value.type)
  | [] => rfl
  | n :: ns => by rw [List.map_cons, List.mapM_cons, mapM_ty ns]; rfl
theorem isiT_ty {K : PySem.W.Frag} {d : Dt} {ns : List String} {q : Dt → Prop} (h : (ns.all okN) = true) (hd : plainD d = true) (hq : q (.bl (anyTy d ns))) : wIsiT K [d, .tup (ns.map Dt.ty)] q := by
  unfold plainD at hd
  cases e : tyD d with
  | none => rw [e] at hd; cases hd
  | some m =>
    refine ⟨.type m, _, _, ?_, mapM_ty ns, kit_anyTy e h, fun C fs z => ?_, fun C fs z => ?_, hq⟩
    · cases d <;> first | cases e; rfl | cases e
    · subst z; cases e
    · subst z; cases e
def isInt : Dt → Bool
  | .int _ => true
  | _ => false
theorem isInt_ty {d : Dt} : (isTy d "int" && !isTy d "bool") = isInt d := by
  cases d <;> first
    | rfl
    | (simp only [isTy, tyD, isInt]; decide +kernel)
def isSeq : Dt → Bool
  | .lst _ => true
  | .tup _ => true
  | _ => false
theorem isSeq_ty {d : Dt} : anyTy d ["list", "tuple"] = isSeq d := by
  cases d <;> first
    | rfl
    | (simp only [anyTy, isTy, tyD, isSeq, List.any_cons, List.any_nil]; decide +kernel)
/-- a bound: an int, or none -/
def optI : Dt → Option (Option Int)
  | .non => some none
  | .int i => some (some i)
  | _ => none
def within (d : Dt) (lo hi : Option Int) : Bool := match d with
  | .int i => (lo.all fun l => decide (l ≤ i)) && (hi.all fun h => decide (i ≤ h))
  | _ => false
/-- the ints of a list or a tuple of ints -/
def nums : Dt → Option (List Int)
  | .lst ds => unI ds
  | .tup ds => unI ds
  | _ => none
theorem nums_l {ns : List Int} : nums (lI ns) = some ns := unI_map ns
theorem nums_t {ns : List Int} : nums (tI ns) = some ns := unI_map ns
theorem unI_all : ∀ ds : List Dt, (ds.map isInt).all id = (unI ds).isSome
  | [] => rfl
  | d :: ds => by
    rw [List.map_cons, List.all_cons, unI_all ds]
    cases d <;> first
      | (simp only [isInt, unI, id, Bool.true_and]; cases unI ds <;> rfl)
      | rfl
/-- all that a row holds is plain, and it is not too long -/
def goodD (d : Dt) : Prop := plainD d = true ∧ ∀ ds, d = .lst ds ∨ d = .tup ds → ds.length ≤ 100000 ∧ ∀ e ∈ ds, plainD e = true
theorem good_ints {ns : List Int} {d : Dt} (h : nums d = some ns) (hl : ns.length ≤ 100000) : goodD d := by
  cases d with
  | lst ds =>
    have e := unI_eq (show unI ds = some ns from h)
    subst e
    refine ⟨rfl, fun es z => ?_⟩
    rcases z with z | z
    · cases z
      refine ⟨by rw [List.length_map]; exact hl, fun e he => ?_⟩
      obtain ⟨i, _, rfl⟩ := List.mem_map.mp he
      rfl
    · cases z
  | tup ds =>
    have e := unI_eq (show unI ds = some ns from h)
    subst e
    refine ⟨rfl, fun es z => ?_⟩
    rcases z with z | z
    · cases z
    · cases z
      refine ⟨by rw [List.length_map]; exact hl, fun e he => ?_⟩
      obtain ⟨i, _, rfl⟩ := List.mem_map.mp he
      rfl
  | _ => cases h

def isCt (d : Dt) : Bool := match nums d with
  | some ns => decide (Po.Ct ns)
  | none => false
theorem isCt_of {d : Dt} {ns : List Int} (h : nums d = some ns) : isCt d = decide (Po.Ct ns) := by unfold isCt; rw [h]
theorem isCt_some {d : Dt} (h : isCt d = true) : ∃ ns, nums d = some ns ∧ Po.Ct ns := by
  unfold isCt at h
  cases e : nums d with
  | none => rw [e] at h; cases h
  | some ns => rw [e] at h; exact ⟨ns, rfl, of_decide_eq_true h⟩
/-! items -/
theorem atD_nat {ds : List Dt} {i : Nat} {d : Dt} (h : ds[i]? = some d) : atD ds (i : Int) = some d := by
  have hi := (List.getElem?_eq_some_iff.mp h).1
  unfold atD
  rw [Evl.ixN_nat hi]
  exact h
theorem atD_ints {ns : List Int} {i : Nat} (h : i < ns.length) : atD (ns.map .int) (i : Int) = some (.int (Po.co ns i)) := atD_nat (by rw [List.getElem?_map, Po.co_at h]; rfl)
theorem atD_last {ds : List Dt} (h : ds ≠ []) : atD ds (-1) = ds[ds.length - 1]? := by
  have hl : 0 < ds.length := List.length_pos_iff.mpr h
  unfold atD
  have e : ixN ds.length (-1) = some (ds.length - 1) := by
    unfold ixN
    rw [if_neg (by decide), if_pos (by omega)]
    congr 1
    omega
  rw [e]
  rfl
theorem atD_lastI {ns : List Int} (h : ns ≠ []) : atD (ns.map .int) (-1) = some (.int (Po.co ns (ns.length - 1))) := by
  have hl : 0 < ns.length := List.length_pos_iff.mpr h
  rw [atD_last (fun z => h (List.map_eq_nil_iff.mp z)), List.length_map, List.getElem?_map, Po.co_at (by omega)]
  rfl
/-- a comprehension that draws nothing and keeps all: f of each -/
theorem lc_map {wi : WA} {j : Nat} {we : WE} {vs : List Nat} {ss : Ss} {t : Int} {q : List Dt → Int → Prop} {x : XQ} {ds : List Dt} (f : Nat → Dt → Dt) (hi : ∀ k : List Dt → Int → Prop, k ds t → wi ss t k x) (hl : ds.length ≤ 100000)
    (he : ∀ (i : Nat) (d : Dt) (k : Dt → Int → Prop), ds[i]? = some d → k (f i d) t → we ((wipeE ss vs).set j (.val d)) t k fun _ _ => False) (hq : q (ds.mapIdx f) t) : wLc wi (wgName j) wYes we vs ss t q x := by
  refine hi _ ⟨hl, fun i acc tt => acc = (ds.take i).mapIdx f ∧ tt = t, ⟨by simp, rfl⟩, fun i d acc tt hd hI _ => ?_, fun acc tt hI => ?_⟩
  · obtain ⟨rfl, rfl⟩ := hI
    dsimp only [wgName, wYes]
    refine iteT (he i d _ hd ⟨?_, rfl⟩)
    have hi := (List.getElem?_eq_some_iff.mp hd).1
    have e2 : ds.take (i + 1) = ds.take i ++ [d] := by
      rw [List.take_succ, hd]; rfl
    rw [e2, List.mapIdx_append, List.length_take, Nat.min_eq_left (by omega)]
    simp
  · obtain ⟨rfl, rfl⟩ := hI
    rw [List.take_length]
    exact hq
theorem lc_map' {wi : WA} {j : Nat} {we : WE} {vs : List Nat} {ss : Ss} {t : Int} {q : List Dt → Int → Prop} {x : XQ} {ds : List Dt} (f : Dt → Dt) (hi : ∀ k : List Dt → Int → Prop, k ds t → wi ss t k x) (hl : ds.length ≤ 100000)
    (he : ∀ (d : Dt) (k : Dt → Int → Prop), d ∈ ds → k (f d) t → we ((wipeE ss vs).set j (.val d)) t k fun _ _ => False) (hq : q (ds.map f) t) : wLc wi (wgName j) wYes we vs ss t q x := by
  refine lc_map (fun _ => f) hi hl (fun i d k hd hk => he d k (List.mem_of_getElem? hd) hk) ?_
  have : ds.mapIdx (fun _ => f) = ds.map f := by
    apply List.ext_getElem?
    intro i
    rw [List.getElem?_mapIdx, List.getElem?_map]
  rw [this]
  exact hq
/-! == of plain data -/
theorem eqD_int {i j : Int} : eqD (.int i) (.int j) = some (decide (i = j)) := by
  have h : ∀ k : Int, SeqAt.shaped (.int k) = true := fun k => sh_int
  unfold eqD
  simp only [py, h, Bool.and_self, if_true, eqv_int]
theorem pyA_ints : ∀ ns : List Int, pyA (ns.map .int) = some (ns.map .int)
  | [] => rfl
  | n :: ns => by rw [List.map_cons, pyA, pyA_ints ns]; rfl
theorem eqD_lI {a b : List Int} : eqD (lI a) (lI b) = some (decide (a = b)) := by
  have h : ∀ k : List Int, SeqAt.shaped (lstI k) = true := fun k => sh_lstI
  unfold eqD
  simp only [py, pyA_ints, Option.map_some]
  rw [show (PyData.list (a.map .int)) = lstI a from rfl, show (PyData.list (b.map .int)) = lstI b from rfl, h a, h b, eqv_lstI]
  rfl
theorem eqD_tI {a b : List Int} : eqD (tI a) (tI b) = some (decide (a = b)) := by
  have h : ∀ k : List Int, SeqAt.shaped (tupI k) = true := fun k => sh_tupI
  unfold eqD
  simp only [py, pyA_ints, Option.map_some]
  rw [show (PyData.tuple (a.map .int)) = tupI a from rfl, show (PyData.tuple (b.map .int)) = tupI b from rfl, h a, h b, eqv_tupI]
  rfl
theorem on_some {α : Type} {o : Option α} {a : α} {k : α → Prop} (e : o = some a) (h : k a) : onO o k := by subst e; exact h
theorem iteB {b : Bool} {A B : Prop} (h1 : b = true → A) (h2 : b = false → B) : if b = true then A else B := by
  cases b with
  | true => exact iteT (h1 rfl)
  | false => exact iteF (h2 rfl)
theorem unB_of {ds : List Dt} {bs : List Bool} (e : ds = bs.map .bl) : unB ds = some bs := by subst e; exact unB_map bs
theorem unI_of {ds : List Dt} {bs : List Int} (e : ds = bs.map .int) : unI ds = some bs := by subst e; exact unI_map bs
theorem nums_cases {d : Dt} {ns : List Int} (h : nums d = some ns) : d = lI ns ∨ d = tI ns := by
  cases d with
  | lst ds => exact .inl (by rw [unI_eq (show unI ds = some ns from h)])
  | tup ds => exact .inr (by rw [unI_eq (show unI ds = some ns from h)])
  | _ => cases h
theorem cut_takeE {ns : List Int} {m : Nat} (h : m ≤ ns.length) : cutE (ns.map .int) none (some (m : Int)) = (ns.take m).map .int := by
  unfold cutE
  rw [HT.sIx_none, HT.sIx_nat, List.length_map, Nat.min_eq_left h, List.drop_zero, Nat.sub_zero, List.map_take]
theorem atD_pred {ns : List Int} {m : Nat} (h : m ≤ ns.length) (h0 : 0 < m) : atD (ns.map .int) ((m : Int) - 1) = some (.int (Po.co ns (m - 1))) := by
  have e : (m : Int) - 1 = ((m - 1 : Nat) : Int) := by omega
  rw [e]
  exact atD_ints (by omega)
theorem to_ss {w : WS} {a b : Ss} {t : Int} {P : Pst} (e : a = b) (h : w b t P) : w a t P := e ▸ h
theorem rep_one {d : Dt} {n : Nat} : (List.replicate n [d]).flatten = List.replicate n d := by
  induction n with
  | zero => rfl
  | succ n ih => rw [List.replicate_succ, List.flatten_cons, ih, List.replicate_succ]; rfl
theorem enum_intsE {ns : List Int} {i : Nat} {e : Dt} (h : (enumE (ns.map .int))[i]? = some e) : i < ns.length ∧ e = .tup [.int (i : Nat), .int (Po.co ns i)] := by
  obtain ⟨d, h1, rfl⟩ := enumE_at h
  rw [List.getElem?_map] at h1
  cases e : ns[i]? with
  | none => rw [e] at h1; cases h1
  | some x =>
    rw [e] at h1
    cases h1
    exact ⟨(List.getElem?_eq_some_iff.mp e).1, by rw [Po.co_some e]⟩
theorem nlA_all : ∀ {ds : List Dt}, (∀ d ∈ ds, nl d = true) → nlA ds = true
  | [], _ => rfl
  | d :: ds, h => by
    show (nl d && nlA ds) = true
    rw [h d List.mem_cons_self, nlA_all fun e he => h e (List.mem_cons_of_mem _ he)]
    rfl
theorem nlA_ints {ns : List Int} : nlA (ns.map .int) = true := nlA_all fun d hd => by
  obtain ⟨i, _, rfl⟩ := List.mem_map.mp hd
  rfl
theorem nl_tI {ns : List Int} : nl (tI ns) = true := nlA_ints
/-- two counts wanted: the first of what is none is told -/
def chk2 (B : Addr) (n1 n2 : Str) (d e : Dt) (x : Xn → Prop) (k : List Int → List Int → Prop) : Prop := goodD d ∧ (isCt d = false → x ⟨B, [("part", .str n1)]⟩) ∧ (isCt d = true → goodD e) ∧
  (isCt d = true → isCt e = false → x ⟨B, [("part", .str n2)]⟩) ∧ (∀ a b, nums d = some a → nums e = some b → Po.Ct a → Po.Ct b → k a b)
theorem chk2_ok {B : Addr} {n1 n2 : Str} {d e : Dt} {x : Xn → Prop} {k : List Int → List Int → Prop} {a b : List Int} (ha : nums d = some a) (hb : nums e = some b) (ca : Po.Ct a) (cb : Po.Ct b) (la : a.length ≤ 100000) (lb : b.length ≤ 100000) (h : k a b) : chk2 B n1 n2 d e x k :=
  ⟨good_ints ha la, fun z => (by rw [isCt_of ha, decide_eq_true ca] at z; cases z), fun _ => good_ints hb lb, fun _ z => (by rw [isCt_of hb, decide_eq_true cb] at z; cases z), fun a' b' h1 h2 _ _ => by
    rw [ha] at h1; rw [hb] at h2; cases h1; cases h2; exact h⟩
theorem chk2_1 {B : Addr} {n1 n2 : Str} {d e : Dt} {x : Xn → Prop} {k : List Int → List Int → Prop} (hg : goodD d) (hc : isCt d = false) (h : x ⟨B, [("part", .str n1)]⟩) : chk2 B n1 n2 d e x k :=
  ⟨hg, fun _ => h, fun z => (by rw [hc] at z; cases z), fun z => (by rw [hc] at z; cases z), fun a b h1 h2 h3 => by rw [isCt_of h1, decide_eq_true h3] at hc; cases hc⟩
theorem chk2_2 {B : Addr} {n1 n2 : Str} {d e : Dt} {x : Xn → Prop} {k : List Int → List Int → Prop} {a : List Int} (ha : nums d = some a) (ca : Po.Ct a) (la : a.length ≤ 100000) (hg : goodD e) (hc : isCt e = false) (h : x ⟨B, [("part", .str n2)]⟩) : chk2 B n1 n2 d e x k :=
  ⟨good_ints ha la, fun z => (by rw [isCt_of ha, decide_eq_true ca] at z; cases z), fun _ => hg, fun _ _ => h, fun a' b h1 h2 h3 h4 => by rw [isCt_of h2, decide_eq_true h4] at hc; cases hc⟩
theorem isTy_tup {ds : List Dt} : isTy (.tup ds) "tuple" = true := by show (kitB "tuple" "tuple").getD false = true; decide +kernel
theorem isTy_lst {ds : List Dt} : isTy (.lst ds) "list" = true := by show (kitB "list" "list").getD false = true; decide +kernel
end E

set_option Elab.async false
set_option linter.all false
set_option maxRecDepth 100000
set_option maxHeartbeats 1200000
/-! defs that give back a new list; a law, entered with its pen made -/
namespace E
open L2 PySem PySem.Spec PyProof.Rows DL
open Evl (sq_of st_of sz_of sz_lt ixN_nat)
variable [Tb]
abbrev Tn := List Dt → (List Dt → Prop) → Prop
def spN (K : PySem.W.Frag) (T : Tn) : Sp := fun vs H Q _ => ∃ F ds q, Same F H ∧ RpA K F vs ds ∧ T ds q ∧ ∀ p xs es F2 H2, Stp F H F2 H2 → H2 p = none → RpA K F2 xs es → q es → Q (.ref p) (upd H2 p (.lst xs))
def wCallN (T : Tn) (wa : WA) : WA := fun ss t q x => wa ss t (fun ds t1 => T ds fun es => q es t1) x
section
variable {K : PySem.W.Frag} {E : XK} {ta : TA} {wa : WA} {T : Tn}
theorem stp_of {F H F' H' : Hp} {t : Int} (s : StE K none F H F' H' t) : Stp F H F' H' := s.gr.stp
theorem nn_call (h : SndA K E ta wa) : SndN K E (tCall (spN K T) [] E0 ta) (wCallN T wa) := fun pp F H σ ss t Q q x r hw X k =>
  h pp F H σ ss t _ _ x r hw X fun vs ds t1 F1 H1 s1 hv h1 => ⟨F1, ds, _, s1.fh, by rw [List.append_nil]; exact hv, h1,
    fun p xs es F2 H2 s2 hp hx hq => k p xs es t1 F2 H2 (s1.trans (.of s2 s1.pen)) hp hx hq⟩
theorem spN_len {vs : List V} {H : Hp} {Q : VK} {E : XK} {n : Nat} (h : spN K T vs H Q E) (hl : ∀ ds q, T ds q → ds.length = n) : vs.length = n := by
  obtain ⟨F, ds, q, _, h2, h3, _⟩ := h
  rw [rpA_len h2]
  exact hl ds q h3
theorem def_N {E' : XK} {N : List Str} {te : TE} {w : WA} {vs : List V} {H : Hp} {Q : VK} {nx : L2.St → Hp → Prop} (hs : SndN K E0 te w) (h : spN K T vs H Q E') (hl : ∀ ds q, T ds q → ds.length ≤ N.length)
    (hw : ∀ ds q, T ds q → w (stS N.length ds) 0 (fun es _ => q es) fun _ _ => False) : tRet te { nx := nx, rt := Q } (L2.start N vs) H := by
  obtain ⟨F, ds, q, e, hv, hT, k⟩ := h
  refine hs none F H (L2.start N vs) (stS N.length ds) 0 _ _ _ ⟨e, stS_env hv (hl ds q hT), fun p z => by cases z⟩ (hw ds q hT) xok_none fun p xs es t' F' H' s hp hx hq => k p xs es F' H' (stp_of s) hp hx hq
end
def Tpen : Tn := fun ds q => match ds with
  | [d] => ∃ ns : List Int, d = lI ns ∧ ns.length ≤ 63 ∧ q [lI (ns.take 60), .int 0, .int 0]
  | _ => False
/-- what is asked of a law: its script; its tables are empty -/
def spLawT (K : PySem.W.Frag) : Sp := fun us H Q _ => ∃ (a : Addr) (ns : List Int), us = [.ref a] ∧ SqL K H a (ns.map V.int) ∧ ns.length ≤ 63 ∧ (∀ p ∈ Tb.T K, H p.1 = some (.tbl #[])) ∧ ∀ H', Q (.bl true) H'
open Classical in
noncomputable def outT (T : List (Addr × Str)) (H : Hp) : Hp := fun a => if a ∈ T.map (·.1) then none else H a
theorem outT_at {T : List (Addr × Str)} {H : Hp} {p : Addr × Str} (h : p ∈ T) : outT T H p.1 = none := by
  unfold outT
  rw [if_pos (List.mem_map_of_mem h)]
theorem outT_ne {T : List (Addr × Str)} {H : Hp} {a : Addr} (h : a ∉ T.map (·.1)) : outT T H a = H a := by
  unfold outT
  rw [if_neg h]
theorem outT_le {T : List (Addr × Str)} {H : Hp} : Same (outT T H) H := fun a o e => by
  unfold outT at e
  split at e
  · cases e
  · exact e
/-- a law: its pen is made first -/
theorem def_law {K : PySem.W.Frag} {E : XK} {a b : Str} {N : List Str} {rest : TS} {w : WS} {us : List V} {H : Hp} {Q : VK} (hs : SndB K E0 rest w) (h : spLawT K us H Q E)
    (hw : w (.no :: .pen :: List.replicate N.length .no) 0 ⟨fun _ _ => False, fun d _ => d = .bl true, fun _ _ => False, fun _ _ => False, fun _ _ => False⟩) :
    tSeq (tAsg (tCall (spN K Tpen) [] E0 (tCons (tVar 0) tNil)) (gName 1)) rest { nx := fun _ H' => Q .non H', rt := Q } (L2.start (a :: b :: N) us) H := by
  obtain ⟨ad, ns, rfl, hS, hl, hT, hQ⟩ := h
  have hS0 : SqL K (outT (Tb.T K) H) ad (ns.map V.int) := by
    have key : ∀ o, H ad = some o → (∀ ps, o ≠ .tbl ps) → outT (Tb.T K) H ad = some o := fun o e n => by
      rw [outT_ne (fun z => ?_)]
      · exact e
      · obtain ⟨p, hp, z⟩ := List.mem_map.mp z
        have := hT p hp
        rw [z, e] at this
        exact n _ (Option.some.inj this)
    rcases hS with (h | ⟨o, h⟩) | h
    · exact .inl (.inl (key _ h (fun _ z => by cases z)))
    · exact .inl (.inr ⟨o, key _ h (fun _ z => by cases z)⟩)
    · exact .inr h
  refine ⟨.ref ad, rfl, ?_⟩
  refine ⟨outT (Tb.T K) H, [lI ns], _, outT_le, .cons (.lst hS0 (rpA_ints ns)) .nil, ⟨ns, rfl, hl, (rfl : [lI (ns.take 60), .int 0, .int 0] = [lI (ns.take 60), .int 0, .int 0])⟩, fun p xs es F2 H2 st hp hx he => ?_⟩
  subst he
  obtain ⟨c, rfl, hc⟩ : ∃ c, xs = [.ref c, .int 0, .int 0] ∧ SqL K F2 c ((ns.take 60).map V.int) := by
    cases hx with
    | cons h1 h2 =>
      obtain ⟨y, z, rfl, gy, gz⟩ := rpA2 h2
      obtain ⟨c, ys, rfl, g1, g2⟩ := rp_lst h1
      rw [rp_int gy, rp_int gz]
      exact ⟨c, rfl, by rw [← rpA_ints' g2]; exact g1⟩
  have fp : F2 p = none := fresh_back st.fh hp
  have fh : Same F2 (upd H2 p (penO c 0 0)) := st.fh.trans (same_new hp)
  have tb : TabF K (Tb.T K) F2 (upd H2 p (penO c 0 0)) := ⟨fun q hq => st.nw q.1 (outT_at hq) (by rw [hT q hq]; exact fun z => by cases z), fun q hq => LamX.TabS.nil (same_new hp _ _ (st.hh _ _ (hT q hq))), rfl⟩
  have es : List.set (L2.start (a :: b :: N) [V.ref ad]) 1 (some (.ref p)) = some (.ref ad) :: some (.ref p) :: List.replicate N.length none := by
    unfold L2.start
    simp [List.replicate_succ]
  show rest _ (List.set (L2.start (a :: b :: N) [V.ref ad]) 1 (some (.ref p))) _
  rw [es]
  have up : ∀ (i : Nat) (s : Sx), (Sx.no :: Sx.pen :: List.replicate N.length Sx.no)[i]? = some s → s = .no ∨ (i = 1 ∧ s = .pen) := fun i s q' => by
    match i with
    | 0 => cases q'; exact .inl rfl
    | 1 => cases q'; exact .inr ⟨rfl, rfl⟩
    | j + 2 =>
      have : (List.replicate N.length Sx.no)[j]? = some s := by simpa using q'
      rw [List.getElem?_replicate] at this
      split at this
      · cases this; exact .inl rfl
      · cases this
  refine hs ⟨pl (some ⟨p, c, ns.take 60, Tb.T K⟩), F2, upd H2 p (penO c 0 0), some ⟨p, c, ns.take 60, Tb.T K⟩⟩ _ F2 _ _ _ 0 _ ⟨.refl fh, ⟨by simp, fun i d q' => ?_, fun i q' => ?_, fun i C fs q' => ?_, fun i q' => ⟨_, rfl⟩⟩, fun i es q' ho => ?_, fun i C fs q' => ?_, fun i j p hi _ _ _ => ?_, fun P q' => ?_, fun i v B0 q' => by rcases up i _ q' with z | ⟨_, z⟩ <;> cases z⟩ hw
    ⟨fun _ _ _ _ _ _ _ h' => h'.elim, fun v d F' H' t' _ f hv h' => by subst h'; rw [rp_bl hv]; exact hQ H', fun _ _ _ _ _ _ _ h' => h'.elim, fun _ _ _ _ _ _ _ h' => h'.elim, fun _ _ _ _ _ _ _ _ _ _ h' => h'.elim⟩
  · rcases up i _ q' with z | ⟨_, z⟩ <;> cases z
  · rcases up i _ q' with z | ⟨rfl, z⟩
    · cases z
    · exact ⟨_, rfl, rfl⟩
  · rcases up i _ q' with z | ⟨_, z⟩ <;> cases z
  · rcases up i _ q' with z | ⟨_, z⟩ <;> (subst z; cases ho)
  · rcases up i _ q' with z | ⟨_, z⟩ <;> cases z
  · rcases hi with ⟨es, q', ho⟩ | ⟨C, fs, q'⟩
    · rcases up i _ q' with z | ⟨_, z⟩ <;> (subst z; cases ho)
    · rcases up i _ q' with z | ⟨_, z⟩ <;> cases z
  · cases q'
    exact ⟨⟨fp, ⟨⟨hc, by rw [List.length_take]; omega⟩, tb⟩, 0, 0, upd_same, by decide, by decide, by decide⟩, fun _ ha => .inl ha⟩
theorem to_ssN {w : WA} {a b : Ss} {t : Int} {q : List Dt → Int → Prop} {x : XQ} (e : a = b) (h : w b t q x) : w a t q x := e ▸ h
/-! == that comes out true; rows that keep some -/
def shE (n : Nat) (d : Dt) : Prop := ∃ p, py d = some p ∧ Sn n p
theorem shE_int {n : Nat} {i : Int} : shE n (.int i) := ⟨_, rfl, DL.sn_int⟩
theorem shE_bl {n : Nat} {b : Bool} : shE n (.bl b) := ⟨_, rfl, DL.sn_bool⟩
theorem shE_non {n : Nat} : shE n .non := ⟨_, rfl, DL.sn_none⟩
theorem shE_str {n : Nat} {x : Str} (h : PyData.strOk x = true) : shE n (.str x) := ⟨_, rfl, DL.sn_str h⟩
theorem pyA_some {n : Nat} : ∀ {ds : List Dt}, (∀ d ∈ ds, shE n d) → ∃ ps, pyA ds = some ps ∧ ∀ p ∈ ps, Sn n p
  | [], _ => ⟨[], rfl, fun _ h => by cases h⟩
  | d :: ds, h => by
    obtain ⟨p, h1, h2⟩ := h d List.mem_cons_self
    obtain ⟨ps, h3, h4⟩ := pyA_some fun e he => h e (List.mem_cons_of_mem _ he)
    refine ⟨p :: ps, by rw [pyA, h1, h3], fun q hq => ?_⟩
    rcases List.mem_cons.mp hq with e | hq
    · subst e; exact h2
    · exact h4 q hq
theorem shE_tup {n : Nat} {ds : List Dt} (h : ∀ d ∈ ds, shE n d) : shE (n + 1) (.tup ds) := by
  obtain ⟨ps, h1, h2⟩ := pyA_some h
  exact ⟨.tuple ps, by rw [py, h1]; rfl, DL.sn_tuple h2⟩
theorem shE_lst {n : Nat} {ds : List Dt} (h : ∀ d ∈ ds, shE n d) : shE (n + 1) (.lst ds) := by
  obtain ⟨ps, h1, h2⟩ := pyA_some h
  exact ⟨.list ps, by rw [py, h1]; rfl, DL.sn_list h2⟩
theorem shE_tI {n : Nat} {ns : List Int} : shE (n + 1) (tI ns) := shE_tup fun d hd => by
  obtain ⟨i, _, rfl⟩ := List.mem_map.mp hd
  exact shE_int
theorem shE_lI {n : Nat} {ns : List Int} : shE (n + 1) (lI ns) := shE_lst fun d hd => by
  obtain ⟨i, _, rfl⟩ := List.mem_map.mp hd
  exact shE_int
theorem shE_all1 {n : Nat} {d : Dt} (h : shE n d) : ∀ e ∈ [d], shE n e := fun e he => by
  have : e = d := by simpa using he
  subst this; exact h
theorem shE_nilA {n : Nat} : ∀ e ∈ ([] : List Dt), shE n e := fun e he => by cases he
theorem shE_consA {n : Nat} {d : Dt} {ds : List Dt} (h : shE n d) (hs : ∀ e ∈ ds, shE n e) : ∀ e ∈ d :: ds, shE n e := fun e he => by
  rcases List.mem_cons.mp he with z | z
  · subst z; exact h
  · exact hs e z
theorem eqD_refl {n : Nat} {d : Dt} (h : shE n d) (hn : n ≤ 64) : eqD d d = some true := by
  obtain ⟨p, h1, h2⟩ := h
  have hs := h2.sh hn
  unfold eqD
  rw [h1]
  show (if (SeqAt.shaped p && SeqAt.shaped p) = true then some (PyData.eqv p p) else none) = some true
  rw [show SeqAt.shaped p = true from hs, eqv_self h2]
  rfl
theorem eqD_bl {a b : Bool} : eqD (.bl a) (.bl b) = some (decide (a = b)) := by
  have h : ∀ k : Bool, SeqAt.shaped (.bool k) = true := fun k => sh_bool
  unfold eqD
  simp only [py, h, Bool.and_self, if_true]
  cases a <;> cases b <;> rfl
theorem lc_filt {wi : WA} {j : Nat} {wt : WT} {we : WE} {vs : List Nat} {ss : Ss} {t : Int} {q : List Dt → Int → Prop} {x : XQ} {ds : List Dt} (p : Dt → Bool) (f : Dt → Dt) (hi : ∀ k : List Dt → Int → Prop, k ds t → wi ss t k x) (hl : ds.length ≤ 100000)
    (ht : ∀ (d : Dt) (k : Bool → Int → Prop), d ∈ ds → k (p d) t → wt ((wipeE ss vs).set j (.val d)) t k fun _ _ => False)
    (he : ∀ (d : Dt) (k : Dt → Int → Prop), d ∈ ds → p d = true → k (f d) t → we ((wipeE ss vs).set j (.val d)) t k fun _ _ => False) (hq : q ((ds.filter p).map f) t) : wLc wi (wgName j) wt we vs ss t q x := by
  refine hi _ ⟨hl, fun i acc tt => acc = ((ds.take i).filter p).map f ∧ tt = t, ⟨by simp, rfl⟩, fun i d acc tt hd hI _ => ?_, fun acc tt hI => ?_⟩
  · obtain ⟨rfl, rfl⟩ := hI
    dsimp only [wgName]
    have hm := List.mem_of_getElem? hd
    have e2 : ds.take (i + 1) = ds.take i ++ [d] := by
      rw [List.take_succ, hd]; rfl
    refine ht d _ hm ?_
    cases hp : p d with
    | true =>
      refine iteT (he d _ hm hp ⟨?_, rfl⟩)
      rw [e2, List.filter_append, List.map_append, List.filter_cons, hp]
      rfl
    | false =>
      refine iteF ⟨?_, rfl⟩
      rw [e2, List.filter_append, List.map_append, List.filter_cons, hp]
      simp
  · obtain ⟨rfl, rfl⟩ := hI
    rw [List.take_length]
    exact hq
end E

set_option Elab.async false
set_option linter.all false
set_option maxRecDepth 100000
set_option maxHeartbeats 2000000
/-! lambdas handed to a def that hears what they raise -/
namespace E
open L2 PySem PySem.Spec PyProof.Rows DL
open LamX (Tabs TabS CodeO TabB LamS lamEnv lamCx GivesTo codeO_ne among_app inv_table)
/-- all stays but the table at P -/
def But (P : Addr) (H H' : Hp) : Prop := ∀ b o, b ≠ P → H b = some o → H' b = some o
section
variable {X : Cx} {pins : List (Addr × Obj)} {σ : L2.St} {H : Hp} {s : Shared}
theorem tabs_grown {T : List (Addr × Str)} {P c : Addr} {nm : Str} {ps : Array Value} {ln cl : Value} {pos : Pos} (hT : Tabs T H) (mem : (P, nm) ∈ T) (uq : ∀ p ∈ T, p.1 = P → p.2 = nm) (hP : H P = some (.tbl ps)) (nC : H c = none) (e1 : ln = rawInt pos.line) (e2 : cl = rawInt pos.col) :
    Tabs T (upd (upd H P (.tbl (ps ++ #[ln, cl, .ref c]))) c (CodeO c nm)) := by
  subst e1 e2
  have nPc : P ≠ c := ne_of_none hP nC
  intro p hp
  obtain ⟨qs, a1, a2, a3⟩ := hT p hp
  have stays : ∀ {b : Addr} {y : Str}, H b = some (CodeO b y) → upd (upd H P (.tbl (ps ++ #[rawInt pos.line, rawInt pos.col, .ref c]))) c (CodeO c nm) b = some (CodeO b y) := fun {b y} q => by
    rw [upd_ne (ne_of_none q nC), upd_ne (fun z => by rw [z, hP] at q; exact codeO_ne ps (Option.some.inj q).symm)]
    exact q
  by_cases hb : p.1 = P
  · rw [uq p hp hb, hb]
    rw [hb, hP] at a1
    cases a1
    have eL : (ps ++ #[rawInt pos.line, rawInt pos.col, .ref c]).toList = ps.toList ++ [rawInt pos.line, rawInt pos.col, .ref c] := by simp
    refine ⟨_, by rw [upd_ne nPc, upd_same], by rw [eL]; exact PySem.TriplesOk_snoc _ _ _ _ a2, fun p' cv hcv => ?_⟩
    rw [eL] at hcv
    rcases among_app _ a2 hcv with z | z
    · obtain ⟨c0, g1, g2⟩ := a3 p' cv z
      rw [uq p hp hb] at g2
      exact ⟨c0, g1, stays g2⟩
    · exact ⟨c, z, upd_same⟩
  · refine ⟨qs, by rw [upd_ne (ne_of_none a1 nC), upd_ne hb]; exact a1, a2, fun p' cv hcv => ?_⟩
    obtain ⟨c0, g1, g2⟩ := a3 p' cv hcv
    exact ⟨c0, g1, stays g2⟩
/-- a lambda made, all but its table staying -/
theorem lam_but {T : List (Addr × Str)} {c P : Addr} {params : Arguments} {body : Expr} {scope : Scope} {pos : Pos} {E : Value → Shared → Prop} {Q : Value → Shared → Prop} (I : Inv X pins σ H s) (TB : TabB X.base X.mg c P) (code : X.env.code = .ref c)
    (mem : (P, X.env.qual ++ "<lambda>") ∈ T) (uq : ∀ p ∈ T, p.1 = P → p.2 = X.env.qual ++ "<lambda>") (hT : Tabs T H) (plain : defaultsOf params X.env = ([], [])) (caught : ∀ y ∈ scope.names, y.2 = .free → ∃ c, X.env.cells.lookup y.1 = some c)
    (h : ∀ (f c' : Addr) (pm ctv : Value) (H1 : Hp) (s' : Shared), Inv X pins σ H1 s' → But P H H1 → Tabs T H1 →
      s'.heap.get? f = some (PySem.W.kla_obj "<lambda>" (X.env.qual ++ "<lambda>") params body scope (cloFrom X.env.cells scope.names []) pm c' ctv) → H1 f = none → f ∉ frs X.stack → H1 c' = some (CodeO c' (X.env.qual ++ "<lambda>")) → Q (.ref f) s') :
    wpAny (model X.prog X.w) X.A (eval (.Lambda params body scope pos) X.env) Q E s := by
  obtain ⟨ps, hP, trip, told⟩ := hT _ mem
  have inP := TB.bm.keeps I.bk
  have atP : s.heap.get? P = some { cls := .none, data := .fields ps } := I.hok P _ hP
  have away : ∀ f, s.heap.objs.size ≤ f → f ∉ frs X.stack := fun f hf z => by
    rcases List.mem_cons.mp (I.stkSub _ z) with e | e
    · have := I.lt
      rw [← e] at this
      exact absurd (Nat.lt_of_lt_of_le this hf) (Nat.lt_irrefl _)
    · exact I.nofs hf e
  refine PySem.W.kla_eval plain ?_
  match known : codeAmong pos ps.toList with
  | some cv =>
    obtain ⟨c', rfl, hco⟩ := told pos cv known
    refine PySem.W.kla_makeFunctionHit (mg := X.mg) (c := c) (P := P) (ps := ps) (closure_ok caught) I.ok.glob (I.mod.glob.keeps I.bk) code (TB.code.keeps I.bk) atP trip known inP fun ctv h' tk hx hsz => ?_
    refine h h'.objs.size c' ((X.mg "__name__").getD .none) ctv H { s with heap := h'.push (PySem.W.kla_obj "<lambda>" (X.env.qual ++ "<lambda>") params body scope (cloFrom X.env.cells scope.names []) ((X.mg "__name__").getD .none) c' ctv), toks := tk } (I.kept fun b o e => Heap.get?_push_of_some _ (hx b o e)) (fun _ _ _ q => q) hT (Heap.get?_push_size _ rfl) (I.hok.fresh hsz) (away _ hsz) hco
  | none =>
    refine PySem.W.kla_makeFunction (mg := X.mg) (c := c) (P := P) (ps := ps) (closure_ok caught) I.ok.glob (I.mod.glob.keeps I.bk) code (TB.code.keeps I.bk) atP trip known TB.gP inP fun c' ctv h' tk hx hge hlt hrec htb => ?_
    obtain ⟨_, oc, vs, t, ⟨⟩, hoc, hd, hv⟩ := hrec
    have old : s.heap.objs.size ≤ h'.objs.size := by omega
    have nC : H c' = none := I.hok.fresh hge
    have J := inv_table (t' := tk) (more := #[rawInt pos.line, rawInt pos.col, .ref c']) (h' := h'.push (PySem.W.kla_obj "<lambda>" (X.env.qual ++ "<lambda>") params body scope (cloFrom X.env.cells scope.names []) ((X.mg "__name__").getD .none) c' ctv)) I hP
      (fun b o hb e => Heap.get?_push_of_some _ (hx b o hb e)) (Heap.get?_push_of_some _ htb) hge ⟨oc, vs, t, Heap.get?_push_of_some _ hoc, hd, hv⟩
    refine h h'.objs.size c' ((X.mg "__name__").getD .none) ctv _ _ J (fun b o n q => by rw [upd_ne (ne_of_none q nC), upd_ne n]; exact q) (tabs_grown hT mem uq hP nC rfl rfl) (Heap.get?_push_size _ rfl) ?_ (away _ old) upd_same
    rw [upd_ne (Nat.ne_of_gt hlt), upd_ne (Nat.ne_of_gt (Nat.lt_of_lt_of_le (Heap.lt_size atP) old))]
    exact I.hok.fresh old
end
/-- g(lambda: body), g a def that calls what it got: TT, what it makes of the reading t of the body -/
def tHand (T : List (Addr × Str)) (P : Addr) (TT : (XK → Hp → VK → Prop) → Hp → VK → Prop) (t : XK → TE) : TE := fun σ H Q => Tabs T H ∧ ∀ H1, But P H H1 → Tabs T H1 → TT (fun E H' Q' => t E σ H' Q') H1 Q
theorem pe_hand {X : Cx} {T : List (Addr × Str)} {TT : (XK → Hp → VK → Prop) → Hp → VK → Prop} {x a qg : Str} {g c P : Addr} {k : Nat} {st : Stmt} {fd : FuncData} {Ng : List Str}
    {params : Arguments} {body : Expr} {scope : Scope} {t : XK → TE} {p lpos pos : Pos} (hg : Gl X x) (hm : X.mg x = some (.ref g)) (U : Fun X.K x qg st g fd) (hb : Binds X.K fd [a] []) (Sg : FnScope Ng [a] (defScope st)) (first : Ng[0]? = some a) (seen : Vis (defScope st) a)
    (hG : ∀ cdg, GivesTo X Ng qg (defScope st) g cdg (defBody st) a (X.env.qual ++ "<lambda>") TT)
    (TB : TabB X.base X.mg c P) (code : X.env.code = .ref c) (mem : (P, X.env.qual ++ "<lambda>") ∈ T) (uq : ∀ p ∈ T, p.1 = P → p.2 = X.env.qual ++ "<lambda>") (room : Room (k + 2) X.A) (L : LamS X.env.scope scope) (plain : defaultsOf params X.env = ([], []))
    (bnd : ∀ (q : Str) (cl : List (Str × Addr)) (pm cv ctv : Value), bindArgs (PySem.W.kla_fn "<lambda>" q params body scope cl pm cv ctv) ⟨[], []⟩ = pure [])
    (hbody : ∀ (A : Around) (outer : List Env) (s : Shared) (H : Hp) (E : XK) (f c' : Addr), Room k (A.deeper (lamEnv X scope s.heap.objs.size f c')) → PE (lamCx X A outer s H E scope f c') body (t E))
    (d1 : (x == ("__debug__" : Str)) = false := by decide) (d2 : (a == ("__debug__" : Str)) = false := by decide) (d3 : (a == ("__classdict__" : Str)) = false := by decide) :
    PE X (.Call (.Name x p) [.Lambda params body scope lpos] [] pos) (tHand T P TT t) := by
  obtain ⟨⟨oc, od, kV, doc, pm, an, cdv, ct, osl, rfl, lk, hcd⟩, kp⟩ := U
  constructor
  rintro pins s σ H Q I ⟨hT, h⟩
  refine wpAny_Call_Name_kw (ld_glob I hg hm ?_ d1)
  refine PySem.W.callWith_K (h₀ := X.base) I.ok.mod.kin kp ?_ (by rfl) (by rfl)
  show wpAny _ _ (spliced ((false, eval (.Lambda params body scope lpos) X.env) :: backTo pos (starEach [] X.env))) _ _ s
  refine Calls.spliced_cons (lam_but I TB code mem uq hT plain (L.has I.ok) fun f c' pm' ctv H1 s' I1 eN T1 hf hfn hfr hco => ?_)
  refine Calls.spliced_nil ⟨I1.kIn, ?_⟩
  have done : codeAny (model X.prog X.w) X.A (.call (.ref g) ⟨[.ref f], []⟩) (CR C8.CX0 X.stack X.prog X.w H1 s' Q C8.E0) s' := by
    refine LamX.run_ofS (N := Ng) (ps := [a]) (us := [.ref f]) (vs := [.ref f]) lk hcd Sg room I1.env0 (hb s' [.ref f] I1.kIn rfl) (.cons rfl .nil) rfl fun deeper => ?_
    obtain ⟨u, hu, q⟩ := hG cdv f c' s' H1 Q (fun E H' Q' => t E σ H' Q') (fun W pn xe E p1 p2 tk hW => LamX.pe_act (i := 0) I1 L hf hfn hfr (bnd _ _ _ _ _) tk hW deeper (fun A outer s H r2 => hbody A outer s H E f c' r2) first seen d2 d3) hco (h H1 eN T1)
    exact ⟨u, hu.nox, q⟩
  refine wpAny_call (codeAny_mono done fun r s2 hq => ?_)
  match r, hq with
  | .ok (.ret u), hq => exact I1.after hq
end E

set_option Elab.async false
set_option linter.all false
set_option maxRecDepth 100000
set_option maxHeartbeats 2000000
/-! what a def makes of a lambda's answer, of its error; an error kept -/
namespace E
open L2 PySem PySem.Spec PyProof.Rows DL
open LamX (Tabs TabS CodeO TabB GivesTo)
variable [Tb]
/-- tl reads what gives q or raises x, wherever the heaps have grown to -/
def Tl (K : PySem.W.Frag) (tl : XK → Hp → VK → Prop) (B : Bse) (t : Int) (q : Dt → Int → Prop) (x : XQ) : Prop :=
  ∀ E F1 H1 Q1, StE K B.pp B.F0 B.H0 F1 H1 t → XOk K E B.pp F1 H1 x → (∀ v d t' F' H', StE K B.pp F1 H1 F' H' t' → Rp K F' v d → q d t' → Q1 v H') → tl E H1 Q1
/-- An: what is made of an answer; Ax: of an error -/
def TTh (K : PySem.W.Frag) (An : Dt → (Dt → Prop) → Prop) (Ax : Xn → (Dt → Prop) → Prop) : (XK → Hp → VK → Prop) → Hp → VK → Prop := fun tl H Q =>
  ∃ (pp : Option Pi) (F : Hp) (t : Int) (q : Dt → Int → Prop), Same F H ∧ (∀ p, pp = some p → PenAt K F H p t) ∧ Tl K tl ⟨pl pp, F, H, pp⟩ t (fun d t1 => An d fun r => q r t1) (fun X t1 => Ax X fun r => q r t1) ∧ ∀ v d t' F' H', StE K pp F H F' H' t' → Rp K F' v d → q d t' → Q v H'
def wHand (i : Nat) (An : Dt → (Dt → Prop) → Prop) (Ax : Xn → (Dt → Prop) → Prop) (w : WE) : WE := fun ss t q x => match ss[i]? with
  | some .pen => w ss t (fun d t1 => An d fun r => q r t1) (fun X t1 => Ax X fun r => q r t1)
  | _ => False
theorem sn_hand {K : PySem.W.Frag} {E : XK} {i : Nat} {P : Addr} {nm : Str} {t : XK → TE} {w : WE} {An : Dt → (Dt → Prop) → Prop} {Ax : Xn → (Dt → Prop) → Prop} (hP : (P, nm) ∈ Tb.T K) (h : ∀ E, Snd K E (t E) w) : Snd K E (tHand (Tb.T K) P (TTh K An Ax) t) (wHand i An Ax w) := fun pp F H σ ss tt Q q x r hw X k => by
  unfold wHand at hw
  split at hw
  · rename_i e
    obtain ⟨p, rfl, _⟩ := r.env.pen i e
    have pen := r.pen p rfl
    obtain ⟨h1, ⟨h2, h5⟩, t0, r0, h3, h4⟩ := pen
    have eT := h5.2.2
    have mem : (P, nm) ∈ p.T := eT ▸ hP
    have hPm : P ∈ pl (some p) := List.mem_cons_of_mem _ (List.mem_map_of_mem (f := (·.1)) mem)
    obtain ⟨ps, hPt⟩ := h5.at mem
    have fP : F P = none := h5.1 _ mem
    refine ⟨eT ▸ h5.2.1, fun H1 bt T1 => ?_⟩
    have T1' : Tabs p.T H1 := eT ▸ T1
    have pn : p.p ≠ P := fun z => by
      rw [z] at h3
      rw [show H P = _ from hPt] at h3
      cases h3
    have pen1 : PenAt K F H1 p tt := ⟨h1, ⟨h2, h5.1, T1', eT⟩, t0, r0, bt _ _ pn h3, h4⟩
    have s1 : StE K (some p) F H F H1 tt := ⟨⟨.refl _, fun a o q => bt a o (fun z => by rw [z, fP] at q; cases q) (r.fh a o q), fun a o n q => bt a o (fun z => n (z ▸ hPm)) q, fun _ q _ => q, fun a ha => by
      by_cases z : a = P
      · rw [z]; exact pen1.there hPm
      · cases e : H a with
        | none => exact absurd e ha
        | some o => rw [bt a o z e]; exact fun y => by cases y⟩, fun p' e' => by cases e'; exact pen1⟩
    exact ⟨some p, F, tt, q, s1.fh, fun p' e' => by cases e'; exact pen1, fun E F1 H2 Q1 s2 x2 k2 => h E (some p) F1 H2 σ ss tt Q1 _ _ ((r.step s1).step s2) hw x2 k2, fun v d t' F' H' s2 hv hq => k v d t' F' H' (s1.trans s2) hv hq⟩
  · exact hw.elim
/-! the def that hears -/
def EofW (n : Nat) (W : WX) : XK := fun cls d H => ∀ σ : L2.St, σ.length = n → W cls d σ H
theorem takes_len {X : Cx} {W : WX} {n : Nat} (hn : X.N.length = n) (tk : Takes X W) : Takes X (fun cls d σ H => σ.length = n → W cls d σ H) := fun u s' ⟨a, B, sI, pins, σ, H, cls, d, e, I, nb, up, sky, na, os, ag, w⟩ =>
  tk u s' ⟨a, B, sI, pins, σ, H, cls, d, e, I, nb, up, sky, na, os, ag, w (I.len.trans hn)⟩
def tAct (f c : Addr) (nm : Str) (tl : XK → Hp → VK → Prop) (E : XK) : TE := fun σ H Q => σ[0]? = some (some (.ref f)) ∧ H c = some (CodeO c nm) ∧ tl E H Q
theorem pe_ask {Z : Cx} {f c : Addr} {nm a : Str} {tl : XK → Hp → VK → Prop} {n : Nat} {W : WX} {pn : List (Addr × Obj)} {xe : Value → Shared → Prop} {p1 p2 : Pos}
    (act : ∀ (W : WX) (pn : List (Addr × Obj)) (xe : Value → Shared → Prop) (E : XK) (p1 p2 : Pos), Takes (Z.tr pn xe) W → (∀ cls d σ' H', E cls d H' → W cls d σ' H') → PE (Z.tr pn xe) (.Call (.Name a p1) [] [] p2) (fun σZ HZ Q => σZ[0]? = some (some (.ref f)) ∧ HZ c = some (CodeO c nm) ∧ tl E HZ Q))
    (hn : Z.N.length = n) (tk : Takes (Z.tr pn xe) W) : PE (Z.tr pn xe) (.Call (.Name a p1) [] [] p2) (tAct f c nm tl (EofW n W)) :=
  act _ pn xe (EofW n W) p1 p2 (takes_len hn tk) fun _ _ σ' _ h => h σ'
section
variable {K : PySem.W.Frag} {f c : Addr} {nm : Str} {tl : XK → Hp → VK → Prop} {B0 : Bse} {t0 : Int} {qn : Dt → Int → Prop} {xh : XQ}
def wAsk (f : Addr) (B0 : Bse) (t0 : Int) (qn : Dt → Int → Prop) (xh : XQ) : WS := fun ss t P => ss[0]? = some (.inv (.ref f) B0) ∧ t = t0 ∧ (∀ d t1, qn d t1 → P.nx ss t1) ∧ ∀ X t1, xh X t1 → P.x X t1
theorem sb_ask (hT : Tl K tl B0 t0 qn xh) (hM : B0.M = pl B0.pp) (hp : ∀ p, B0.pp = some p → PenAt K B0.F0 B0.H0 p t0) (hc : B0.H0 c = some (CodeO c nm)) (E : XK) : SndB K E (tDrop (tAct f c nm tl E)) (wAsk f B0 t0 qn xh) := fun B D F H σ ss t P r hw k => by
  obtain ⟨e, rfl, hn, hx⟩ := hw
  obtain ⟨rfl, e1⟩ := r.inv 0 _ _ e
  have s : StE K B.pp B.F0 B.H0 F H t := ⟨hM ▸ r.gr, fun p e => (r.pen p e).1⟩
  refine ⟨e1, s.gr.hh _ _ (fun z => ?_) hc, hT E F H _ s (fun X dd fv F' H' t' s' h1 h2 h3 => (k.xok r) X dd fv F' H' t' s' h1 h2 (hx X t' h3)) fun v d t' F' H' s' hv hq => k.nx F' H' σ ss t' s'.ff (r.step s') (hn d t' hq)⟩
  obtain ⟨p, e2, h⟩ := pl_mem z
  rcases (hp p e2).at h with ⟨_, _, _, q⟩ | ⟨_, q⟩ <;> rw [hc] at q <;> unfold CodeO at q <;> cases q
/-- try: body / except c as n_i: n_j = n_i -/
def wTryKeep (K : PySem.W.Frag) (n i j : Nat) (c : Value) (wb : WS) : WS := fun ss t P => wb ss t { P with x := fun X t1 => PySem.W.exmOne K (.ref X.C) c = some true ∧ P.nx ((List.replicate n .no).set j (.val (.exn X.C X.fs))) t1 }
theorem sb_tryKeep {E : XK} {n i j : Nat} {c : Value} {Wo : WX} {tb : XK → TS} {wb : WS} (hij : i ≠ j) (hi : i < n) (hb : ∀ E, SndB K E (tb E) wb) :
    SndB K E (fun D σ H => tb (EofW n (wKp K c i (fun _ _ _ => tAsg (tVar i) (gName j)) Wo D)) D σ H) (wTryKeep K n i j c wb) := fun B D F H σ ss t P r hw k => by
  refine hb _ B D F H σ ss t _ r hw ⟨k.nx, k.rt, k.bk, k.ct, fun X dd fv F' H' t' e f h1 h2 h3 => ?_⟩
  intro σ' hl
  refine ⟨true, h3.1, fun _ => ⟨X.C, rfl, fun a ha => ?_⟩, fun z => by cases z⟩
  refine ⟨.ref a, by rw [List.getElem?_set, if_pos rfl, if_pos (by omega)], ?_⟩
  have fa : F' a = none := fresh_back f.gr.fh ha
  have m := same_new (o := exv a X.C (some dd)) fa
  have up : ∀ (l : Nat) (s : Sx), ((List.replicate n Sx.no).set j (.val (.exn X.C X.fs)))[l]? = some s → s = .no ∨ (l = j ∧ j < n ∧ s = .val (.exn X.C X.fs)) := fun l s q => by
    rcases set_get q with ⟨e1, e2, e3⟩ | ⟨_, e2⟩
    · exact .inr ⟨e1, by simpa using e2, e3⟩
    · rw [List.getElem?_replicate] at e2
      split at e2
      · cases e2; exact .inl rfl
      · cases e2
  refine k.nx (upd F' a (exv a X.C (some dd))) _ _ _ t' (e.trans m) ⟨f.gr.step ((Stp.refl f.gr.fh).alloc ha), ⟨by simp [hl], fun l d q => ?_, fun l q => ?_, fun l C fs q => ?_, fun l q => (by rcases up l _ q with z | ⟨_, _, z⟩ <;> cases z)⟩, fun l ds q ho => ?_, fun l C fs q => ?_, fun l l' p hl' _ _ _ => ?_, fun p q => ?_, fun l v B1 q => ?_⟩ h3.2
  · rcases up l _ q with z | ⟨rfl, hjn, z⟩
    · cases z
    · cases z
      refine ⟨.ref a, ?_, .exn ⟨dd, .inl upd_same, .inl ?_⟩ (rpF_mono m h2)⟩
      · rw [List.getElem?_set, if_neg hij, List.getElem?_set, if_pos rfl, if_pos (by simp [hl]; omega)]
      · rw [upd_ne (fun z => by rw [z, fa] at h1; cases h1)]; exact h1
  · rcases up l _ q with z | ⟨_, _, z⟩ <;> cases z
  · rcases up l _ q with z | ⟨_, _, z⟩ <;> cases z
  · rcases up l _ q with z | ⟨_, _, z⟩ <;> (subst z; cases ho)
  · rcases up l _ q with z | ⟨_, _, z⟩ <;> cases z
  · rcases hl' with ⟨es, q, ho⟩ | ⟨C, fs, q⟩
    · rcases up l _ q with z | ⟨_, _, z⟩ <;> (subst z; cases ho)
    · rcases up l _ q with z | ⟨_, _, z⟩ <;> cases z
  · have fin : Fin K B (upd F' a (exv a X.C (some dd))) (upd H' a (exv a X.C (some dd))) t' := by
      refine ⟨f.gr.step ((Stp.refl f.gr.fh).alloc ha), fun p q => pen_stp ((Stp.refl f.gr.fh).alloc ha) (f.pen p q)⟩
    exact ⟨fin.pen p q, (r.pen p q).2⟩
  · rcases up l _ q with z | ⟨_, _, z⟩ <;> cases z
/-- the def entered -/
theorem hear_end {a : Str} {N : List Str} {ts : TS} {w : WS} {pp : Option Pi} {F H : Hp} {t : Int} {q : Dt → Int → Prop} {Q : VK} (hs : SndB K E0 ts w) (fh : Same F H) (hp : ∀ p, pp = some p → PenAt K F H p t) (k : ∀ v d t' F' H', StE K pp F H F' H' t' → Rp K F' v d → q d t' → Q v H')
    (hw : w (.inv (.ref f) ⟨pl pp, F, H, pp⟩ :: List.replicate N.length .no) t ⟨fun _ t' => q .non t', q, fun _ _ => False, fun _ _ => False, fun _ _ => False⟩) : ts { nx := fun _ H' => Q .non H', rt := Q } (L2.start (a :: N) [.ref f]) H := by
  have es : L2.start (a :: N) [V.ref f] = some (.ref f) :: List.replicate N.length none := by
    unfold L2.start
    simp
  rw [es]
  have up : ∀ (i : Nat) (s : Sx), (Sx.inv (.ref f) ⟨pl pp, F, H, pp⟩ :: List.replicate N.length Sx.no)[i]? = some s → s = .no ∨ (i = 0 ∧ s = .inv (.ref f) ⟨pl pp, F, H, pp⟩) := fun i s q' => by
    cases i with
    | zero => cases q'; exact .inr ⟨rfl, rfl⟩
    | succ j =>
      have : (List.replicate N.length Sx.no)[j]? = some s := by simpa using q'
      rw [List.getElem?_replicate] at this
      split at this
      · cases this; exact .inl rfl
      · cases this
  have stp : ∀ {F' H' t'}, Fin K ⟨pl pp, F, H, pp⟩ F' H' t' → StE K pp F H F' H' t' := fun f => ⟨f.gr, f.pen⟩
  refine hs ⟨pl pp, F, H, pp⟩ _ F H _ _ t _ ⟨.refl fh, ⟨by simp, fun i d q' => ?_, fun i q' => ?_, fun i C fs q' => ?_, fun i q' => (by rcases up i _ q' with z | ⟨_, z⟩ <;> cases z)⟩, fun i es q' ho => ?_, fun i C fs q' => ?_, fun i j p hi _ _ _ => ?_, fun p q' => ⟨hp p q', fun a ha => .inl (by rw [show pp = some p from q']; exact ha)⟩, fun i v B1 q' => ?_⟩ hw
    ⟨fun F' H' σ' ss' t' _ r' h' => k _ _ t' F' H' (stp r'.fin) .non h', fun v d F' H' t' _ f hv h' => k v d t' F' H' (stp f) hv h', fun _ _ _ _ _ _ _ h' => h'.elim, fun _ _ _ _ _ _ _ h' => h'.elim, fun X dd fv F' H' t' _ f h1 h2 h3 => h3.elim⟩
  · rcases up i _ q' with z | ⟨_, z⟩ <;> cases z
  · rcases up i _ q' with z | ⟨_, z⟩ <;> cases z
  · rcases up i _ q' with z | ⟨_, z⟩ <;> cases z
  · rcases up i _ q' with z | ⟨_, z⟩ <;> (subst z; cases ho)
  · rcases up i _ q' with z | ⟨_, z⟩ <;> cases z
  · rcases hi with ⟨es, q', ho⟩ | ⟨C, fs, q'⟩
    · rcases up i _ q' with z | ⟨_, z⟩ <;> (subst z; cases ho)
    · rcases up i _ q' with z | ⟨_, z⟩ <;> cases z
  · rcases up i _ q' with z | ⟨rfl, z⟩
    · cases z
    · cases z
      exact ⟨rfl, rfl⟩
/-- e.f, e an error -/
def wXv (K : PySem.W.Frag) (f : Str) (a : WE) : WE := fun ss t q x => a ss t (fun d t1 => match d with
  | .exn C fs => XfC K C ∧ PySem.W.findIn K (.ref C) f = some none ∧ onO (fs.lookup f) fun e => q e t1
  | _ => False) x
theorem sn_xv {E : XK} {f : Str} {te : TE} {we : WE} (h : Snd K E te we) : Snd K E (tXv K f te) (wXv K f we) := fun pp F H σ ss t Q q x r hw X k =>
  h pp F H σ ss t _ _ x r hw X fun v d t1 F1 H1 s1 hv h1 => by
    split at h1
    · obtain ⟨h2, h3, h4⟩ := h1
      obtain ⟨e, h5, h6⟩ := onO_some h4
      obtain ⟨a, fv, rfl, g1, g2⟩ := rp_exn hv
      obtain ⟨w, g3, g4⟩ := rpF_lookup g2 h5
      exact ⟨a, _, fv, w, rfl, h2, h3, g1.mono s1.fh, g3, k w e t1 F1 H1 s1 g4 h6⟩
    · exact h1.elim
end
end E

set_option Elab.async false
set_option linter.all false
set_option maxRecDepth 100000
set_option maxHeartbeats 2000000
/-! a def that makes lambdas; classes told; {}; the end with tables -/
namespace DL
open He L2 PySem PySem.Spec PyProof.Rows
def exmN (x y : Str) (b : Bool) (K : PySem.W.Frag) : Bool := decide (PySem.W.exmOne K (.ref (ga K x)) (.ref (ga K y)) = some b)
theorem exmN_ok {x y : Str} {b : Bool} {K : PySem.W.Frag} (q : exmN x y b K = true) : PySem.W.exmOne K (.ref (ga K x)) (.ref (ga K y)) = some b := of_decide_eq_true q
def kitTN (n : String) (y : Str) (b : Bool) (K : PySem.W.Frag) : Bool := decide (PySem.W.kitOne K (.type n) (.ref (ga K y)) = some b)
theorem kitTN_ok {n : String} {y : Str} {b : Bool} {K : PySem.W.Frag} (q : kitTN n y b K = true) : PySem.W.kitOne K (.type n) (.ref (ga K y)) = some b := of_decide_eq_true q
end DL
namespace E
open L2 PySem PySem.Spec PyProof.Rows DL
variable [Tb]
theorem fun_okC {P : Program} {w : World} {K : PySem.W.Frag} {mg : Str → Option Value} {base : Heap} {x qual : Str} {st : Stmt} {f : Addr} {fd : FuncData} {N ps : List Str} {k : Nat} {sp : Sp} {p : Str × Option Str} (F : Fun K x qual st f fd) (hf : f = He.fAd K p) (S : FnScope N ps (defScope st)) (len : ∀ vs H Q E, sp vs H Q E → vs.length = ps.length)
    (hbody : ∀ (A : Around) (outer : List Env) (s : Shared) (H : Hp) (vs : List V) (Q : VK) (E : XK), Room k (A.deeper (envOfC qual (defScope st) s.heap.objs.size f (.ref (He.cT K p).1))) → sp vs H Q E →
      ∃ t, PSs (cxOf CX0 P w K mg base N qual (defScope st) f (.ref (He.cT K p).1) A outer s H E).nox (defBody st) t ∧ t { nx := fun _ H' => Q .non H', rt := Q } (L2.start N vs) H) : FnOk P w K mg base CX0 (k + 1) f fd ps sp := by
  obtain ⟨⟨oc, od, kV, doc, pm, an, cdv, ct, osl, rfl, lk, hcd⟩, kp⟩ := F
  obtain ⟨c, rfl⟩ := He.codeIn_ref hcd
  have e : He.codeOf K p = c := He.codeOf_eq (hf ▸ lk) rfl
  refine fn_of lk hcd S len fun A outer s H vs Q E hr hsp => ?_
  subst e
  obtain ⟨t, h, q⟩ := hbody A outer s H vs Q E hr hsp
  exact ⟨t, h.nox, q⟩
theorem isi_mk {K : PySem.W.Frag} {d c : Dt} {q : Dt → Prop} (t u : Value) (b : Bool) (h1 : tyU d = some t) (h2 : clsU c = some u) (h3 : PySem.W.kitOne K t u = some b) (hX : ∀ C fs, d = .exn C fs → ExcC K C) (hO : ∀ C fs, d = .obj C fs → ∀ F : Hp, ∀ a dx fv, F a = some (.ins C dx fv) → TyX K F (.ref a) (.ref C)) (hq : q (.bl b)) : wIsi K [d, c] q := ⟨t, u, b, h1, h2, h3, hX, hO, hq⟩
theorem isiT_mk {K : PySem.W.Frag} {d : Dt} {cs : List Dt} {q : Dt → Prop} (t : Value) (us : List Value) (b : Bool) (h1 : tyU d = some t) (h2 : cs.mapM clsU = some us) (h3 : PySem.W.kitAny K t us = some b) (hX : ∀ C fs, d = .exn C fs → ExcC K C) (hO : ∀ C fs, d = .obj C fs → ∀ F : Hp, ∀ a dx fv, F a = some (.ins C dx fv) → TyX K F (.ref a) (.ref C)) (hq : q (.bl b)) : wIsiT K [d, .tup cs] q := ⟨t, us, b, h1, h2, h3, hX, hO, hq⟩
def wDct : WE := fun _ t q _ => q (.dct []) t
theorem sn_dct {K : PySem.W.Frag} {E : XK} : Snd K E tDNewK wDct := fun pp F H σ ss t Q q x r hw X k p hp => k _ _ t _ _ (r.alloc hp) (.dct upd_same .nil) hw
end E
theorem DL.saysX_b {fa : List He.Fa} {fn : List He.DefD} {ts : List He.Tab} {tf : List He.Defn} {bs : List (PySem.W.Frag → Bool)} {w : PySem.World} {h : PySem.Heap} {K : PySem.W.Frag} (c : He.SaysX fa fn ts tf (fun K => bs.all fun b => b K) w h K) (i : Nat) {f : PySem.W.Frag → Bool} (e : bs[i]? = some f := by rfl) : f K = true :=
  List.all_eq_true.mp c.more f (List.mem_of_getElem? e)

set_option Elab.async false
set_option linter.all false
set_option maxRecDepth 100000
set_option maxHeartbeats 2000000
/-! own objects: made by an __init__, their fields written, their methods -/
namespace E
open L2 PySem PySem.Spec PyProof.Rows DL
variable [Tb]
def putD (f : Str) (d : Dt) : List (Str × Dt) → List (Str × Dt)
  | [] => [(f, d)]
  | (g, x) :: r => if g = f then (g, d) :: r else (g, x) :: putD f d r
theorem rpF_put {K : PySem.W.Frag} {F : Hp} {f : Str} {v : V} {d : Dt} (h : Rp K F v d) : ∀ {fs : List (Str × Dt)} {fv : List (Str × V)}, RpF K F fv fs → RpF K F (putF f v fv) (putD f d fs)
  | [], _, .nil => .cons h .nil
  | (g, e) :: fs, _, .cons (v := w) (fv := fv) h1 h2 => by
    show RpF K F (if g = f then (g, v) :: fv else (g, w) :: putF f v fv) (if g = f then (g, d) :: fs else (g, e) :: putD f d fs)
    by_cases z : g = f
    · rw [if_pos z, if_pos z]
      exact .cons h h2
    · rw [if_neg z, if_neg z]
      exact .cons h1 (rpF_put h h2)
abbrev Tpi := List Dt → (List (Str × Dt) → Prop) → (Xn → Prop) → Prop
/-- an own __init__ of the class at C: what fields it writes -/
def spI (K : PySem.W.Frag) (C : Addr) (T : Tpi) : Sp := fun vs H Q E => ∃ (F : Hp) (p dx : Addr) (ws : List V) (ds : List Dt) (q : List (Str × Dt) → Prop) (x : Xn → Prop), vs = .ref p :: ws ∧ Same F H ∧ F p = none ∧ H p = some (.ins C dx []) ∧ RpA K F ws ds ∧ T ds q x ∧
  (∀ fv fs dx2 F2 H2, Gr [p] F H F2 H2 → F2 p = none → H2 p = some (.ins C dx2 fv) → RpF K F2 fv fs → q fs → Q .non H2) ∧ ∀ X dd fv F2 H2, Gr [p] F H F2 H2 → F2 p = none → H2 p ≠ none → F2 dd = some (.xd fv) → RpF K F2 fv X.fs → x X → E (.ref X.C) (some dd) H2
def wMake (C : Addr) (T : Tpi) (wa : WA) : WE := fun ss t q x => wa ss t (fun ds t1 => T ds (fun fs => q (.obj C fs) t1) fun X => x X t1) x
def wMakeK (C : Addr) (T : Tpi) (g : List Dt → List Dt → List Dt) (wa wk : WA) : WE := fun ss t q x => wa ss t (fun ds t1 => wk ss t1 (fun es t2 => T (g ds es) (fun fs => q (.obj C fs) t2) fun X => x X t2) x) x
/-- behind an __init__: the new object is data from now on -/
theorem stp_made {F1 H1 F2 H2 : Hp} {p dx C : Addr} {fv0 : List (Str × V)} {o : HO} (fh : Same F1 H1) (hp : H1 p = none) (hd : H1 dx = none) (ne : dx ≠ p) (g : Gr [p] (upd F1 dx (.own p)) (upd (upd H1 dx (.own p)) p (.ins C dx fv0)) F2 H2) (f2 : F2 p = none) (h2 : H2 p = some o) : Stp F1 H1 (upd F2 p o) H2 := by
  have fp := fresh_back fh hp
  have fd := fresh_back fh hd
  have old : ∀ b u, H1 b = some u → upd (upd H1 dx (.own p)) p (.ins C dx fv0) b = some u := fun b u e => by
    rw [upd_ne (ne_of_none e hp), upd_ne (ne_of_none e hd)]; exact e
  refine ⟨fun b u e => g.hh b u (fun z => ?_) (old b u e), fun b u e => ?_, fun b u e => ?_, fun b h3 h4 => ?_⟩
  · rw [List.mem_singleton.mp z, hp] at e
    cases e
  · rw [upd_ne (ne_of_none e fp)]
    exact g.ff b u (by rw [upd_ne (ne_of_none e fd)]; exact e)
  · by_cases z : b = p
    · subst z; rw [upd_same] at e; cases e; exact h2
    · rw [upd_ne z] at e; exact g.fh b u e
  · have bp : b ≠ p := fun z => h4 (by rw [z]; exact hp)
    have bd : b ≠ dx := fun z => h4 (by rw [z]; exact hd)
    rw [upd_ne bp]
    exact g.nw b (by rw [upd_ne bd]; exact h3) (by rw [upd_ne bp, upd_ne bd]; exact h4)
section
variable {K : PySem.W.Frag} {E : XK} {C : Addr} {T : Tpi} {ta tk : TA} {wa wk : WA} {te : TE} {we : WE}
theorem make_ok {pp : Option Pi} {F H : Hp} {σ : L2.St} {ss : Ss} {t1 : Int} {Q : VK} {vs : List V} {ds : List Dt} {q : List (Str × Dt) → Prop} {x : Xn → Prop} (r : RelE K pp F H σ ss t1) (hv : RpA K F vs ds) (hT : T ds q x)
    (k : ∀ v fs F' H', StE K pp F H F' H' t1 → Rp K F' v (.obj C fs) → q fs → Q v H') (kx : ∀ X dd fv F' H', StE K pp F H F' H' t1 → F' dd = some (.xd fv) → RpF K F' fv X.fs → x X → E (.ref X.C) (some dd) H') :
    ∀ p dx, H p = none → H dx = none → dx ≠ p → spI K C T (.ref p :: (vs ++ [])) (upd (upd H dx (.own p)) p (.ins C dx [])) (fun v H2 => v = .non ∧ Q (.ref p) H2) E := fun p dx hp hd ne => by
  have fp := fresh_back r.fh hp
  have fd := fresh_back r.fh hd
  have fh : Same (upd F dx (.own p)) (upd (upd H dx (.own p)) p (.ins C dx [])) := fun b u e => by
    by_cases z : b = dx
    · subst z; rw [upd_ne ne, upd_same]; rw [upd_same] at e; exact e
    · rw [upd_ne z] at e
      rw [upd_ne (ne_of_none e fp), upd_ne z]
      exact r.fh b u e
  refine ⟨upd F dx (.own p), p, dx, vs, ds, q, x, by rw [List.append_nil], fh, by rw [upd_ne (Ne.symm ne)]; exact fp, upd_same, rpA_mono (same_new fd) hv, hT, fun fv fs dx2 F2 H2 g f2 h2 hf hq => ⟨rfl, ?_⟩, fun X dd fv F2 H2 g f2 h2 h3 hf hx => ?_⟩
  · have s := stp_made r.fh hp hd ne g f2 h2
    exact k _ fs _ H2 (r.stp s) (.obj upd_same (rpF_mono (same_new f2) hf)) hq
  · cases e : H2 p with
    | none => exact absurd e h2
    | some o =>
      have s := stp_made r.fh hp hd ne g f2 e
      exact kx X dd fv _ H2 (r.stp s) (by rw [upd_ne (fun z => by rw [z, f2] at h3; cases h3)]; exact h3) (rpF_mono (same_new f2) hf) hx
theorem sn_make (h : SndA K E ta wa) : Snd K E (tMake C (spI K C T) [] E ta) (wMake C T wa) := fun pp F H σ ss t Q q x r hw X k =>
  h pp F H σ ss t _ _ x r hw X fun vs ds t1 F1 H1 s1 hv h1 => make_ok (r.step s1) hv h1 (fun v fs F' H' s hr hq => k v _ t1 F' H' (s1.trans s) hr hq) fun Y dd fv F' H' s h2 h3 hx => X Y dd fv F' H' t1 (s1.trans s) h2 h3 hx
theorem sn_make0 (h : SndA K E ta wa) : Snd K E (tMake C (spI K C T) [] E0 ta) (wMake C (fun ds q x => T ds q fun _ => False) wa) := fun pp F H σ ss t Q q x r hw X k =>
  h pp F H σ ss t _ _ x r hw X fun vs ds t1 F1 H1 s1 hv h1 => make_ok (r.step s1) hv h1 (fun v fs F' H' s hr hq => k v _ t1 F' H' (s1.trans s) hr hq) fun Y dd fv F' H' s h2 h3 hx => hx.elim
/-! fields of the new object -/
def wSetF (C : Addr) (i : Nat) (f : Str) (e : WE) : WS := fun ss t P => e ss t (fun d t1 => match ss[i]? with
  | some (.slf C' fs) => (C' = C ∧ fs.length < 1000) ∧ P.nx (ss.set i (.slf C (putD f d fs))) t1
  | _ => False) P.x
theorem Rel.putS {B : Bse} {F H : Hp} {σ : L2.St} {ss : Ss} {t : Int} {i : Nat} {p C' dx : Addr} {f : Str} {v : V} {d : Dt} {fs : List (Str × Dt)} {fv : List (Str × V)} (r : Rel K B F H σ ss t) (hi : ss[i]? = some (.slf C' fs)) (hp : σ[i]? = some (some (.ref p))) (hH : H p = some (.ins C' dx fv)) (hf : RpF K F fv fs) (h : Rp K F v d) :
    Rel K B F (upd H p (.ins C' dx (putF f v fv))) σ (ss.set i (.slf C' (putD f d fs))) t := by
  obtain ⟨p1, g1, fp, pM⟩ := r.slm i C' fs hi
  rw [hp] at g1
  cases g1
  obtain ⟨p2, _, _, g1, np, _⟩ := r.env.slf i C' fs hi
  rw [hp] at g1
  cases g1
  have il : i < ss.length := (List.getElem?_eq_some_iff.mp hi).1
  have oi : isOwn ss i := .inr ⟨_, _, hi⟩
  have key : ∀ j, isOwn (ss.set i (.slf C' (putD f d fs))) j → isOwn ss j := fun j hj => by
    rcases hj with ⟨es, h, ho⟩ | ⟨D, gs, h⟩
    · rcases set_get h with ⟨_, _, e⟩ | ⟨_, h2⟩
      · subst e; cases ho
      · exact .inl ⟨es, h2, ho⟩
    · rcases set_get h with ⟨z, _, _⟩ | ⟨_, h2⟩
      · subst z; exact oi
      · exact .inr ⟨D, gs, h2⟩
  refine ⟨⟨r.gr.ff, fun a o e => ?_, fun a o hm e => ?_, r.gr.nw, fun q hq => ?_⟩, ?_, fun j es e ho => ?_, fun j D gs e => ?_, fun j k q hj hk e1 e2 => r.sep j k q (key j hj) (key k hk) e1 e2, fun P e => ?_, fun j w B0 e => ?_⟩
  · rw [upd_ne (ne_of_none e fp)]; exact r.gr.fh a o e
  · rw [upd_ne (fun z => hm (by rw [z]; exact pM))]; exact r.gr.hh a o hm e
  · by_cases z : q = p
    · subst z; rw [upd_same]; exact fun z => by cases z
    · rw [upd_ne z]; exact r.gr.al q hq
  · refine ⟨by rw [List.length_set]; exact r.env.len, fun j d' e => ?_, fun j e => ?_, fun j D gs e => ?_, fun j e => ?_⟩
    · rcases set_get e with ⟨_, _, e'⟩ | ⟨h1, h2⟩
      · cases e'
      · exact r.env.val j d' h2
    · rcases set_get e with ⟨_, _, e'⟩ | ⟨h1, h2⟩
      · cases e'
      · exact r.env.pen j h2
    · rcases set_get e with ⟨rfl, _, e'⟩ | ⟨h1, h2⟩
      · cases e'
        exact ⟨p, dx, _, hp, np, upd_same, rpF_put h hf⟩
      · obtain ⟨q, dx', fv', k1, k2, k3, k4⟩ := r.env.slf j D gs h2
        exact ⟨q, dx', fv', k1, k2, by rw [upd_ne (own_addr_ne r (.inr ⟨D, gs, h2⟩) oi k1 hp h1)]; exact k3, k4⟩
    · rcases set_get e with ⟨_, _, e'⟩ | ⟨h1, h2⟩
      · cases e'
      · exact r.env.gho j h2
  · rcases set_get e with ⟨_, _, e'⟩ | ⟨h1, h2⟩
    · subst e'; cases ho
    · obtain ⟨q, zs, k1, k2, k3, k4⟩ := r.ow j es h2 ho
      exact ⟨q, zs, k1, k2, by rw [upd_ne (own_addr_ne r (.inl ⟨_, h2, ho⟩) oi k1 hp h1)]; exact k3, k4⟩
  · rcases set_get e with ⟨rfl, _, e'⟩ | ⟨h1, h2⟩
    · cases e'
      exact ⟨p, hp, fp, pM⟩
    · exact r.slm j D gs h2
  · obtain ⟨⟨k1, ⟨k2, k6⟩, tt, r', k3, k4⟩, k5⟩ := r.pen P e
    have pn : ∀ a ∈ pl (some P), a ≠ p := fun a ha z => np (by rw [e]; exact z ▸ ha)
    refine ⟨⟨k1, ⟨k2, k6.1, fun a ha => ?_, k6.2.2⟩, tt, r', ?_, k4⟩, k5⟩
    · obtain ⟨ps, g1, g2, g3⟩ := k6.2.1 a ha
      refine ⟨ps, by rw [upd_ne (pn a.1 (List.mem_cons_of_mem _ (List.mem_map_of_mem ha)))]; exact g1, g2, fun pos cv hc => ?_⟩
      obtain ⟨c, e1, e2⟩ := g3 pos cv hc
      exact ⟨c, e1, by rw [upd_ne (fun z => by rw [z, hH] at e2; unfold LamX.CodeO at e2; cases e2)]; exact e2⟩
    · rw [upd_ne (pn P.p List.mem_cons_self)]
      exact k3
  · rcases set_get e with ⟨_, _, e'⟩ | ⟨h1, h2⟩
    · cases e'
    · exact r.inv j w B0 h2
theorem sb_setF {i : Nat} {f : Str} (hc : Cls K C) (hn : NoAttr K C f) (h : Snd K E te we) : SndB K E (sFld K (tVar i) te f) (wSetF C i f we) := fun B D F H σ ss t P r hw k => by
  refine h B.pp F H σ ss t _ _ _ r.toE hw (k.xok r) fun v d t1 F1 H1 s hv h1 => ?_
  split at h1
  · rename_i C' fs e
    obtain ⟨⟨rfl, hl⟩, h1⟩ := h1
    have r1 := r.step s
    obtain ⟨p, dx, fv, g1, g2, g3, g4⟩ := r1.env.slf i _ fs e
    refine ⟨.ref p, g1, p, _, dx, fv, rfl, g3, hc, hn, by rw [rpF_len g4]; exact hl, ?_⟩
    exact k.nx F1 _ _ _ t1 s.ff (r1.putS e g1 g3 g4 hv) h1
  · exact h1.elim
/-- an __init__ entered -/
theorem def_I {a : Str} {N : List Str} {ts : TS} {w : WS} {vs : List V} {H : Hp} {Q : VK} (hs : SndB K E ts w) (h : spI K C T vs H Q E) (hl : ∀ ds q x, T ds q x → ds.length ≤ N.length)
    (hw : ∀ ds q x, T ds q x → w (.slf C [] :: stS N.length ds) 0 ⟨fun ss _ => ∃ fs, ss[0]? = some (.slf C fs) ∧ q fs, fun _ _ => False, fun _ _ => False, fun _ _ => False, fun X _ => x X⟩) : ts { nx := fun _ H' => Q .non H', rt := Q } (L2.start (a :: N) vs) H := by
  obtain ⟨F, p, dx, ws, ds, q, x, rfl, e, fp, hp, hv, hT, k, kx⟩ := h
  have en := stS_env (pp := none) (H := H) hv (hl ds q x hT)
  have es : L2.start (a :: N) (.ref p :: ws) = some (.ref p) :: L2.start N ws := by
    unfold L2.start
    simp only [List.map_cons, List.length_cons, List.cons_append, Nat.add_sub_add_right]
  have up : ∀ (i : Nat) (s : Sx), (Sx.slf C [] :: stS N.length ds)[i]? = some s → (i = 0 ∧ s = .slf C []) ∨ ∃ j, i = j + 1 ∧ (stS N.length ds)[j]? = some s := fun i s q' => by
    cases i with
    | zero => cases q'; exact .inl ⟨rfl, rfl⟩
    | succ j => exact .inr ⟨j, rfl, by simpa using q'⟩
  have only : ∀ i, isOwn (Sx.slf C [] :: stS N.length ds) i → i = 0 := fun i hi => by
    rcases hi with ⟨es, q', ho⟩ | ⟨D, fs, q'⟩
    · rcases up i _ q' with ⟨_, z⟩ | ⟨j, rfl, z⟩
      · subst z; cases ho
      · rcases stS_no z with ⟨d, z⟩ | z <;> (subst z; cases ho)
    · rcases up i _ q' with ⟨rfl, _⟩ | ⟨j, rfl, z⟩
      · rfl
      · rcases stS_no z with ⟨d, z⟩ | z <;> cases z
  have keepX : ∀ {F' H' t'}, Fin K ⟨[p], F, H, none⟩ F' H' t' → H' p ≠ none := fun f => f.gr.al p (by show H p ≠ none; rw [hp]; exact fun z => by cases z)
  have keepF : ∀ {F' H' t'}, Fin K ⟨[p], F, H, none⟩ F' H' t' → F' p = none := fun f => f.gr.nw p fp (by show H p ≠ none; rw [hp]; exact fun z => by cases z)
  have leave : ∀ {F' H' σ' ss' t'}, Rel K ⟨[p], F, H, none⟩ F' H' σ' ss' t' → (∃ fs, ss'[0]? = some (.slf C fs) ∧ q fs) → Q .non H' := fun {F' H' σ' ss' t'} r' h' => by
    obtain ⟨fs, h1, h2⟩ := h'
    obtain ⟨p', g1, g2, g3⟩ := r'.slm 0 C fs h1
    obtain ⟨p2, dx2, fv, k1, _, k3, k4⟩ := r'.env.slf 0 C fs h1
    rw [g1] at k1
    cases k1
    have e2 : p' = p := List.mem_singleton.mp g3
    subst e2
    exact k fv fs dx2 F' H' r'.gr g2 k3 k4 h2
  rw [es]
  refine hs ⟨[p], F, H, none⟩ _ F H _ (.slf C [] :: stS N.length ds) 0 _ ⟨.refl e, ⟨by rw [List.length_cons, List.length_cons, en.len], fun i d q' => ?_, fun i q' => ?_, fun i D fs q' => ?_, fun i q' => (by
    rcases up i _ q' with ⟨_, z⟩ | ⟨j, rfl, z⟩
    · cases z
    · rcases stS_no z with ⟨d, z⟩ | z <;> cases z)⟩, fun i es q' ho => ?_, fun i D fs q' => ?_, fun i j q' hi hj _ _ => (only i hi).trans (only j hj).symm, fun P q' => (by cases q'), fun i v B0 q' => ?_⟩ (hw ds q x hT)
    ⟨fun F' H' σ' ss' t' _ r' h' => leave r' h', fun v d F' H' t' _ f hv h' => h'.elim, fun _ _ _ _ _ _ _ h' => h'.elim, fun _ _ _ _ _ _ _ h' => h'.elim, fun X dd fv F' H' t' _ f h1 h2 h3 => kx X dd fv F' H' f.gr (keepF f) (keepX f) h1 h2 h3⟩
  · rcases up i _ q' with ⟨_, z⟩ | ⟨j, rfl, z⟩
    · cases z
    · obtain ⟨v, h1, h2⟩ := en.val j d z
      exact ⟨v, by simpa using h1, h2⟩
  · rcases up i _ q' with ⟨_, z⟩ | ⟨j, rfl, z⟩
    · cases z
    · rcases stS_no z with ⟨d, z⟩ | z <;> cases z
  · rcases up i _ q' with ⟨rfl, z⟩ | ⟨j, rfl, z⟩
    · cases z
      exact ⟨p, dx, [], rfl, (fun z => by cases z), hp, .nil⟩
    · rcases stS_no z with ⟨d, z⟩ | z <;> cases z
  · rcases up i _ q' with ⟨_, z⟩ | ⟨j, rfl, z⟩
    · subst z; cases ho
    · rcases stS_no z with ⟨d, z⟩ | z <;> (subst z; cases ho)
  · rcases up i _ q' with ⟨rfl, z⟩ | ⟨j, rfl, z⟩
    · exact ⟨p, rfl, fp, List.mem_cons_self⟩
    · rcases stS_no z with ⟨d, z⟩ | z <;> cases z
  · rcases up i _ q' with ⟨_, z⟩ | ⟨j, rfl, z⟩
    · cases z
    · rcases stS_no z with ⟨d, z⟩ | z <;> cases z
/-! methods -/
def wMeth (C : Addr) (m : Str) (T : Tp) (a : WE) (wa : WA) : WE := fun ss t q x => a ss t (fun d t1 => match d with
  | .obj C' fs => C' = C ∧ fs.lookup m = none ∧ wa ss t1 (fun ds t2 => T (d :: ds) (fun r => q r t2) fun X => x X t2) x
  | _ => False) x
theorem sn_meth {m : Str} {T : Tp} (ho : Snd K E te we) (h : SndA K E ta wa) : Snd K E (tMeth C m (spT K T) [] E te ta) (wMeth C m T we wa) := fun pp F H σ ss t Q q x r hw X k =>
  ho pp F H σ ss t _ _ x r hw X fun v d t1 F1 H1 s1 hv h1 => by
    split at h1
    · rename_i C' fs
      obtain ⟨rfl, hm, h1⟩ := h1
      obtain ⟨a, dx, fv, rfl, g1, g2⟩ := rp_obj hv
      refine ⟨a, dx, fv, rfl, s1.fh _ _ g1, rpF_none g2 hm, ?_⟩
      refine h pp F1 H1 σ ss t1 _ _ x (r.step s1) h1 (X.step s1) fun vs ds t2 F2 H2 s2 hvs h2 => ?_
      refine ⟨F2, _, _, _, s2.fh, ?_, h2, fun w d F3 H3 s3 h4 hq => k w d t2 F3 H3 ((s1.trans s2).trans (.of s3 s2.pen)) h4 hq, fun Y dd gv F3 H3 s3 h4 h5 hx => X Y dd gv F3 H3 t2 ((s1.trans s2).trans (.of s3 s2.pen)) h4 h5 hx⟩
      rw [List.append_nil]
      exact .cons (rp_mono s2.ff hv) hvs
    · exact h1.elim
end
/-! errors of two fields -/
def spIni2 (C : Addr) (f g : Str) : Sp := fun vs H Q _ => ∃ a x y, vs = [.ref a, x, y] ∧ H a = some (exo a C none) ∧ ∀ d, H d = none → d ≠ a → Q .non (upd (upd (upd H d (exd d [(f, x)])) a (exo a C (some d))) d (exd d [(g, y), (f, x)]))
theorem ini2_reading {K : PySem.W.Frag} {C : Addr} {f g : Str} {N : List Str} {vs : List V} {H : Hp} {Q : VK} {E : XK} (T : OexC K C) (nf : PySem.W.findIn K (.ref C) f = some none) (ng : PySem.W.findIn K (.ref C) g = some none) (h : spIni2 C f g vs H Q E) (e : ∀ a x y : V, L2.start N [a, x, y] = [some a, some x, some y]) :
    tSeq (tOst K f (tVar 0) (tVar 1)) (tOst K g (tVar 0) (tVar 2)) { nx := fun _ H' => Q .non H', rt := Q } (L2.start N vs) H := by
  obtain ⟨a, x, y, rfl, ha, q⟩ := h
  rw [e]
  refine ⟨x, rfl, .ref a, rfl, a, C, rfl, T, nf, .inl ⟨ha, fun d hd hne => ⟨y, rfl, .ref a, rfl, a, C, rfl, T, ng, .inr ⟨d, [(f, x)], upd_same, by rw [upd_ne hne, upd_same], (show 1 ≤ 900 by decide), q d hd hne⟩⟩⟩⟩
theorem made_heap2 {G : Hp} {a d : Addr} {o1 o2 o3 o4 u : HO} (ga : G a = none) (hd : d ≠ a) : upd (del (upd (upd (upd (upd G a o1) d o2) a o3) d o4) a) d u = upd G d u := by
  funext b
  by_cases e : b = d
  · rw [e, upd_same, upd_same]
  · rw [upd_ne e, upd_ne e]
    by_cases c : b = a
    · rw [c, del_same, ga]
    · rw [del_ne c, upd_ne e, upd_ne c, upd_ne e, upd_ne c]
def wRaise2 (C : Addr) (f g : Str) (e u : WE) : WS := fun ss t P => e ss t (fun d t1 => u ss t1 (fun d2 t2 => P.x ⟨C, [(g, d2), (f, d)]⟩ t2) P.x) P.x
theorem sb_raise2 {K : PySem.W.Frag} {E : XK} {te tu : TE} {we wu : WE} {C : Addr} {f g : Str} (h : Snd K E te we) (h2 : Snd K E tu wu) : SndB K E (fun _ σ H => tMkO C (spIni2 C f g) [] (tCons te (tCons tu tNil)) σ H fun cls d H' => E cls d H') (wRaise2 C f g we wu) := fun B D F H σ ss t P r hw k =>
  h B.pp F H σ ss t _ _ _ r.toE hw (k.xok r) fun v d t1 F2 H2 s hv h1 => by
    refine h2 B.pp F2 H2 σ ss t1 _ _ _ (r.step s).toE h1 ((k.xok r).step s) fun v2 d2 t2 F3 H3 s3 hv2 h3 => ⟨by show 2 ≤ 1000; decide, fun a ha => ⟨a, v, v2, rfl, upd_same, fun dd hd hne => ⟨rfl, dd, [(g, v2), (f, v)], by rw [upd_ne (Ne.symm hne), upd_same], upd_same, by rwa [upd_ne hne] at hd, ?_⟩⟩⟩
    rw [upd_ne hne] at hd
    rw [made_heap2 ha hne]
    have s13 := s.trans s3
    have r2 := (r.step s13).newF (o := .xd [(g, v2), (f, v)]) hd
    have m := same_new (o := .xd [(g, v2), (f, v)]) (fresh_back (r.step s13).fh hd)
    exact k.x ⟨C, [(g, d2), (f, d)]⟩ dd [(g, v2), (f, v)] _ _ t2 (s13.ff.trans m) r2.fin upd_same (.cons (rp_mono m hv2) (.cons (rp_mono (s3.ff.trans m) hv) .nil)) h3
end E
namespace E
open L2 PySem PySem.Spec PyProof.Rows DL
variable [Tb]
theorem pe_gint {X : Cx} {x : Str} {i : Int} {pos : Pos} (hg : Gl X x) (hm : ∃ t, X.mg x = some (.int i t)) (hd : (x == ("__debug__" : Str)) = false := by decide) : PE X (.Name x pos) (tC (.int i)) := by
  obtain ⟨t, hm⟩ := hm
  exact pe_glob hg hm ⟨_, rfl⟩ hd
theorem spI_len {K : PySem.W.Frag} {C : Addr} {T : Tpi} {vs : List V} {H : Hp} {Q : VK} {E : XK} {n : Nat} (h : spI K C T vs H Q E) (hl : ∀ ds q x, T ds q x → ds.length + 1 = n) : vs.length = n := by
  obtain ⟨F, p, dx, ws, ds, q, x, rfl, _, _, _, h2, h3, _⟩ := h
  rw [List.length_cons, rpA_len h2]
  exact hl ds q x h3
end E

set_option Elab.async false
set_option linter.all false
set_option maxRecDepth 100000
set_option maxHeartbeats 2000000
/-! comprehensions of two fors -/
namespace E
open L2 PySem PySem.Spec PyProof.Rows DL
open Evl (sq_of st_of sz_of sz_lt)
variable [Tb]
def wLc2 (wi : WA) (g : WG) (wt : WT) (wi1 : WA) (g1 : WG) (wt1 : WT) (we : WE) (vs vs1 : List Nat) : WA := fun ss t q x => wi ss t (fun ds t1 => ∃ I : Nat → List Dt → Int → Prop, I 0 [] t1 ∧
  (∀ i d acc tt, ds[i]? = some d → I i acc tt → g d (wipeE ss vs) fun s2 => wt s2 tt (fun b t2 => if b = true then wi1 s2 t2 (fun es t3 => ∃ I1 : Nat → List Dt → Int → Prop, I1 0 acc t3 ∧
    (∀ j e acc tt, es[j]? = some e → I1 j acc tt → g1 e (wipeE s2 vs1) fun s3 => wt1 s3 tt (fun b t4 => if b = true then we s3 t4 (fun z t5 => acc.length < 100000 ∧ I1 (j + 1) (acc ++ [z]) t5) (fun _ _ => False) else I1 (j + 1) acc t4) (fun _ _ => False)) ∧
    ∀ acc tt, I1 es.length acc tt → I (i + 1) acc tt) (fun _ _ => False) else I (i + 1) acc t2) (fun _ _ => False)) ∧
  ∀ acc tt, I ds.length acc tt → q acc tt) x
theorem minus_self {H : Hp} {L a : Addr} {o : HO} (n : a ≠ L) (h : H a = some o) : minus H L a = some o := by rw [minus_ne n]; exact h
theorem nn_lc2 {K : PySem.W.Frag} {E : XK} {ti ti1 : TI} {wi wi1 : WA} {g g1 : TG} {wg wg1 : WG} {tt tt1 : TT} {wt wt1 : WT} {te : TE} {we : WE} {vs vs1 : List Nat} (hi : SndI K E ti wi) (hg : SndG K vs g wg) (ht : SndT K E tt wt) (hi1 : SndI K E ti1 wi1) (hg1 : SndG K vs1 g1 wg1) (ht1 : SndT K E tt1 wt1) (he : Snd K E te we) :
    SndN K E (tLc2 ti g tt ti1 g1 tt1 te vs vs1) (wLc2 wi wg wt wi1 wg1 wt1 we vs vs1) := fun pp F H σ ss t Q q x r hw X k =>
  hi pp F H σ ss t _ _ x r hw X fun J ds t1 F1 H1 s1 w hw => by
    obtain ⟨I, h0, hs, hd⟩ := hw
    intro L hL
    have r1 := r.step s1
    have hpL : L ∉ pl pp := fun z => by
      obtain ⟨P, e, h⟩ := pl_mem z
      exact (r1.pen P e).there h hL
    have penUp : ∀ {F H : Hp} {t : Int} {p : Pi}, PenAt K F (minus H L) p t → PenAt K F H p t := fun {F H t p} h => by
      obtain ⟨g1, ⟨g0, g6⟩, tt, rr, g2, g3⟩ := h
      exact ⟨g1, ⟨g0, g6.up g6.1 minus_le⟩, tt, rr, minus_le _ _ g2, g3⟩
    refine ⟨fun i m H => i + m = ds.length ∧ ∃ F3 xs acc tt, StE K pp F1 H1 F3 (minus H L) tt ∧ H L = some (.lst xs) ∧ RpA K F3 xs acc ∧ I i acc tt, ⟨ds.length, by omega, F1, [], [], t1, ?_, upd_same, .nil, h0⟩, ?_⟩
    · rw [minus_upd, minus_new hL]
      exact r1.refl
    · rintro i m H ⟨em, F3, xs, acc, t3, s3, eL, hacc, hI⟩
      have fH : Same F3 H := s3.fh.trans minus_le
      have hLs : ∃ xs, H L = some (.lst xs) := ⟨_, eL⟩
      have hLp : ∀ {H' : Hp} {F F' : Hp} {t' : Int}, StE K pp F H F' H' t' → H' L = some (.lst xs) := fun s => s.gr.hh _ _ hpL eL
      have r3 : RelE K pp F3 H (wipe σ vs) (wipeE ss vs) t3 := by
        have r3' := r1.step s3
        exact ⟨fH, (r3'.env.mono (.refl _) fun a o _ h => minus_le a o h).wipe vs, fun p e => penUp (s3.pen p e)⟩
      by_cases hi : i < ds.length
      · refine .inr ⟨w.go i H (s3.ff.trans fH) hi, fun H => ∃ F3 xs acc tt, StE K pp F1 H1 F3 (minus H L) tt ∧ H L = some (.lst xs) ∧ RpA K F3 xs acc ∧ I (i + 1) acc tt, fun H' hN => ⟨m - 1, by omega, by omega, hN⟩, fun y H' hy => ?_⟩
        have hd' := List.getElem?_eq_getElem hi
        obtain ⟨F4, s4, hy⟩ := w.yld i H y H' F3 s3.ff fH hy _ hd'
        have s4e := r3.stp s4
        have r4 := r3.step s4e
        have s34 := stE_minus s3 s4e hLs hpL
        refine hg (fun σ2 ss2 => EnvE K pp F4 H' σ2 ss2 ∧ wipe σ2 vs = wipe σ vs) F4 H' y _ (wipe σ vs) (wipeE ss vs) _ _ r4.fh ⟨fun σ2 s2 j v d h hj hv => ⟨h.1.set hv, wipe_set hj h.2⟩⟩ ⟨r4.env, wipe_wipe⟩ hy (hs i _ acc t3 hd' hI) fun σ2 ss2 h2 hk => ⟨h2.2, ?_⟩
        have r4' : RelE K pp F4 H' σ2 ss2 t3 := ⟨r4.fh, h2.1, r4.pen⟩
        refine ht pp F4 H' σ2 ss2 t3 _ _ _ r4' hk xok_none fun b t5 F5 H5 s5 hb => ?_
        have hLs4 : ∃ xs, H' L = some (.lst xs) := ⟨_, hLp s4e⟩
        have s35 := stE_minus s34 s5 hLs4 hpL
        cases b with
        | false =>
          rw [if_neg Bool.false_ne_true] at hb ⊢
          exact ⟨F5, xs, acc, t5, s35, hLp (s4e.trans s5), rpA_mono (s4.ff.trans s5.ff) hacc, hb⟩
        | true =>
          rw [if_pos rfl] at hb ⊢
          have r5 := r4'.step s5
          refine hi1 pp F5 H5 σ2 ss2 t5 _ _ _ r5 hb xok_none fun J1 es t6 F6 H6 s6 w1 hw1 => ?_
          obtain ⟨I1, q0, qs, qd⟩ := hw1
          have e6 : H6 L = some (.lst xs) := hLp ((s4e.trans s5).trans s6)
          have s36 := stE_minus s35 s6 ⟨_, hLp (s4e.trans s5)⟩ hpL
          have r6 := r5.step s6
          have env6 : EnvE K pp F6 (minus H6 L) σ2 ss2 := ⟨r6.env.len, r6.env.val, r6.env.pen, fun i C fs q => by
            obtain ⟨p, dx, fv, k1, k2, k3, k4⟩ := r6.env.slf i C fs q
            exact ⟨p, dx, fv, k1, k2, minus_self (fun z => by rw [z, e6] at k3; cases k3) k3, k4⟩, r6.env.gho⟩
          refine ⟨fun j k H => j + k = es.length ∧ ∃ F7 xs acc tt, StE K pp F6 (minus H6 L) F7 (minus H L) tt ∧ H L = some (.lst xs) ∧ RpA K F7 xs acc ∧ I1 j acc tt, ⟨es.length, by omega, F6, xs, acc, t6, ⟨.refl s36.fh, s36.pen⟩, e6, rpA_mono ((s4.ff.trans s5.ff).trans s6.ff) hacc, q0⟩, ?_⟩
          rintro j m1 G ⟨em1, F7, ys, acc1, t7, s7, eL7, hacc1, hI1⟩
          have fG : Same F7 G := s7.fh.trans minus_le
          have gLs : ∃ xs, G L = some (.lst xs) := ⟨_, eL7⟩
          have gLp : ∀ {H' : Hp} {F F' : Hp} {t' : Int}, StE K pp F G F' H' t' → H' L = some (.lst ys) := fun s => s.gr.hh _ _ hpL eL7
          have r7 : RelE K pp F7 G (wipe σ2 vs1) (wipeE ss2 vs1) t7 := ⟨fG, ((env6.mono s7.ff s7.gr.hh).mono (.refl _) fun a o _ h => minus_le a o h).wipe vs1, fun p e => penUp (s7.pen p e)⟩
          by_cases hj : j < es.length
          · refine .inr ⟨w1.go j G (s7.ff.trans fG) hj, fun H => ∃ F7 xs acc tt, StE K pp F6 (minus H6 L) F7 (minus H L) tt ∧ H L = some (.lst xs) ∧ RpA K F7 xs acc ∧ I1 (j + 1) acc tt, fun H' hN => ⟨m1 - 1, by omega, by omega, hN⟩, fun z G' hz => ?_⟩
            have hj' := List.getElem?_eq_getElem hj
            obtain ⟨F8, s8, hz⟩ := w1.yld j G z G' F7 s7.ff fG hz _ hj'
            have s8e := r7.stp s8
            have r8 := r7.step s8e
            have s78 := stE_minus s7 s8e gLs hpL
            refine hg1 (fun σ3 ss3 => EnvE K pp F8 G' σ3 ss3 ∧ wipe σ3 vs1 = wipe σ2 vs1) F8 G' z _ (wipe σ2 vs1) (wipeE ss2 vs1) _ _ r8.fh ⟨fun σ2 s2 j v d h hj hv => ⟨h.1.set hv, wipe_set hj h.2⟩⟩ ⟨r8.env, wipe_wipe⟩ hz (qs j _ acc1 t7 hj' hI1) fun σ3 ss3 h3 hk3 => ⟨h3.2, ?_⟩
            have r8' : RelE K pp F8 G' σ3 ss3 t7 := ⟨r8.fh, h3.1, r8.pen⟩
            refine ht1 pp F8 G' σ3 ss3 t7 _ _ _ r8' hk3 xok_none fun b1 t9 F9 H9 s9 hb1 => ?_
            have s79 := stE_minus s78 s9 ⟨_, gLp s8e⟩ hpL
            cases b1 with
            | false =>
              rw [if_neg Bool.false_ne_true] at hb1 ⊢
              exact ⟨F9, ys, acc1, t9, s79, gLp (s8e.trans s9), rpA_mono (s8.ff.trans s9.ff) hacc1, hb1⟩
            | true =>
              rw [if_pos rfl] at hb1 ⊢
              refine he pp F9 H9 σ3 ss3 t9 _ _ _ (r8'.step s9) hb1 xok_none fun u e ta Fa Ha sa hu hIa => ?_
              have s7a := stE_minus s79 sa ⟨_, gLp (s8e.trans s9)⟩ hpL
              have eLa := gLp ((s8e.trans s9).trans sa)
              exact ⟨ys, eLa, sz_lt (by have h100 : acc1.length < 100000 := hIa.1; rw [rpA_len hacc1]; omega), Fa, ys ++ [u], acc1 ++ [e], ta, by rw [minus_upd]; exact s7a, upd_same, rpA_app (rpA_mono ((s8.ff.trans s9.ff).trans sa.ff) hacc1) (.cons hu .nil), hIa.2⟩
          · have : j = es.length := Nat.le_antisymm (by omega) (Nat.le_of_not_lt hj)
            subst this
            exact .inl ⟨w1.stop G (s7.ff.trans fG), F7, ys, acc1, t7, s36.trans s7, eL7, hacc1, qd acc1 t7 hI1⟩
      · have : i = ds.length := by omega
        subst this
        refine .inl ⟨w.stop H (s3.ff.trans fH), ?_⟩
        have := k L xs acc t3 F3 (minus H L) (s1.trans s3) minus_at hacc (hd acc t3 hI)
        rw [upd_minus eL] at this
        exact this
theorem pg_tupK {X : Cx} {K : PySem.W.Frag} {es : List Expr} {k : Nat} {t : TGs} {n : Nat} {pos : Pos} (hK : X.K = K) (hc : X.calm = true) (h : PGs X es t)
    (hn : (assignEach es X.env).length = n := by rfl) (hst : (assignEach es X.env).findIdx? (·.1) = none := by rfl) : PG X (.Tuple es k pos) (gTup K n t) := hK ▸ pg_tup hc h hn hst
end E

set_option Elab.async false
set_option linter.all false
set_option maxRecDepth 100000
set_option maxHeartbeats 2000000
/-! == of own objects, by the class's own __eq__ -/
namespace E
open L2 PySem PySem.Spec PyProof.Rows DL
variable [Tb]
/-- what the own == of the class at C gives of two of its instances -/
def rOwnEq (C : Addr) (sp : Sp) (E : XK) : R2 := fun x y H Q => ∃ a dx fs b dy gs, x = .ref a ∧ y = .ref b ∧ H a = some (.ins C dx fs) ∧ H b = some (.ins C dy gs) ∧ sp [x, y] H (fun v H' => (∃ k, v = .bl k) ∧ Q v H') E
theorem op_ownEq {X : Cx} {CX : CXT} {n : Nat} {C f : Addr} {fd : FuncData} {ps : List Str} {sp : Sp} {E : XK} (F : FnOk X.prog X.w X.K X.mg X.base CX n f fd ps sp) (hs : PySem.W.findIn X.K (.ref C) "__eq__" = some (some (.ref f))) (hf : PySem.W.isFn X.K (.ref f) = true)
    (hb : Binds X.K fd ps []) (hx : Passes CX X E) (hr : Room n X.A) : OpR X (compareOp .Eq) (rOwnEq C sp E) := by
  intro pins s σ H x y v u Q I rx ry hq
  obtain ⟨a, dx, fs, b, dy, gs, rfl, rfl, ha, hb', h⟩ := hq
  cases rx
  cases ry
  obtain ⟨mA, J, _⟩ := ins_get I.hok ha
  obtain ⟨mB, J', _⟩ := ins_get I.hok hb'
  obtain ⟨od, J, _⟩ := J.look
  obtain ⟨od', J', _⟩ := J'.look
  obtain ⟨m, hF⟩ := I.fr
  show wpAny (model X.prog X.w) X.A (richCompare .Eq (.ref a) (.ref b)) (EP X pins σ Q) X.xe s
  refine PySem.W.cmp_K (op := .Eq) (tb := .ref C) hr.units0 hF I.ok.mod.kin J J'.type (by simp [PySem.W.notFirst]) hs hf ?_
  refine wpAny_mono (run_fn (us := [.ref a, .ref b]) (vs := [.ref a, .ref b]) F hr hb .nil hx I (.cons rfl (.cons rfl .nil)) h) (fun r s' z => ?_) fun _ _ z => z
  obtain ⟨w, H', I', rv, ⟨k, rfl⟩, q⟩ := z
  obtain rfl : r = Value.bool k := rv
  exact ⟨.bl k, H', I', rfl, q⟩
/-- over data: two of the class at C -/
def wOwnEq (C : Addr) (T : Tp) : W2 := fun d e q => match d, e with
  | .obj C1 fs, .obj C2 gs => C1 = C ∧ C2 = C ∧ T [.obj C1 fs, .obj C2 gs] (fun r => match r with
    | .bl k => q (.bl k)
    | _ => False) fun _ => False
  | _, _ => False
theorem sr_ownEq {K : PySem.W.Frag} {C : Addr} {T : Tp} : SndR K (rOwnEq C (spT K T) E0) (wOwnEq C T) := fun F H x y a b Q q f hx hy h k => by
  unfold wOwnEq at h
  split at h
  · rename_i C1 fs C2 gs
    obtain ⟨rfl, rfl, h⟩ := h
    obtain ⟨p1, dx, fv, rfl, g1, g2⟩ := rp_obj hx
    obtain ⟨p2, dy, gv, rfl, g3, g4⟩ := rp_obj hy
    refine ⟨p1, dx, fv, p2, dy, gv, rfl, rfl, f _ _ g1, f _ _ g3, F, _, _, _, f, .cons hx (.cons hy .nil), h, fun v d F2 H2 s hv hq => ?_, fun _ _ _ _ _ _ _ _ z => z.elim⟩
    split at hq
    · rename_i k1
      rw [rp_bl hv]
      exact ⟨⟨k1, rfl⟩, k _ (.bl k1) F2 H2 s (.bl k1) hq⟩
    · exact hq.elim
  · exact h.elim
theorem two_of {d : Dt} {ns : List Int} (h : nums d = some ns) : d = lI ns ∨ d = tI ns := by
  cases d with
  | lst ds => exact .inl (congrArg Dt.lst (unI_eq (show unI ds = some ns from h)))
  | tup ds => exact .inr (congrArg Dt.tup (unI_eq (show unI ds = some ns from h)))
  | _ => cases h
end E

set_option Elab.async false
set_option linter.all false
set_option maxRecDepth 100000
set_option maxHeartbeats 2000000
/-! a method that says super().m(..) first: entered, its first statement read -/
namespace Su
open L2 PySem PySem.Spec PyProof.Rows DL
structure ScS (N P : List Str) (sc : Scope) : Prop where
  kind : sc.kind = .function
  co : sc.isCoroutine = false
  gen : sc.isGenerator = false
  nd : N.Nodup
  pre : N.take P.length = P
  par : ∀ x ∈ P, sc.names.lookup x = some .local
  nocell : ∀ y ∈ sc.names, y.2 ≠ .cell
  free : ∀ y ∈ sc.names, y.2 = .free → y.1 = ("__class__" : Str)
  sup : sc.names.lookup ("super" : Str) = some .globalImplicit
  cls : sc.names.lookup ("__class__" : Str) = some .free
abbrev cxS (CX : CXT) (P : Program) (w : World) (K : PySem.W.Frag) (mg : Str → Option Value) (base : Heap) (N : List Str) (qual : Str) (scope : Scope) (f : Addr) (cd : Value) (cc : Addr) (A : Around) (outer : List Env) (s : Shared) (H : Hp) (E : XK) : Cx where
  prog := P
  w := w
  K := K
  mg := mg
  base := base
  A := A.deeper (PySem.W.ksEnv qual scope s.heap.objs.size f cd cc)
  N := N
  s_0 := s
  H_0 := H
  env := PySem.W.ksEnv qual scope s.heap.objs.size f cd cc
  outer := outer
  stack := PySem.W.ksEnv qual scope s.heap.objs.size f cd cc :: outer
  ex := []
  calm := true
  fn := fun _ => false
  pn := []
  xe := fun e s' => wpAny (model P w) (A.deeper (PySem.W.ksEnv qual scope s.heap.objs.size f cd cc)) (leaving (PySem.W.ksEnv qual scope s.heap.objs.size f cd cc) e) (fun _ s'' => CX outer H s E e s'') (fun e' s'' => CX outer H s E e' s'') s'
theorem lk_mem {α : Type} {x : Str} {u : α} : ∀ {l : List (Str × α)}, (l.map (·.1)).Nodup → (x, u) ∈ l → l.lookup x = some u
  | [], _, h => by cases h
  | (y, v) :: r, nd, h => by
    rw [List.map_cons, List.nodup_cons] at nd
    rw [List.lookup_cons]
    rcases List.mem_cons.mp h with e | h2
    · cases e; rw [beq_self_eq_true]
    · have : (x == y) = false := by
        rw [beq_eq_false_iff_ne]
        rintro rfl
        exact nd.1 (List.mem_map.mpr ⟨_, h2, rfl⟩)
      rw [this]
      exact lk_mem nd.2 h2
theorem zip_sub : ∀ (P : List Str) (us : List Value), List.Sublist ((P.zip us).map (·.1)) P
  | [], _ => by simp
  | _ :: _, [] => by simp
  | p :: P, u :: us => by rw [List.zip_cons_cons, List.map_cons]; exact (zip_sub P us).cons_cons p
theorem lk_zip {P : List Str} {us : List Value} {i : Nat} {x : Str} {u : Value} (nd : P.Nodup) (h1 : P[i]? = some x) (h2 : us[i]? = some u) : (P.zip us).reverse.lookup x = some u := by
  refine lk_mem ?_ ?_
  · rw [List.map_reverse]
    refine List.pairwise_reverse.mpr (List.Pairwise.imp (fun h => Ne.symm h) ?_)
    exact List.Nodup.sublist (zip_sub P us) nd
  · rw [List.mem_reverse]
    refine List.mem_of_getElem? (i := i) ?_
    rw [List.getElem?_zip_eq_some]
    exact ⟨h1, h2⟩
section
variable {CX : CXT} {P : Program} {w : World} {K : PySem.W.Frag} {mg : Str → Option Value} {base : Heap} {N ps : List Str} {qual : Str} {scope : Scope} {f cc D : Addr} {cd : Value} {A : Around} {outer : List Env} {s s1 : Shared} {H : Hp} {E : XK} {us : List Value} {vs : List V}
theorem inv_startS {h0 : Heap} {tk : Nat} {cl : Value} {cld : Option Addr} {csl : Array (Option Value)} (S : ScS N ps scope) (hd : A.handled = none) (e0 : Env0 P w K mg base A outer s H) (hl : vs.length = ps.length) (r : Vals vs us) (hcc : K.lookup cc = some ⟨cl, cld, .cell (some (.ref D)), csl⟩)
    (hns : h0.Ns s.heap.objs.size (fun x => (ps.zip us).reverse.lookup x)) (hk : ∀ b o, s.heap.get? b = some o → h0.get? b = some o) :
    Inv (cxS CX P w K mg base N qual scope f cd cc A outer s H E) [] (L2.start N vs) H { s with heap := h0, toks := tk } := by
  have hpl : ps.length ≤ N.length := by have := congrArg List.length S.pre; rw [List.length_take] at this; omega
  have hbc := e0.mod.kin _ _ hcc
  obtain ⟨hsc, hHc⟩ := e0.bs _ _ hbc
  have only : ∀ x c, List.lookup x [(("__class__" : Str), cc)] = some c → x = ("__class__" : Str) ∧ c = cc := fun x c h => by
    rw [List.lookup_cons] at h
    split at h
    · rename_i e
      cases h
      exact ⟨beq_iff_eq.mp e, rfl⟩
    · cases h
  have noA : ∀ b : Addr, b ∉ (cxS CX P w K mg base N qual scope f cd cc A outer s H E).ex := fun b z => absurd (show b ∈ ([] : List Addr) from z) (by simp)
  refine ⟨⟨e0.mod, S.kind, rfl, rfl, Nat.le_refl _, fun y z c h1 h2 => ?_, fun y hy => ?_, fun y c h => (by cases h), fun _ => hd, Around.frames_deeper e0.frames, .inr ⟨rfl, rfl⟩, fun b z => absurd z (noA b), e0.bs, e0.bsz, fun b _ _ => noA b, fun b z => absurd z (noA b), e0.funs, e0.frf⟩,
    rfl, e0.bare, Un.kept hk, ⟨_, hns, fun i y v h1 h2 h3 => ?_⟩, fun y c h => ?_, e0.hok.fresh (Nat.le_refl _), fun y c h => ?_, fun p hp => absurd (show p ∈ ([] : List (Addr × Obj)) from hp) (by simp), e0.hok.kept hk, ?_⟩
  · rw [(only y c h1).1, (only z c h2).1]
  · have hy : scope.names.lookup y = some .cell ∨ scope.names.lookup y = some .free := hy
    rcases hy with hy | hy
    · exact absurd rfl (S.nocell _ (PySem.mem_of_lookup hy))
    · have e := S.free _ (PySem.mem_of_lookup hy) rfl
      exact ⟨cc, by show List.lookup y [(("__class__" : Str), cc)] = some cc; rw [show y = ("__class__" : Str) from e, List.lookup_cons, beq_self_eq_true]⟩
  · have hi : i < vs.length := by
      unfold L2.start at h2
      by_cases hi : i < vs.length
      · exact hi
      · rw [List.getElem?_append_right (by simpa using hi)] at h2
        rw [List.getElem?_replicate] at h2
        split at h2 <;> cases h2
    have ha : vs[i]? = some v := by
      unfold L2.start at h2
      rw [List.getElem?_append_left (by simpa using hi), List.getElem?_map] at h2
      cases e : vs[i]? with
      | none => rw [e] at h2; cases h2
      | some a => rw [e] at h2; cases h2; rfl
    obtain ⟨u, hu, rv⟩ := r.get ha
    have hp : ps[i]? = some y := by
      rw [← S.pre, List.getElem?_take_of_lt (by omega)]; exact h1
    have ndP : ps.Nodup := by rw [← S.pre]; exact S.nd.sublist (List.take_sublist _ _)
    exact ⟨u, rv, .inl ⟨S.par y (List.mem_of_getElem? hp), lk_zip ndP hp hu⟩⟩
  · obtain ⟨_, rfl⟩ := only y c h
    exact ⟨_, _, hk _ _ hsc, rfl⟩
  · obtain ⟨_, rfl⟩ := only y c h
    exact hHc
  · unfold L2.start
    show _ = N.length
    rw [List.length_append, List.length_map, List.length_replicate]
    omega
end
/-- statements st at the end of a def's body B -/
def PSsAt (X : Cx) (B st : List Stmt) (t : TS) : Prop := ∀ (pins : List (Addr × Obj)) (s : Shared) (σ : L2.St) (H : Hp) (D : Ends), Inv X pins σ H s → t D σ H → _root_.PySem.wpAt (model X.prog X.w) X.A (.func B X.env) (execs st X.env) (SP X pins D) X.xe s
theorem PSsAt.of {X : Cx} {B st : List Stmt} {t : TS} (h : PSs X st t) : PSsAt X B st t := fun pins s σ H D I q => _root_.PySem.wpAt_of_wpAny (h.run pins s σ H D I q)
section
variable {CX : CXT} {P : Program} {w : World} {K : PySem.W.Frag} {mg : Str → Option Value} {base : Heap} {k : Nat} {f cc D : Addr} {name qual : Str} {params : Arguments} {body : List Stmt} {scope : Scope} {dV kV doc pm cdv ct oc : Value} {an od : Option Addr}
  {osl : Array (Option Value)} {N ps : List Str} {sp : Sp} {cl : Value} {cld : Option Addr} {csl : Array (Option Value)}
theorem run_bndS {A : Around} {outer : List Env} {s : Shared} {H : Hp} {args : Args} {Q : VK} {E : XK} {G : List V → Hp → Prop} (lk : K.lookup f = some ⟨oc, od, .func (PySem.W.ksFn name qual params body scope dV kV doc pm an cdv ct cc), osl⟩) (hcd : PySem.W.codeIn K cdv qual = true)
    (hcc : K.lookup cc = some ⟨cl, cld, .cell (some (.ref D)), csl⟩) (S : ScS N ps scope) (hr : Room (k + 1) A) (e0 : Env0 P w K mg base A outer s H) (hb : StX.Bnd CX P w K mg base (PySem.W.ksFn name qual params body scope dV kV doc pm an cdv ct cc) args ps A outer s H E G)
    (hbody : ∀ (s2 : Shared) (H2 : Hp) (vs : List V), G vs H2 → Room k (A.deeper (PySem.W.ksEnv qual scope s2.heap.objs.size f cdv cc)) →
      ∃ t, PSsAt (cxS CX P w K mg base N qual scope f cdv cc A outer s2 H2 E) body body t ∧ t { nx := fun _ H' => Q .non H', rt := Q } (L2.start N vs) H2) : codeAny (model P w) A (.call (.ref f) args) (CR CX outer P w H s Q E) s := by
  have KX : K.In s.heap := e0.mod.kin.keeps fun b o e => (e0.bs b o e).1
  refine codeAny_call_function hr.depth (KX _ _ lk) rfl S.co S.gen rfl (PySem.W.codeRec_of KX hcd) ?_
  refine hb _ _ _ fun s2 H2 vs us e2 un ho hx r hl g => ?_
  have lim : s2.heap.NoLimit := e0.mod.nolimit.keeps fun b o e => (e2.bs b o e).1
  have hloc : ∀ y ∈ ps.zip us, scope.names.lookup y.1 = some .local := fun y hy => S.par y.1 (List.of_mem_zip hy).1
  refine wpAny_newFunctionEnv S.nocell hloc (fun h0 hns hsb => ⟨lim.fresh _ hsb, ?_⟩) S.kind
  have hk : ∀ b o, s2.heap.get? b = some o → h0.get? b = some o := fun b o e => hsb.extBut b o (Nat.ne_of_lt (Heap.lt_size e)) (Heap.get?_push_of_some _ e)
  refine ks_codeAny_funcAt ?_
  obtain ⟨t, ht, hq⟩ := hbody s2 H2 vs g (hr.deeper _)
  have I : Inv (cxS CX P w K mg base N qual scope f cdv cc A outer s2 H2 E) [] (L2.start N vs) H2 { s2 with heap := h0, toks := s2.toks + (ps.zip us).length } := inv_startS S hr.hd e2 hl r hcc hns hk
  refine ks_wpAt_mono (ht [] _ _ _ _ I hq) (fun fl s' hs => ?_) fun e s' hs => ?_
  · have fin : ∀ {σ' : L2.St} {H' : Hp} {v' : V} {u' : Value}, Inv (cxS CX P w K mg base N qual scope f cdv cc A outer s2 H2 E) [] σ' H' s' → RelV v' u' → Q v' H' → CE outer P w H s Q u' s' :=
      fun {σ' H' v' u'} J rv' q => ⟨v', H', J.os.trans ho, J.bare, un.trans J.base, J.hok, rv', q⟩
    cases fl with
    | ret u' =>
      obtain ⟨v', σ', H', J, rv', q⟩ := hs
      exact fin J rv' q
    | next =>
      obtain ⟨σ', H', J, q⟩ := hs
      exact fin (v' := V.non) (u' := Value.none) J rfl q
    | brk =>
      obtain ⟨_, _, _, q⟩ := hs
      exact False.elim q
    | cont =>
      obtain ⟨_, _, _, q⟩ := hs
      exact False.elim q
  · exact wpAny_mono hs (fun _ s'' z => hx e s'' z) fun e' s'' z => hx e' s'' z
/-- without a star -/
theorem fn_super (lk : K.lookup f = some ⟨oc, od, .func (PySem.W.ksFn name qual params body scope dV kV doc pm an cdv ct cc), osl⟩) (hcd : PySem.W.codeIn K cdv qual = true) (hcc : K.lookup cc = some ⟨cl, cld, .cell (some (.ref D)), csl⟩) (S : ScS N ps scope)
    (len : ∀ vs H Q E, sp vs H Q E → vs.length = ps.length)
    (hbody : ∀ (A : Around) (outer : List Env) (s : Shared) (H : Hp) (vs : List V) (Q : VK) (E : XK), Room k (A.deeper (PySem.W.ksEnv qual scope s.heap.objs.size f cdv cc)) → sp vs H Q E →
      ∃ t, PSsAt (cxS CX P w K mg base N qual scope f cdv cc A outer s H E) body body t ∧ t { nx := fun _ H' => Q .non H', rt := Q } (L2.start N vs) H) :
    FnOk P w K mg base CX (k + 1) f (PySem.W.ksFn name qual params body scope dV kV doc pm an cdv ct cc) ps sp := by
  refine ⟨len, fun A outer s H args us vs Q E hr e0 hb r hsp => ?_⟩
  have hl := len _ _ _ _ hsp
  refine run_bndS lk hcd hcc S hr e0 (G := fun xs H2 => xs = vs ∧ H2 = H) (fun A' Ex Q' h => hb _ _ _ _ (h s H vs us e0 Un.refl rfl (fun _ _ z => z) r hl ⟨rfl, rfl⟩)) fun s2 H2 xs ⟨ex, eH⟩ hr' => ?_
  subst ex eH
  exact hbody A outer s2 _ _ Q E hr' hsp
/-- def f(a, .., *v) -/
theorem fn_superStar {pv : Str} (lk : K.lookup f = some ⟨oc, od, .func (PySem.W.ksFn name qual params body scope dV kV doc pm an cdv ct cc), osl⟩) (hcd : PySem.W.codeIn K cdv qual = true) (hcc : K.lookup cc = some ⟨cl, cld, .cell (some (.ref D)), csl⟩) (S : ScS N (ps ++ [pv]) scope) (hCX : StX.CXUp CX)
    (hb : ∀ us rest : List Value, us.length = ps.length → bindArgs (PySem.W.ksFn name qual params body scope dV kV doc pm an cdv ct cc) ⟨us ++ rest, []⟩ = (newTuple rest >>= fun t => pure (ps.zip us ++ [(pv, t)])))
    (hbody : ∀ (A : Around) (outer : List Env) (s : Shared) (H : Hp) (vs : List V) (Q : VK) (E : XK), Room k (A.deeper (PySem.W.ksEnv qual scope s.heap.objs.size f cdv cc)) → sp vs H Q E →
      ∃ t, PSsAt (cxS CX P w K mg base N qual scope f cdv cc A outer s H E) body body t ∧ t { nx := fun _ H' => Q .non H', rt := Q } (L2.start N vs) H) :
    FnR P w K mg base CX (k + 1) f (fun vs H Q E => ∃ ws rest, vs = ws ++ rest ∧ ws.length = ps.length ∧ rest.length ≤ sizeLine ∧ ∀ p, H p = Option.none → sp (ws ++ [V.ref p]) (upd H p (.tup rest)) Q E) := by
  intro A outer s H us vs Q E hr e0 r hsp
  obtain ⟨ws, rest, ev, hl, hz, hq⟩ := hsp
  subst ev
  obtain ⟨u1, u2, eu, r1, r2⟩ := StX.vals_split r
  subst eu
  have hn : H s.heap.objs.size = Option.none := e0.hok.fresh (Nat.le_refl _)
  have hl1 : u1.length = ps.length := by rw [← r1.length]; exact hl
  have hl2 : u2.length ≤ sizeLine := by rw [← r2.length]; exact hz
  refine run_bndS lk hcd hcc S hr e0 (G := fun xs H2 => ∃ p, H p = Option.none ∧ xs = ws ++ [V.ref p] ∧ H2 = upd H p (.tup rest)) (fun A' Ex Q' h => ?_) fun s2 H2 xs ⟨p, hp, ex, eH⟩ hr' => ?_
  · rw [hb u1 u2 hl1]
    refine wpAny_bind (wpAny_newTuple (wpAny_pure ?_) hl2)
    have new : ObjOk P w (upd H s.heap.objs.size (.tup rest)) (s.heap.push ({ cls := .type "tuple", data := .seq u2.toArray } : Obj)) s.heap.objs.size (.tup rest) := ⟨hz, u2, r2, ⟨_, Heap.get?_push_size _ rfl, rfl, _, rfl⟩⟩
    have un := StX.un_laid (fs := frs outer) (s := s) (o := ({ cls := .type "tuple", data := .seq u2.toArray } : Obj)) (u := .tup rest) hn
    have z := h _ _ (ws ++ [V.ref s.heap.objs.size]) (u1 ++ [Value.ref s.heap.objs.size]) (StX.env0_laid e0 new) un rfl (fun e s' => hCX outer s H _ _ E e s' un (fun b o q => Heap.get?_push_of_some _ q) rfl) (r1.append (.cons rfl .nil))
      (by rw [List.length_append, List.length_append, hl] <;> rfl) ⟨_, hn, rfl, rfl⟩
    rw [List.zip_append hl1.symm] at z
    exact z
  · subst ex eH
    exact hbody A outer s2 _ _ Q E hr' (hq p hp)
end
/-! ### super().m(e, ..) as the first statement -/
/-- what K and the program hold for a super() in the def at f, of the class at D -/
structure SupK (P : Program) (K : PySem.W.Frag) (f cda cc D : Addr) (slf : Str) : Prop where
  fn : ∃ oc od fd osl ar, K.lookup f = some ⟨oc, od, .func fd, osl⟩ ∧ (fd.params.posonlyargs ++ fd.params.args).head? = some ar ∧ ar.arg = slf
  code : ∃ oc od vs osl file tf, K.lookup cda = some ⟨oc, od, .fields vs, osl⟩ ∧ vs[2]? = some (.str file tf) ∧ ((P.main.file : Str) == file) = true
  cell : ∃ cl cld csl, K.lookup cc = some ⟨cl, cld, .cell (some (.ref D)), csl⟩
  cls : ∃ cd, PySem.W.clsIn K D = some cd
  top : (P.main.scope.names.lookup ("super" : Str)).isSome = false
  sta : PySem.W.nsIn K cStatics "thirdparty.any" = some none
/-- the method that super finds in instances of the class at C -/
structure SupM (K : PySem.W.Frag) (C D : Addr) (m : Str) (g : Addr) : Prop where
  at_ : PySem.W.ks_superIn K C D m = some (some (.ref g))
  sub : PySem.W.mroIn K C (.ref D) = some true
  ty : PySem.W.typeIn K (.ref g) = some (.type "function")
  fi : PySem.W.fnIn K g = true
def tSup (K : PySem.W.Frag) (D g : Addr) (m : Str) (sp : Sp) (E : XK) (ta : TA) (tr : TS) : TS := fun Ds σ H => ∃ x C dx fs, σ[0]? = some (some (V.ref x)) ∧ H x = some (.ins C dx fs) ∧ SupM K C D m g ∧
  ta σ H fun vs H1 => sp (V.ref x :: vs) H1 (fun _ H2 => tr Ds σ H2) E

section
variable {prog : Program} {w : World} {A : Around} {E : Value → Shared → Prop} {h : Heap} {g : Array GenState} {d : Drawn} {t : Nat} {os : OsState}
open PySem.W in
/-- the attribute of a super object, taken as a value (a call with a star) -/
theorem getAttr_super {so D x C f : Addr} {of : Obj} {l₀ l : List Value} {K : PySem.W.Frag} {name : Str} {b : Bool} {Q : Value → Shared → Prop}
    (hso : h.get? so = some { cls := .type "super", dict := none, data := .fields #[.ref D, .ref x, .ref C], slots := #[] }) (hno : PySem.W.Looks (model prog w) h (opaqueClassAbove (.ref C)) none)
    (hC : PySem.W.Looks (model prog w) h (mroOf (.ref C)) l₀) (hl : (l₀.dropWhile (· != .ref D)).drop 1 = l) (X : K.In h)
    (hf : PySem.W.alongIn K name l = some (some (.ref f))) (hfo : h.get? f = some of) (hfc : of.cls = .type "function") (hxC : x ≠ C) (hn : (name == ("__class__" : Str)) = false)
    (hq : Q (.ref h.objs.size) ⟨h.push { cls := .type "method", data := .fields #[.ref f, .ref x] }, g, d, t + 1, os⟩) :
    wpAny (model prog w) A (getAttr (.ref so) name b) Q E ⟨h, g, d, t, os⟩ := by
  have hlk := F.ks_slot_super_ga.lookup
  have hT : ∀ t', (⟨h, g, d, t', os⟩ : Shared).TypeIs (.ref so) "super" := fun _ => ⟨_, hso, rfl⟩
  unfold getAttr getAttrBy
  refine wpAny_bind (wpAny_mkText (wpAny_holding (wpAny_bind (wpAny_typeOf (hT _) (wpAny_bind (wpAny_of_eq hlk ?_))))))
  show wpAny _ _ (getAttrByItsOwn (.ref so) (.str name t) (.type "super") (.builtin "super.__getattribute__") true b) _ _ _
  unfold getAttrByItsOwn hookBefore callGetattribute boundAndCalled
  refine wpAny_bind (wpAny_of_eq (show (if onTheHeap (.type "super") then typeLookup (.type "super") "__getattr__" else pure none) = pure none from rfl) ?_)
  refine wpAny_bind (wpAny_attempt (wpAny_holding ?_))
  have hb : (b && onTheHeap (Value.builtin "super.__getattribute__")) = false := by cases b <;> rfl
  rw [if_neg (by rw [hb]; decide)]
  refine wpAny_bind (wpAny_of_eq (F.ks_slot_super_ga.bind _) ?_)
  refine wpAny_mono (Q := fun v s' => v = .ref h.objs.size ∧ s' = ⟨h.push { cls := .type "method", data := .fields #[.ref f, .ref x] }, g, d, t + 1, os⟩) (E := fun _ _ => False)
    (wpAny_call_entry F.ks_slot_super_ga (hT _) F.ks_entry_super_ga (ks_wpAny_super_ga hso hno hC hl X hf hfo hfc hxC hn ⟨_, rfl, rfl, rfl⟩) (F.ks_gaArgs_super _ _)) (fun v s' hv => ?_) fun _ _ z => z.elim
  obtain ⟨rfl, rfl⟩ := hv
  first
    | exact wpAny_pure hq
    | exact wpAny_pure (wpAny_pure hq)
    | exact hq
theorem at_starcall {body : List Stmt} {env : Env} {o e1 e2 : Expr} {m : Str} {p apos pos : Pos} {M : Model} {E : Value → Shared → Prop} {s : Shared} {Q : Value → Shared → Prop}
    (hst : starEach [e1, .Starred e2 p] env = [(false, eval e1 env), (true, eval e2 env)])
    (h : _root_.PySem.wpAt M A (.func body env) (attributeBase o m env (eval o env)) (fun ov s₁ => wpAny M A (getAttr ov m true) (fun f s₂ => wpAny M A (callWith pos f [] (backTo pos [(false, eval e1 env), (true, eval e2 env)]) []) Q E s₂) E s₁) E s) :
    _root_.PySem.wpAt M A (.func body env) (eval (.Call (.Attribute o m apos) [e1, .Starred e2 p] [] pos) env) Q E s := by
  have hke : backToKw pos (keywordEach [] env) = [] := rfl
  have hform : methodCallForm ([e1, Expr.Starred e2 p].length + ([] : List Keyword).length) (backTo pos [(false, eval e1 env), (true, eval e2 env)]) [] = false := rfl
  have hpos : methodCallPos false o env apos pos = pure pos := rfl
  have hcal : ∀ ov, calleeOf false o env ov m = (getAttr ov m true >>= fun v => pure (v, [])) := fun _ => rfl
  rw [arm_eval_Call, hst, hke]
  refine _root_.PySem.wpAt_bind (ks_wpAt_mono h (fun ov s₁ h₁ => _root_.PySem.wpAt_of_wpAny ?_) fun _ _ x => x)
  refine wpAny_bind (wpAny_standAt ?_)
  unfold methodCall
  rw [hform, hpos, hcal]
  refine wpAny_bind (wpAny_holding (wpAny_bind (wpAny_mono h₁ (fun f s₂ h₂ => wpAny_pure ?_) fun _ _ x => x)))
  exact wpAny_bind (wpAny_pure h₂)
end
section
variable {X : Cx} {CX : CXT} {k : Nat} {B rest : List Stmt} {e e2 : Expr} {es : List Expr} {m self : Str} {p0 p1 p2 apos cpos spos : Pos} {f cda cc D g : Addr} {sp : Sp} {E : XK} {ta : TA} {tr : TS}
/-- super() alone -/
theorem base_super {pins : List (Addr × Obj)} {s : Shared} {σ : L2.St} {H : Hp} {whole : Sem Value} {Q : Value → Shared → Prop} {R : Value → Shared → Prop} {x C dx : Addr} {fs : List (Str × V)} (S : SupK X.prog X.K f cda cc D self) (hms : X.mg ("super" : Str) = none) (hks : X.env.kindOf ("super" : Str) = some .globalImplicit) (hkc : X.env.kindOf ("__class__" : Str) = some .free) (hfu : X.env.func = some f) (hco : X.env.code = .ref cda) (hcl : X.env.cells.lookup ("__class__" : Str) = some cc)
    (hN : X.N[0]? = some self) (hsl : X.env.kindOf self = some .local) (hm : (m == ("__class__" : Str)) = false) (I : Inv X pins σ H s) (h0 : σ[0]? = some (some (V.ref x))) (hH : H x = some (.ins C dx fs)) (M : SupM X.K C D m g)
    (hq : ∀ so s', Inv X pins σ H s' → s'.heap.get? so = some { cls := .type "super", dict := none, data := .fields #[.ref D, .ref x, .ref C], slots := #[] } → Q (.ref so) s') :
    _root_.PySem.wpAt (model X.prog X.w) X.A (.func B X.env) (attributeBase (.Call (.Name "super" p0) [] [] p1) m X.env whole) Q R s := by
  obtain ⟨oc, od, fd, osl, ar, lf, hp, rfl⟩ := S.fn
  obtain ⟨oc2, od2, vs, osl2, file, tf, lc, hvs, hfile⟩ := S.code
  obtain ⟨cl, cld, csl, lcc⟩ := S.cell
  obtain ⟨cdD, hD⟩ := S.cls
  obtain ⟨oD, hD1, hD2⟩ : ∃ oD, s.heap.get? D = some oD ∧ oD.data = .cls cdD := by
    unfold PySem.W.clsIn at hD
    split at hD
    · rename_i c d cd' sl ho
      cases hD
      exact ⟨_, I.kIn _ _ ho, rfl⟩
    · cases hD
  obtain ⟨mA, O, _⟩ := ins_get I.hok hH
  obtain ⟨odx, J, _⟩ := O.look
  obtain ⟨mb, hb1, hb2⟩ := I.mod.blt
  refine ks_wpAt_super_base hks hkc hm hfu (I.kIn _ _ lf) rfl hp hco (I.kIn _ _ lc) rfl hvs hfile S.top ?_
  refine PySem.W.ks_loadName_global I.ok.kind hks (Calls.loadGlobal_builtin (by rw [I.ok.glob]; exact I.mod.glob.keeps I.bk) hms (by rw [I.ok.blt]; exact hb1.keeps I.bk) ((hb2 _ (by decide)).trans (by first | boot_by_name | rfl | kernel_rfl)) ⟨rfl, ?_⟩)
  refine wpAny_loadName_free I.ok.kind hkc hcl ⟨_, I.kIn _ _ lcc, rfl⟩ ?_
  obtain ⟨mm, hn, hl⟩ := I.loc
  obtain ⟨u, ru, lk⟩ := hl 0 ar.arg _ hN h0 (.inl hsl)
  obtain rfl : u = Value.ref x := ru
  have hmm : mm ar.arg = some (.ref x) := by
    rcases lk with ⟨_, e⟩ | ⟨e, _⟩
    · exact e
    · rw [hsl] at e; rcases e with e | e <;> cases e
  refine wpAny_loadName_local I.ok.kind hsl hn hmm ?_
  refine ks_wpAny_isType_cls hD1 hD2 ⟨rfl, ?_⟩
  refine ks_wpAny_call_super hD1 hD2 J.at_ J.cls (fun c e => ?_) (PySem.W.looks_mroIn I.kIn M.sub) (fun h' e kp => ?_)
  · have := J.no
    unfold PySem.W.notCls at this
    rw [e] at this
    exact Bool.noConfusion this
  · exact hq _ _ (I.kept kp) e
theorem fun_there {K : PySem.W.Frag} {g : Addr} {h : Heap} (X : K.In h) (ht : PySem.W.typeIn K (.ref g) = some (.type "function")) : ∃ of, h.get? g = some of ∧ of.cls = .type "function" := by
  have ht' : (K.lookup g).map (·.cls) = some (.type "function") := ht
  cases z : K.lookup g with
  | none => rw [z] at ht'; cases ht'
  | some of => rw [z] at ht'; exact ⟨of, X _ _ z, Option.some.inj ht'⟩
theorem pinned_new {pins : List (Addr × Obj)} {s : Shared} {σ : L2.St} {H : Hp} {o : Obj} {t' : Nat} (I : Inv X pins σ H s) (ho : ∀ v, o.data ≠ .cell v) (hf : o.isFreed = false) :
    Inv X (pins ++ [(s.heap.objs.size, o)]) σ H { s with heap := s.heap.push o, toks := t' } := by
  have I2 := I.kept (h' := s.heap.push o) (t' := t') fun b u e => Heap.get?_push_of_some _ e
  refine I2.pins_of fun p hp => ?_
  rcases List.mem_append.mp hp with z | z
  · exact I2.pin p (List.mem_append_right _ z)
  · obtain rfl := List.mem_singleton.mp z
    refine ⟨Heap.get?_push_size _ hf, I.hok.fresh (Nat.le_refl _), fun e => absurd I.lt (by rw [← e]; exact Nat.lt_irrefl _), I.nofs (Nat.le_refl _), ho⟩
theorem pss_super (S : SupK X.prog X.K f cda cc D self) (hms : X.mg ("super" : Str) = none) (hks : X.env.kindOf ("super" : Str) = some .globalImplicit) (hkc : X.env.kindOf ("__class__" : Str) = some .free) (hfu : X.env.func = some f) (hco : X.env.code = .ref cda) (hcl : X.env.cells.lookup ("__class__" : Str) = some cc)
    (hN : X.N[0]? = some self) (hsl : X.env.kindOf self = some .local) (hm : (m == ("__class__" : Str)) = false)
    (F : FnR X.prog X.w X.K X.mg X.base CX k g sp) (hr : Room k X.A) (hx : Passes CX X E) (ha : PA X (e :: es) ta) (hR : PSs X rest tr) {pl : Sem Bool}
    (hi : interactive X.env = false := by rfl) (hsw : swapsWith (.Call (.Attribute (.Call (.Name "super" p0) [] [] p1) m apos) (e :: es) [] cpos) none spos.line X.env = pure false := by rfl)
    (he : eval (.Call (.Attribute (.Call (.Name "super" p0) [] [] p1) m apos) (e :: es) [] cpos) X.env = (do
      let ov ← attributeBase (.Call (.Name "super" p0) [] [] p1) m X.env (eval (.Call (.Name "super" p0) [] [] p1) X.env)
      standAt apos.atName
      let (f, first) ← holding [ov] (getMethod ov m pl)
      callWith cpos f first (backTo cpos (starEach (e :: es) X.env)) []) := by rfl)
    (hst : starEach (e :: es) X.env = (false, eval e X.env) :: starEach es X.env := by rfl) (hpl : (backTo cpos (starEach es X.env)).any (·.1) = false := by rfl) :
    PSsAt X B (.Expr (.Call (.Attribute (.Call (.Name "super" p0) [] [] p1) m apos) (e :: es) [] cpos) spos :: rest) (tSup X.K D g m sp E ta tr) := by
  intro pins s σ H Ds I h
  obtain ⟨x, C, dx, fs, h0, hH, M, h⟩ := h
  refine ks_wpAt_execs_cons (ks_wpAt_Expr_any (ks_wpAt_MethodCall (pl := pl) (base_super S hms hks hkc hfu hco hcl hN hsl hm I h0 hH M fun so s1 I1 hso => ?_) he) hi hsw)
  obtain ⟨hh, gg, dd, tt, os⟩ := s1
  obtain ⟨mA, O, _⟩ := ins_get I1.hok hH
  obtain ⟨odx, J, _⟩ := O.look
  have hm2 := M.at_
  unfold PySem.W.ks_superIn at hm2
  cases hc : PySem.W.clsIn X.K C with
  | none => rw [hc] at hm2; cases hm2
  | some cd =>
    rw [hc] at hm2
    obtain ⟨of, hof, hofc⟩ := fun_there I1.kIn M.ty
    refine ks_wpAny_getMethod_super hso (PySem.W.looks_opaque I1.kIn S.sta) (l₀ := cd.mro) (fun A Q E s k q => wpAny_bind ((PySem.W.looks_clsIn I1.kIn hc) A _ E s k (wpAny_pure q))) rfl I1.kIn hm2 hof hofc (PySem.W.ks_ne I1.kIn J hc) hm ?_
    have I2 := pinned_new (t' := tt + 1) (o := PySem.W.methodObj (.ref g) (.ref x)) I1 (fun v z => by cases z) rfl
    rw [hst]
    refine PySem.W.callWith_of (P := PySem.W.MethP X.K hh.objs.size g (.ref x)) (by show ((false || (backTo cpos (starEach es X.env)).any (·.1)) || false) = false; rw [hpl]; rfl) (PySem.W.keeps_M M.fi) (Calls.evalArgs_plain ?_)
    have hA := ha.run cpos _ _ σ H _ I2 h
    rw [hst] at hA
    refine thn hA fun us s3 ⟨vs, H3, I3, r, q⟩ => ?_
    have hp := I3.pin (hh.objs.size, PySem.W.methodObj (.ref g) (.ref x)) (List.mem_append_right _ (List.mem_append_right _ List.mem_cons_self))
    refine ⟨⟨hp.1, I3.kIn⟩, wpAny_call (PySem.W.method_call hp.1 (codeAny_mono (run_fnR (us := Value.ref x :: us) (vs := V.ref x :: vs) F hr hx I3.unpinned (.cons rfl r) q) fun r s' z => ?_))⟩
    cases r with
    | error e => exact z
    | ok fl =>
      cases fl with
      | ret u =>
        obtain ⟨v, H4, I4, rv, q4⟩ := z
        exact _root_.PySem.wpAt_of_wpAny (hR.run pins s' σ H4 Ds I4 q4)
      | next => exact z.elim
      | brk => exact z.elim
      | cont => exact z.elim
/-- super().m(e, *e2) -/
theorem pss_superStar (S : SupK X.prog X.K f cda cc D self) (hms : X.mg ("super" : Str) = none) (hks : X.env.kindOf ("super" : Str) = some .globalImplicit) (hkc : X.env.kindOf ("__class__" : Str) = some .free) (hfu : X.env.func = some f) (hco : X.env.code = .ref cda) (hcl : X.env.cells.lookup ("__class__" : Str) = some cc)
    (hN : X.N[0]? = some self) (hsl : X.env.kindOf self = some .local) (hm : (m == ("__class__" : Str)) = false)
    (F : FnR X.prog X.w X.K X.mg X.base CX k g sp) (hr : Room k X.A) (hx : Passes CX X E) (ha : PA X [e, .Starred e2 p2] ta) (hR : PSs X rest tr)
    (hi : interactive X.env = false := by rfl) (hsw : swapsWith (.Call (.Attribute (.Call (.Name "super" p0) [] [] p1) m apos) [e, .Starred e2 p2] [] cpos) none spos.line X.env = pure false := by rfl)
    (hst : starEach [e, .Starred e2 p2] X.env = [(false, eval e X.env), (true, eval e2 X.env)] := by rfl) :
    PSsAt X B (.Expr (.Call (.Attribute (.Call (.Name "super" p0) [] [] p1) m apos) [e, .Starred e2 p2] [] cpos) spos :: rest) (tSup X.K D g m sp E ta tr) := by
  intro pins s σ H Ds I h
  obtain ⟨x, C, dx, fs, h0, hH, M, h⟩ := h
  refine ks_wpAt_execs_cons (ks_wpAt_Expr_any (at_starcall hst (base_super S hms hks hkc hfu hco hcl hN hsl hm I h0 hH M fun so s1 I1 hso => ?_)) hi hsw)
  obtain ⟨hh, gg, dd, tt, os⟩ := s1
  obtain ⟨mA, O, _⟩ := ins_get I1.hok hH
  obtain ⟨odx, J, _⟩ := O.look
  have hm2 := M.at_
  unfold PySem.W.ks_superIn at hm2
  cases hc : PySem.W.clsIn X.K C with
  | none => rw [hc] at hm2; cases hm2
  | some cd =>
    rw [hc] at hm2
    obtain ⟨of, hof, hofc⟩ := fun_there I1.kIn M.ty
    refine getAttr_super hso (PySem.W.looks_opaque I1.kIn S.sta) (l₀ := cd.mro) (fun A Q E s k q => wpAny_bind ((PySem.W.looks_clsIn I1.kIn hc) A _ E s k (wpAny_pure q))) rfl I1.kIn hm2 hof hofc (PySem.W.ks_ne I1.kIn J hc) hm ?_
    have I2 := pinned_new (t' := tt + 1) (o := PySem.W.methodObj (.ref g) (.ref x)) I1 (fun v z => by cases z) rfl
    refine PySem.W.ks_call (P := PySem.W.MethP X.K hh.objs.size g (.ref x)) rfl (PySem.W.keeps_M M.fi) (Calls.evalArgs_plain ?_)
    have hA := ha.run cpos _ _ σ H _ I2 h
    rw [hst] at hA
    refine thn hA fun us s3 ⟨vs, H3, I3, r, q⟩ => ?_
    have hp := I3.pin (hh.objs.size, PySem.W.methodObj (.ref g) (.ref x)) (List.mem_append_right _ (List.mem_append_right _ List.mem_cons_self))
    refine ⟨⟨hp.1, I3.kIn⟩, wpAny_call (PySem.W.method_call hp.1 (codeAny_mono (run_fnR (us := Value.ref x :: us) (vs := V.ref x :: vs) F hr hx I3.unpinned (.cons rfl r) q) fun r s' z => ?_))⟩
    cases r with
    | error e => exact z
    | ok fl =>
      cases fl with
      | ret u =>
        obtain ⟨v, H4, I4, rv, q4⟩ := z
        exact _root_.PySem.wpAt_of_wpAny (hR.run pins s' σ H4 Ds I4 q4)
      | next => exact z.elim
      | brk => exact z.elim
      | cont => exact z.elim
end
end Su

set_option Elab.async false
set_option linter.all false
set_option maxRecDepth 100000
set_option maxHeartbeats 2000000
/-! own classes over data: isinstance, == and !=, truth, type, super().__init__ -/
namespace E
open L2 PySem PySem.Spec PyProof.Rows DL
variable [Tb]
/-! isinstance of own instances -/
structure ObjC (K : PySem.W.Frag) (C : Addr) : Prop where
  cl : Cls K C
  ha : PySem.W.findIn K (.ref C) "__class__" = some (some (.builtin "object.__class__"))
  hn : PySem.W.specialIn K (.builtin "object.__class__") "__get__" = some (some (.builtin "getset_descriptor.__get__"))
  ht : PySem.W.takesIn K (.builtin "object.__class__") = some true
  hm : PySem.W.mroIn K C (.type "object") = some true
theorem ObjC.ty {K : PySem.W.Frag} {C : Addr} (o : ObjC K C) : ∀ F : Hp, ∀ a dx fv, F a = some (.ins C dx fv) → TyX K F (.ref a) (.ref C) := fun F a dx fv e => .base (.ins e o.cl o.ha o.hn o.ht o.hm)
theorem isi_obj {K : PySem.W.Frag} {C D : Addr} {fs : List (Str × Dt)} {b : Bool} {q : Dt → Prop} (o : ObjC K C) (k : PySem.W.kitOne K (.ref C) (.ref D) = some b) (hq : q (.bl b)) : wIsi K [.obj C fs, .cls D] q :=
  ⟨_, _, b, rfl, rfl, k, fun _ _ z => (by cases z), fun C' fs' z => (by cases z; exact o.ty), hq⟩
/-! != by an own == -/
section
open PySem.W Builtin
variable {prog : Program} {w : World} {A : Around} {E : Value → Shared → Prop} {s : Shared} {K : Frag} {x y C f : Addr} {ox oy : Obj} {od : Option Obj}
theorem objNe_K {Q : PySem.Fin → Shared → Prop} (hu : A.units < cLine) (X : K.In s.heap) (I : InstAt s.heap x ox C od) (hs : findIn K (.ref C) "__eq__" = some (some (.ref f))) (hf : isFn K (.ref f) = true)
    (h : wpAny (model prog w) A (call (.ref f) [.ref x, .ref y]) (fun v s' => ∃ b, v = .bool b ∧ Q (.done (.ret (.bool (!b)))) s') E s) :
    wpAny (model prog w) A (Builtin.«object.__ne__» ⟨[.ref x, .ref y], []⟩) Q E s := by
  unfold Builtin.«object.__ne__»
  repeat (first
    | with_reducible refine wpAny_cRoomFor hu ?_
    | (refine wpAny_bind (m := callSpecialIfBound? (.ref x) (Str.ofString "__eq__") [.ref y])
        (ifBound_K X I hs hf (wpAny_mono h (fun r s' hr => by
          obtain ⟨b, rfl, hq⟩ := hr
          repeat (first | exact hq | exact wpAny_pure hq | exact wpAny_truthy_bool hq | (refine wpAny_bind (m := truthy (.bool _)) (wpAny_truthy_bool ?_)) | wp_step)) fun _ _ e => e)))
    | wp_step)
theorem ifBoundB_K {M : Model} {name : Str} {id : String} {args : List Value} {Q : Option Value → Shared → Prop} (X : K.In s.heap) (I : InstAt s.heap x ox C od) (hs : findIn K (.ref C) name = some (some (.builtin id))) (hb : ∀ v, bindSpecial (.builtin id) v = pure (.builtin id, [v]))
    (h : wpAny M A (call (.builtin id) (.ref x :: args)) (fun v => Q (some v)) E s) : wpAny M A (callSpecialIfBound? (.ref x) name args) Q E s := by
  simp only [callSpecialIfBound?, bindSpecialIfBound?]
  refine wpAny_holding (wpAny_bind (wpAny_bind (wpAny_bind (I.type.here ((looks_findIn X hs).here ?_)))))
  refine wpAny_bind (wpAny_askSetting (wpAny_ite ?_))
  have fin : wpAny M A (call (.builtin id) ([.ref x] ++ args) >>= fun v => pure (some v)) Q E s := wpAny_bind (wpAny_mono h (fun v s' h' => wpAny_pure h') fun _ _ h' => h')
  split
  · exact wpAny_bind (wpAny_of_eq (hb _) (wpAny_pure (by exact fin)))
  · exact wpAny_tryCatch (wpAny_bind (wpAny_of_eq (hb _) (wpAny_pure (by exact fin))))
theorem ne_K {Q : Value → Shared → Prop} (hu : A.units + 1 < cLine) (X : K.In s.heap) (I : InstAt s.heap x ox C od) (hy : s.heap.get? y = some oy) (hyc : oy.cls = .ref C) (hs : findIn K (.ref C) "__eq__" = some (some (.ref f))) (hf : isFn K (.ref f) = true)
    (hne : findIn K (.ref C) "__ne__" = some (some (.builtin "object.__ne__"))) (hm : mroIn K C (.type "object") = some true)
    (h : wpAny (model prog w) A.in1 (call (.ref f) [.ref x, .ref y]) (fun v s' => ∃ b, v = .bool b ∧ Q (.bool (!b)) s') E s) : wpAny (model prog w) A (richCompare .NotEq (.ref x) (.ref y)) Q E s := by
  have SB := PySem.F.cmp_object
  have hbind := SB.ne.bind
  have hpl := SB.ne.plain
  have sub : Looks (model prog w) s.heap (isInstance (.ref x) (.type "object")) true := I.type.andThen (looks_mroIn X hm)
  have one : wpAny (model prog w) A (tryCompare (.ref x) "__ne__" (.ref y)) (fun r s' => ∃ v, r = some v ∧ Q v s') E s := by
    unfold tryCompare
    refine wpAny_bind (ifBoundB_K X I hne hbind (wpAny_call (codeAny_call_builtin hpl PySem.F.cmpEntry_ne (check_slot PySem.F.cmpKind_ne PySem.F.cmpSplit_ne sub (PySem.F.cmpArgs_ne _ _) (objNe_K (A := A.in1) hu X I hs hf (wpAny_mono h (fun v s' hv => ?_) fun _ _ e => e))))))
    obtain ⟨b, rfl, hq⟩ := hv
    first | exact ⟨b, rfl, wpAny_pure ⟨_, rfl, hq⟩⟩ | exact ⟨b, rfl, wpAny_pure (wpAny_pure ⟨_, rfl, hq⟩)⟩ | exact ⟨b, rfl, ⟨_, rfl, hq⟩⟩
  unfold richCompare
  simp only [oneThing_ref]
  refine wpAny_holding (wpAny_bind (wpAny_cRoomFor (Nat.lt_of_succ_lt hu) ?_))
  rw [cmpInfo_NotEq]
  dsimp only
  refine wpAny_bind (I.type.here (wpAny_bind (wpAny_typeOf_ref hy ?_)))
  rw [hyc, show (Value.ref C != Value.ref C) = false from by simp]
  simp only [Bool.false_eq_true, if_false]
  refine wpAny_bind (wpAny_pure ?_)
  simp only [Bool.false_eq_true, if_false]
  refine wpAny_bind (wpAny_mono one (fun r s' z => ?_) fun _ _ e => e)
  obtain ⟨v, rfl, hq⟩ := z
  exact wpAny_pure hq
end
def rOwnNe (C : Addr) (sp : Sp) (E : XK) : R2 := fun x y H Q => ∃ a dx fs b dy gs, x = .ref a ∧ y = .ref b ∧ H a = some (.ins C dx fs) ∧ H b = some (.ins C dy gs) ∧ sp [x, y] H (fun v H' => ∃ k, v = .bl k ∧ Q (.bl (!k)) H') E
theorem op_ownNe {X : Cx} {CX : CXT} {n : Nat} {C f : Addr} {fd : FuncData} {ps : List Str} {sp : Sp} {E : XK} (F : FnOk X.prog X.w X.K X.mg X.base CX n f fd ps sp) (hs : PySem.W.findIn X.K (.ref C) "__eq__" = some (some (.ref f))) (hf : PySem.W.isFn X.K (.ref f) = true)
    (hne : PySem.W.findIn X.K (.ref C) "__ne__" = some (some (.builtin "object.__ne__"))) (hm : PySem.W.mroIn X.K C (.type "object") = some true)
    (hb : Binds X.K fd ps []) (hx : Passes CX X E) (hr : Room (n + 1) X.A) : OpR X (compareOp .NotEq) (rOwnNe C sp E) := by
  intro pins s σ H x y v u Q I rx ry hq
  obtain ⟨a, dx, fs, b, dy, gs, rfl, rfl, ha, hb', h⟩ := hq
  cases rx
  cases ry
  obtain ⟨mA, J, _⟩ := ins_get I.hok ha
  obtain ⟨mB, J', _⟩ := ins_get I.hok hb'
  obtain ⟨od, J, _⟩ := J.look
  obtain ⟨od', J', _⟩ := J'.look
  show wpAny (model X.prog X.w) X.A (richCompare .NotEq (.ref a) (.ref b)) (EP X pins σ Q) X.xe s
  refine ne_K (by have := hr.un; omega) I.kIn J J'.at_ J'.cls hs hf hne hm ?_
  have e0 : Env0 X.prog X.w X.K X.mg X.base X.A.in1 X.stack s H := I.env0.in1
  have hl := F.len _ _ _ _ h
  have r2 : Vals [V.ref a, V.ref b] [Value.ref a, Value.ref b] := .cons rfl (.cons rfl .nil)
  refine wpAny_call (codeAny_mono (F.run X.A.in1 X.stack s H ⟨[.ref a, .ref b], []⟩ [.ref a, .ref b] [.ref a, .ref b] _ E hr.in1 e0 (by
    have := hb s [.ref a, .ref b] I.kIn (by simpa using hl)
    simpa using this) r2 h) fun r s' hq => ?_)
  cases r with
  | error e => exact hx pins σ H s e s' I hq
  | ok fl =>
    cases fl with
    | ret u =>
      obtain ⟨v, H', I', rv, k, rfl, q⟩ := I.after hq
      obtain rfl : u = Value.bool k := rv
      exact ⟨k, rfl, .bl (!k), H', I', rfl, q⟩
    | next => exact False.elim hq
    | brk => exact False.elim hq
    | cont => exact False.elim hq
def wOwnNe (C : Addr) (T : Tp) : W2 := fun d e q => match d, e with
  | .obj C1 fs, .obj C2 gs => C1 = C ∧ C2 = C ∧ T [.obj C1 fs, .obj C2 gs] (fun r => match r with
    | .bl k => q (.bl (!k))
    | _ => False) fun _ => False
  | _, _ => False
theorem sr_ownNe {K : PySem.W.Frag} {C : Addr} {T : Tp} : SndR K (rOwnNe C (spT K T) E0) (wOwnNe C T) := fun F H x y a b Q q f hx hy h k => by
  unfold wOwnNe at h
  split at h
  · rename_i C1 fs C2 gs
    obtain ⟨rfl, rfl, h⟩ := h
    obtain ⟨p1, dx, fv, rfl, g1, g2⟩ := rp_obj hx
    obtain ⟨p2, dy, gv, rfl, g3, g4⟩ := rp_obj hy
    refine ⟨p1, dx, fv, p2, dy, gv, rfl, rfl, f _ _ g1, f _ _ g3, F, _, _, _, f, .cons hx (.cons hy .nil), h, fun v d F2 H2 s hv hq => ?_, fun _ _ _ _ _ _ _ _ z => z.elim⟩
    split at hq
    · rename_i k1
      rw [rp_bl hv]
      exact ⟨k1, rfl, k _ (.bl (!k1)) F2 H2 s (.bl (!k1)) hq⟩
    · exact hq.elim
  · exact h.elim
/-! truth by an own __bool__ -/
def rTruB (C : Addr) (sp : Sp) (E : XK) : V → Hp → (Bool → Hp → Prop) → Prop := fun x H Q => ∃ a dx fs, x = .ref a ∧ H a = some (.ins C dx fs) ∧ sp [x] H (fun v H' => ∃ k, v = .bl k ∧ Q k H') E
theorem tru_own {X : Cx} {CX : CXT} {n : Nat} {C f : Addr} {fd : FuncData} {ps : List Str} {sp : Sp} {E : XK} (F : FnOk X.prog X.w X.K X.mg X.base CX n f fd ps sp) (hs : PySem.W.findIn X.K (.ref C) "__bool__" = some (some (.ref f))) (hf : PySem.W.isFn X.K (.ref f) = true)
    (hb : Binds X.K fd ps []) (hx : Passes CX X E) (hr : Room n X.A) : TruR X (rTruB C sp E) := by
  intro pins s σ H x v Q I rx h
  obtain ⟨a, dx, fs, rfl, ha, h⟩ := h
  cases rx
  obtain ⟨mA, J, _⟩ := ins_get I.hok ha
  obtain ⟨od, J, _⟩ := J.look
  obtain ⟨m, hF⟩ := I.fr
  refine PySem.W.truthy_K hF I.ok.mod.kin J hs hf ?_
  refine wpAny_mono (run_fn (us := [.ref a]) (vs := [.ref a]) F hr hb .nil hx I (.cons rfl .nil) h) (fun r s' z => ?_) fun _ _ z => z
  obtain ⟨w, H', I', rv, k, rfl, q⟩ := z
  obtain rfl : r = Value.bool k := rv
  exact ⟨H', I', q⟩
def wTrO (C : Addr) (T : Tp) (we : WE) : WT := fun ss t q x => we ss t (fun d t1 => match d with
  | .obj C1 fs => C1 = C ∧ T [.obj C1 fs] (fun r => match r with
    | .bl k => q k t1
    | _ => False) fun _ => False
  | _ => False) x
theorem st_tru {K : PySem.W.Frag} {E : XK} {C : Addr} {T : Tp} {te : TE} {we : WE} (h : Snd K E te we) : SndT K E (fun σ H Q => te σ H fun x H' => rTruB C (spT K T) E0 x H' Q) (wTrO C T we) := fun pp F H σ ss t Q q x r hw X k =>
  h pp F H σ ss t _ _ x r hw X fun v d t1 F1 H1 s1 hv h1 => by
    split at h1
    · rename_i C1 fs
      obtain ⟨rfl, h1⟩ := h1
      obtain ⟨a, dx, fv, rfl, g1, g2⟩ := rp_obj hv
      refine ⟨a, dx, fv, rfl, s1.fh _ _ g1, F1, _, _, _, s1.fh, .cons hv .nil, h1, fun w d F2 H2 s hw hq => ?_, fun _ _ _ _ _ _ _ _ z => z.elim⟩
      split at hq
      · rename_i k1
        rw [rp_bl hw]
        exact ⟨k1, rfl, k k1 t1 F2 H2 (s1.trans (.of s s1.pen)) hq⟩
      · exact hq.elim
    · exact h1.elim
/-! type(x), classes compared -/
def rType : List V → Hp → VK → Prop := fun xs H Q => ∃ a C dx fs, xs = [V.ref a] ∧ H a = some (.ins C dx fs) ∧ Q (.ref C) H
theorem cr_typeE {X : Cx} : CallR X (.type "type") rType := cr_type
def wType : WL := fun as q => match as with
  | [.obj C fs] => q (.cls C)
  | _ => False
theorem sc_type {K : PySem.W.Frag} : SndC K rType wType := fun F H xs as Q q f hx h k => by
  unfold wType at h
  split at h
  · obtain ⟨x, rfl, gx⟩ := rpA1 hx
    obtain ⟨a, dx, fv, rfl, g1, g2⟩ := rp_obj gx
    exact ⟨a, _, dx, fv, rfl, f _ _ g1, k _ _ F H (.refl f) (.cls _) h⟩
  · exact h.elim
def rIsC (K : PySem.W.Frag) : R2 := fun x y H Q => ∃ a b, x = V.ref a ∧ y = V.ref b ∧ (a = b ∨ (PySem.W.makesIn K a = true ∧ PySem.W.makesIn K b = true)) ∧ Q (.bl (decide (a = b))) H
theorem op_isC {X : Cx} : OpR X (compareOp .Is) (rIsC X.K) := op_is_cls
def wIsC (K : PySem.W.Frag) : W2 := fun d e q => match d, e with
  | .cls A, .cls B => (A = B ∨ (PySem.W.makesIn K A = true ∧ PySem.W.makesIn K B = true)) ∧ q (.bl (decide (A = B)))
  | _, _ => False
theorem sr_isC {K : PySem.W.Frag} : SndR K (rIsC K) (wIsC K) := fun F H x y a b Q q f hx hy h k => by
  unfold wIsC at h
  split at h
  · have e1 := rp_cls hx
    have e2 := rp_cls hy
    exact ⟨_, _, e1, e2, h.1, k _ _ F H (.refl f) (.bl _) h.2⟩
  · exact h.elim
/-! super().__init__(..) at the head of an __init__ -/
section
variable {K : PySem.W.Frag} {E : XK} {B : Bse} {F H F2 H2 : Hp} {σ : L2.St} {ss : Ss} {t : Int}
theorem pen_but {p : Pi} {a : Addr} {o : HO} (h : PenAt K F H p t) (g : Gr [a] F H F2 H2) (na : a ∉ pl (some p)) (ha : H a = some o) (ni : ∃ C dx fs, o = .ins C dx fs) : PenAt K F2 H2 p t := by
  obtain ⟨k1, ⟨k2, k6⟩, tt, r', k3, k4⟩ := h
  obtain ⟨C, dx, fs, rfl⟩ := ni
  have ne : ∀ b ∈ pl (some p), b ∉ [a] := fun b hb z => na (by rw [List.mem_singleton.mp z] at hb; exact hb)
  refine ⟨g.nw _ k1 (by rw [k3]; exact fun z => by cases z), ⟨(fCell K p.c p.cells).m g.ff k2, fun x hx => ?_, fun x hx => ?_, k6.2.2⟩, tt, r', g.hh _ _ (ne _ List.mem_cons_self) k3, k4⟩
  · obtain ⟨ps, e⟩ := k6.at hx
    exact g.nw _ (k6.1 x hx) (by rw [e]; exact fun z => by cases z)
  · obtain ⟨ps, g1, g2, g3⟩ := k6.2.1 x hx
    refine ⟨ps, g.hh _ _ (ne _ (List.mem_cons_of_mem _ (List.mem_map_of_mem hx))) g1, g2, fun pos cv hc => ?_⟩
    obtain ⟨c, e1, e2⟩ := g3 pos cv hc
    exact ⟨c, e1, g.hh _ _ (fun z => by rw [List.mem_singleton.mp z] at e2; unfold LamX.CodeO at e2; rw [ha] at e2; cases e2) e2⟩
theorem Rel.callS {p C dx dx2 : Addr} {fv fv2 : List (Str × V)} {fs fs2 : List (Str × Dt)} (r : Rel K B F H σ ss t) (hi : ss[0]? = some (.slf C fs)) (hno : ∀ j, 0 < j → ¬ isOwn ss j) (hp : σ[0]? = some (some (.ref p))) (hH : H p = some (.ins C dx fv)) (g : Gr [p] F H F2 H2) (f2 : F2 p = none) (h2 : H2 p = some (.ins C dx2 fv2)) (hf : RpF K F2 fv2 fs2) :
    Rel K B F2 H2 σ (ss.set 0 (.slf C fs2)) t := by
  obtain ⟨p1, g1, fp, pM⟩ := r.slm 0 C fs hi
  rw [hp] at g1
  cases g1
  obtain ⟨p2, _, _, g1, np, _⟩ := r.env.slf 0 C fs hi
  rw [hp] at g1
  cases g1
  have il : 0 < ss.length := (List.getElem?_eq_some_iff.mp hi).1
  have keyO : ∀ j, isOwn (ss.set 0 (.slf C fs2)) j → j = 0 := fun j hj => by
    by_cases z : j = 0
    · exact z
    · refine absurd ?_ (hno j (by omega))
      rcases hj with ⟨es, h, ho⟩ | ⟨D, gs, h⟩
      · rcases set_get h with ⟨y, _, _⟩ | ⟨_, h2⟩
        · exact absurd y z
        · exact .inl ⟨es, h2, ho⟩
      · rcases set_get h with ⟨y, _, _⟩ | ⟨_, h2⟩
        · exact absurd y z
        · exact .inr ⟨D, gs, h2⟩
  refine ⟨r.gr.trans g fun q hq => by rw [List.mem_singleton.mp hq]; exact .inl pM, ⟨by rw [List.length_set]; exact r.env.len, fun j d' e => ?_, fun j e => ?_, fun j D gs e => ?_, fun j e => (by
    rcases set_get e with ⟨_, _, e'⟩ | ⟨h1, h2⟩
    · cases e'
    · exact r.env.gho j h2)⟩, fun j es e ho => ?_, fun j D gs e => ?_, fun j k q hj hk _ _ => (keyO j hj).trans (keyO k hk).symm, fun P e => ?_, fun j w B0 e => ?_⟩
  · rcases set_get e with ⟨_, _, e'⟩ | ⟨h1, h2⟩
    · cases e'
    · obtain ⟨v, k1, k2⟩ := r.env.val j d' h2
      exact ⟨v, k1, rp_mono g.ff k2⟩
  · rcases set_get e with ⟨_, _, e'⟩ | ⟨h1, h2⟩
    · cases e'
    · exact r.env.pen j h2
  · obtain rfl := keyO j (.inr ⟨D, gs, e⟩)
    rcases set_get e with ⟨_, _, e'⟩ | ⟨h1, _⟩
    · cases e'
      exact ⟨p, dx2, fv2, hp, np, h2, hf⟩
    · exact absurd rfl h1
  · obtain rfl := keyO j (.inl ⟨es, e, ho⟩)
    rcases set_get e with ⟨_, _, e'⟩ | ⟨h1, _⟩
    · subst e'; cases ho
    · exact absurd rfl h1
  · obtain rfl := keyO j (.inr ⟨D, gs, e⟩)
    rcases set_get e with ⟨_, _, e'⟩ | ⟨h1, _⟩
    · cases e'
      exact ⟨p, hp, f2, pM⟩
    · exact absurd rfl h1
  · exact ⟨pen_but (r.pen P e).1 g (by rw [← e]; exact np) hH ⟨_, _, _, rfl⟩, (r.pen P e).2⟩
  · rcases set_get e with ⟨_, _, e'⟩ | ⟨h1, h2⟩
    · cases e'
    · exact r.inv j w B0 h2
def noOwn : Ss → Bool
  | [] => true
  | .own _ :: _ => false
  | .dic _ :: _ => false
  | .slf _ _ :: _ => false
  | _ :: r => noOwn r
theorem noOwn_ok : ∀ {ss : Ss} {j : Nat}, noOwn ss = true → ¬ isOwn ss j
  | [], j, _, h => by rcases h with ⟨_, h⟩ | ⟨_, _, h⟩ <;> simp at h
  | s :: r, 0, n, h => by
    rcases h with ⟨_, h, ho⟩ | ⟨_, _, h⟩
    · cases h; cases s <;> first | (cases ho; done) | exact absurd (show false = true from n) (by decide)
    · cases h; cases n
  | s :: r, j + 1, n, h => by
    refine noOwn_ok (ss := r) (j := j) ?_ ?_
    · cases s <;> first | exact n | cases n
    · rcases h with ⟨es, h, ho⟩ | ⟨D, gs, h⟩
      · exact .inl ⟨es, by simpa using h, ho⟩
      · exact .inr ⟨D, gs, by simpa using h⟩
def wSup (C : Addr) (T : Tpi) (wa : WA) (wr : WS) : WS := fun ss t P => match (ss[(0 : Nat)]? : Option Sx) with
  | some (.slf C' fs) => (C' = C ∧ fs = [] ∧ noOwn ss.tail = true) ∧ wa ss t (fun ds t1 => T ds (fun fs2 => wr (ss.set 0 (.slf C fs2)) t1 P) fun X => P.x X t1) P.x
  | _ => False
theorem sb_sup {C D g : Addr} {m : Str} {T : Tpi} {ta : TA} {wa : WA} {tr : TS} {wr : WS} (M : Su.SupM K C D m g) (h : SndA K E ta wa) (hr : SndB K E tr wr) : SndB K E (Su.tSup K D g m (spI K C T) E ta tr) (wSup C T wa wr) := fun B Dd F H σ ss t P r hw k => by
  unfold wSup at hw
  split at hw
  · rename_i C' fs e
    obtain ⟨⟨rfl, rfl, hno⟩, hw⟩ := hw
    have hno' : ∀ j, 0 < j → ¬ isOwn ss j := fun j hj z => by
      obtain ⟨i, rfl⟩ : ∃ i, j = i + 1 := ⟨j - 1, by omega⟩
      refine noOwn_ok (ss := ss.tail) (j := i) hno ?_
      rcases z with ⟨es, z⟩ | ⟨G, gs, z⟩
      · exact .inl ⟨es, by rw [List.getElem?_tail]; exact z⟩
      · exact .inr ⟨G, gs, by rw [List.getElem?_tail]; exact z⟩
    obtain ⟨p, dx, fv, g1, np, g3, g4⟩ := r.env.slf 0 C' [] e
    refine ⟨p, C', dx, fv, g1, g3, M, ?_⟩
    refine h B.pp F H σ ss t _ _ _ r.toE hw (k.xok r) fun vs ds t1 F1 H1 s1 hv h1 => ?_
    have r1 := r.step s1
    obtain ⟨p', dx', fv', g1', np', g3', g4'⟩ := r1.env.slf 0 C' [] e
    rw [g1] at g1'
    cases g1'
    obtain ⟨p2, hp2, fp, pM⟩ := r1.slm 0 C' [] e
    rw [g1] at hp2
    cases hp2
    cases g4'
    refine ⟨F1, p, dx', vs, ds, _, _, rfl, r1.fh, fp, g3', hv, h1, fun fv2 fs2 dx2 F2 H2 gr f2 h2 hf hq => ?_, fun X dd fv2 F2 H2 gr f2 h2 h3 hf hx => ?_⟩
    · exact hr B Dd F2 H2 σ _ t1 P (r1.callS e hno' g1 g3' gr f2 h2 hf) hq (k.up (s1.ff.trans gr.ff))
    · refine k.x X dd fv2 F2 H2 t1 (s1.ff.trans gr.ff) ⟨r1.gr.trans gr fun q hq => by rw [List.mem_singleton.mp hq]; exact .inl pM, fun P e2 => pen_but (r1.pen P e2).1 gr (by rw [← e2]; exact np') g3' ⟨_, _, _, rfl⟩⟩ h3 hf hx
  · exact hw.elim
/-- an __init__ with a star: its last parameters in a tuple -/
theorem spI_star {C : Addr} {T2 T : Tpi} (hT : ∀ ds q x, T ds q x → ∃ w rest, ds = w :: rest ∧ rest.length ≤ 100000 ∧ T2 [w, .tup rest] q x) {vs : List V} {Q : VK} (h : spI K C T vs H Q E) :
    ∃ ws rest, vs = ws ++ rest ∧ ws.length = 2 ∧ rest.length ≤ sizeLine ∧ ∀ p, H p = none → spI K C T2 (ws ++ [V.ref p]) (upd H p (.tup rest)) Q E := by
  obtain ⟨F, p, dx, ws, ds, q, x, rfl, fh, fp, hp, hv, hTT, kq, kx⟩ := h
  obtain ⟨w, rest, rfl, hl, hT2⟩ := hT ds q x hTT
  cases hv with
  | @cons v _ vr _ h1 h2 =>
    have hlen := rpA_len h2
    refine ⟨[.ref p, v], vr, rfl, rfl, by rw [hlen]; exact Evl.sz_of hl, fun a ha => ?_⟩
    have ne : a ≠ p := fun z => by rw [z, hp] at ha; cases ha
    have fa := fresh_back fh ha
    have m := same_new (o := HO.tup vr) fa
    have fh2 : Same (upd F a (.tup vr)) (upd H a (.tup vr)) := fun b u e => by
      by_cases z : b = a
      · subst z; rw [upd_same] at e ⊢; exact e
      · rw [upd_ne z] at e ⊢; exact fh b u e
    have back : ∀ {F2 H2 : Hp}, Gr [p] (upd F a (.tup vr)) (upd H a (.tup vr)) F2 H2 → Gr [p] F H F2 H2 := fun g =>
      ⟨m.trans g.ff, g.fh, fun b o hb e => g.hh b o hb (by rw [upd_ne (ne_of_none e ha)]; exact e), fun b h3 h4 => by
        have nb : b ≠ a := fun z => h4 (by rw [z]; exact ha)
        exact g.nw b (by rw [upd_ne nb]; exact h3) (by rw [upd_ne nb]; exact h4), fun b h4 => by
        have nb : b ≠ a := fun z => h4 (by rw [z]; exact ha)
        exact g.al b (by rw [upd_ne nb]; exact h4)⟩
    refine ⟨upd F a (.tup vr), p, dx, [v, .ref a], [w, .tup rest], q, x, rfl, fh2, by rw [upd_ne (Ne.symm ne)]; exact fp, by rw [upd_ne (Ne.symm ne)]; exact hp, .cons (rp_mono m h1) (.cons (.tup (Evl.st_of upd_same) (rpA_mono m h2)) .nil), hT2, fun fv fs dx2 F2 H2 g => kq fv fs dx2 F2 H2 (back g), fun X dd fv F2 H2 g => kx X dd fv F2 H2 (back g)⟩
end
end E

set_option Elab.async false
set_option linter.all false
set_option maxRecDepth 100000
set_option maxHeartbeats 2000000
/-! facts of own classes and of defs that say super(), as a hook reads them -/
namespace Su
open He L2 PySem PySem.Spec PyProof.Rows DL
/-- the program's file, its top without a name super -/
class PF (P : Program) : Prop where
  file : ((P.main.file : Str) == ("/claim/cut.py" : Str)) = true
  top : (P.main.scope.names.lookup ("super" : Str)).isSome = false
/-! ### defs with super -/
structure SupK0 (K : PySem.W.Frag) (f cda cc D : Addr) (slf : Str) : Prop where
  fn : ∃ oc od fd osl ar, K.lookup f = some ⟨oc, od, .func fd, osl⟩ ∧ (fd.params.posonlyargs ++ fd.params.args).head? = some ar ∧ ar.arg = slf
  code : ∃ oc od vs osl file tf, K.lookup cda = some ⟨oc, od, .fields vs, osl⟩ ∧ vs[2]? = some (.str file tf) ∧ (("/claim/cut.py" : Str) == file) = true
  cell : ∃ cl cld csl, K.lookup cc = some ⟨cl, cld, .cell (some (.ref D)), csl⟩
  cls : ∃ cd, PySem.W.clsIn K D = some cd
  sta : PySem.W.nsIn K cStatics "thirdparty.any" = some none
theorem SupK0.up {P : Program} [PF P] {K : PySem.W.Frag} {f cda cc D : Addr} {slf : Str} (S : SupK0 K f cda cc D slf) : SupK P K f cda cc D slf := by
  obtain ⟨oc, od, vs, osl, file, tf, h1, h2, h3⟩ := S.code
  exact ⟨S.fn, ⟨oc, od, vs, osl, file, tf, h1, h2, by rw [beq_iff_eq.mp (PF.file (P := P))]; exact h3⟩, S.cell, S.cls, PF.top, S.sta⟩
structure FunS (K : PySem.W.Frag) (x qual : Str) (st : Stmt) (f : Addr) (fd : FuncData) (D : Addr) (slf : Str) : Prop where
  ex : ∃ (oc : Value) (od : Option Addr) (kV doc pm : Value) (an : Option Addr) (cda : Addr) (ct : Value) (osl : Array (Option Value)) (cc : Addr) (cl : Value) (cld : Option Addr) (csl : Array (Option Value)),
    fd = PySem.W.ksFn x qual (defArgs st) (defBody st) (defScope st) .none kV doc pm an (.ref cda) ct cc ∧ K.lookup f = some ⟨oc, od, .func fd, osl⟩ ∧ PySem.W.codeIn K (.ref cda) qual = true ∧ K.lookup cc = some ⟨cl, cld, .cell (some (.ref D)), csl⟩ ∧ SupK0 K f cda cc D slf
section
variable {P : Program} {w : World} {K : PySem.W.Frag} {mg : Str → Option Value} {base : Heap} {x qual slf : Str} {st : Stmt} {f D : Addr} {fd : FuncData} {k : Nat} {N ps : List Str} {sp : Sp}
theorem FunS.okX [PF P] (F : FunS K x qual st f fd D slf) (S : ScS N ps (defScope st)) (len : ∀ vs H Q E, sp vs H Q E → vs.length = ps.length)
    (hbody : ∀ (cda cc : Addr) (A : Around) (outer : List Env) (s : Shared) (H : Hp) (vs : List V) (Q : VK) (E : XK), Room k (A.deeper (PySem.W.ksEnv qual (defScope st) s.heap.objs.size f (.ref cda) cc)) → SupK P K f cda cc D slf → sp vs H Q E →
      ∃ t, PSsAt (cxS (L2.CX P w) P w K mg base N qual (defScope st) f (.ref cda) cc A outer s H E) (defBody st) (defBody st) t ∧ t { nx := fun _ H' => Q .non H', rt := Q } (L2.start N vs) H) : FnOk P w K mg base (L2.CX P w) (k + 1) f fd ps sp := by
  obtain ⟨oc, od, kV, doc, pm, an, cda, ct, osl, cc, cl, cld, csl, rfl, lk, hcd, hcc, SK⟩ := F.ex
  exact fn_super lk hcd hcc S len fun A outer s H vs Q E hr hsp => hbody cda cc A outer s H vs Q E hr SK.up hsp
theorem FunS.star [PF P] {pv : Str} (F : FunS K x qual st f fd D slf) (S : ScS N (ps ++ [pv]) (defScope st))
    (hb : ∀ (kV doc pm : Value) (an : Option Addr) (cda : Addr) (ct : Value) (cc : Addr) (us rest : List Value), us.length = ps.length → bindArgs (PySem.W.ksFn x qual (defArgs st) (defBody st) (defScope st) .none kV doc pm an (.ref cda) ct cc) ⟨us ++ rest, []⟩ = (newTuple rest >>= fun t => pure (ps.zip us ++ [(pv, t)])))
    (hbody : ∀ (cda cc : Addr) (A : Around) (outer : List Env) (s : Shared) (H : Hp) (vs : List V) (Q : VK) (E : XK), Room k (A.deeper (PySem.W.ksEnv qual (defScope st) s.heap.objs.size f (.ref cda) cc)) → SupK P K f cda cc D slf → sp vs H Q E →
      ∃ t, PSsAt (cxS (L2.CX P w) P w K mg base N qual (defScope st) f (.ref cda) cc A outer s H E) (defBody st) (defBody st) t ∧ t { nx := fun _ H' => Q .non H', rt := Q } (L2.start N vs) H) :
    FnR P w K mg base (L2.CX P w) (k + 1) f (fun vs H Q E => ∃ ws rest, vs = ws ++ rest ∧ ws.length = ps.length ∧ rest.length ≤ sizeLine ∧ ∀ p, H p = Option.none → sp (ws ++ [V.ref p]) (upd H p (.tup rest)) Q E) := by
  obtain ⟨oc, od, kV, doc, pm, an, cda, ct, osl, cc, cl, cld, csl, rfl, lk, hcd, hcc, SK⟩ := F.ex
  exact fn_superStar lk hcd hcc S StX.cxUp (hb _ _ _ _ _ _ _) fun A outer s H vs Q E hr hsp => hbody cda cc A outer s H vs Q E hr SK.up hsp
theorem FunS.binds (F : FunS K x qual st f fd D slf) (h : ∀ (kV doc pm : Value) (an : Option Addr) (cda : Addr) (ct : Value) (cc : Addr) (us : List Value), us.length = ps.length → bindArgs (PySem.W.ksFn x qual (defArgs st) (defBody st) (defScope st) .none kV doc pm an (.ref cda) ct cc) ⟨us, []⟩ = pure (ps.zip us)) : Binds K fd ps [] := by
  obtain ⟨oc, od, kV, doc, pm, an, cda, ct, osl, cc, cl, cld, csl, rfl, _⟩ := F.ex
  exact .all (h _ _ _ _ _ _ _)
/-- a plain def with a star -/
theorem Fun.starX {pv : Str} (F : L2.Fun K x qual st f fd) (S : FnScope N (ps ++ [pv]) (defScope st))
    (hb : ∀ (kV doc pm : Value) (an : Option Addr) (cdv ct : Value) (us rest : List Value), us.length = ps.length → bindArgs (PySem.W.fnOf x qual (defArgs st) (defBody st) (defScope st) .none kV doc pm an cdv ct) ⟨us ++ rest, []⟩ = (newTuple rest >>= fun t => pure (ps.zip us ++ [(pv, t)])))
    (hbody : ∀ (cdv : Value) (A : Around) (outer : List Env) (s : Shared) (H : Hp) (vs : List V) (Q : VK) (E : XK), Room k (A.deeper (envOfC qual (defScope st) s.heap.objs.size f cdv)) → sp vs H Q E →
      ∃ t, PSs (cxOf (L2.CX P w) P w K mg base N qual (defScope st) f cdv A outer s H E) (defBody st) t ∧ t { nx := fun _ H' => Q .non H', rt := Q } (L2.start N vs) H) :
    FnR P w K mg base (L2.CX P w) (k + 1) f (fun vs H Q E => ∃ ws rest, vs = ws ++ rest ∧ ws.length = ps.length ∧ rest.length ≤ sizeLine ∧ ∀ p, H p = Option.none → sp (ws ++ [V.ref p]) (upd H p (.tup rest)) Q E) := by
  obtain ⟨oc, od, kV, doc, pm, an, cdv, ct, osl, rfl, lk, hcd⟩ := F.ex
  exact StX.fn_star lk hcd S StX.cxUp (hb _ _ _ _ _ _) fun A outer s H vs Q E hr hsp => hbody cdv A outer s H vs Q E hr hsp
end
/-- two parameters, then a star -/
theorem bind_star2 {fd : FuncData} {x y : Arg} {pv : Arg} {nx ny nv : Str} {a b : Value} {rest : List Value} (hp : fd.params = ⟨[], [x, y], some pv, [], [], none, []⟩) (hd : fd.defaults = .none) (hx : x.arg = nx) (hy : y.arg = ny) (hv : pv.arg = nv) (hxy : (ny == nx) = false) : bindArgs fd ⟨[a, b] ++ rest, []⟩ = (newTuple rest >>= fun t => pure ([nx, ny].zip [a, b] ++ [(nv, t)])) := by
  subst hx hy hv
  unfold bindArgs
  rw [hp, hd]
  simp only [Option.isNone_some, Bool.and_false]
  dsimp only [seqItems?]
  have e1 : List.lookup x.arg [(x.arg, a), (y.arg, b)] = some a := by rw [List.lookup_cons, beq_self_eq_true]
  have e2 : List.lookup y.arg [(x.arg, a), (y.arg, b)] = some b := by rw [List.lookup_cons, hxy]; show List.lookup y.arg [(y.arg, b)] = _; rw [List.lookup_cons, beq_self_eq_true]
  simp [e1, e2, show notAStandIn Value.none = pure () from rfl]
/-! ### Booleans -/
abbrev FnC : Type := Option (Str × Str × Arguments × FuncBody × Scope × Addr × List Str × Addr)
def fnC (K : PySem.W.Frag) (p : Addr) : FnC := match K.lookup p with
  | some ⟨_, _, .func fd, _⟩ => some (fd.name, fd.qualname, fd.params, fd.body, fd.scope, fd.globals, fd.closure.map (·.1), fd.builtins)
  | _ => none
structure DefC where
  cls : Str
  mth : Str
  qual : Str
  params : Arguments
  body : List Stmt
  scope : Scope
  slf : Str
  /-- a staticmethod -/
  st : Bool
def DefC.at_ (d : DefC) : Str × Option Str := (d.cls, some d.mth)
/-- the def within a staticmethod -/
def sfn (K : PySem.W.Frag) (p : Addr) : Addr := match PySem.W.recIn K p "staticmethod" with
  | some (.ref f :: _) => f
  | _ => 0
def DefC.ad (K : PySem.W.Frag) (d : DefC) : Addr := match d.st with
  | true => sfn K (fAd K d.at_)
  | false => fAd K d.at_
def DefC.val (d : DefC) : FnC := some (d.mth, d.qual, d.params, .stmts d.body, d.scope, mainGlobals, (match d.st with
  | true => []
  | false => ["__class__"]), builtinsNs)
def cellB (K : PySem.W.Frag) (D : Addr) : List (Str × Addr) → Bool
  | [(_, cc)] => (match K.lookup cc with
    | some ⟨_, _, .cell (some (.ref D')), _⟩ => decide (D' = D)
    | _ => false)
  | _ => false
def codeB (K : PySem.W.Frag) : Value → Bool
  | .ref c => (match K.lookup c with
    | some ⟨_, _, .fields vs, _⟩ => (match (vs[(2 : Nat)]? : Option Value) with
      | some (.str f _) => ("/claim/cut.py" : Str) == f
      | _ => false)
    | _ => false)
  | _ => false
def nonB : Value → Bool
  | .none => true
  | _ => false
def selfB (ps : Arguments) (x : Str) : Bool := match (ps.posonlyargs ++ ps.args).head? with
  | some ar => decide (ar.arg = x)
  | none => false
def DefC.okT (K : PySem.W.Frag) (d : DefC) : Bool := PySem.W.keepIn K (.ref (sfn K (fAd K d.at_))) && (match K.lookup (sfn K (fAd K d.at_)) with
  | some ⟨_, _, .func fd, _⟩ => PySem.W.codeIn K fd.code d.qual && nonB fd.defaults
  | _ => false)
def DefC.okS (K : PySem.W.Frag) (d : DefC) : Bool := match K.lookup (fAd K d.at_) with
  | some ⟨_, _, .func fd, _⟩ => cellB K (ga K d.cls) fd.closure && (codeB K fd.code && (PySem.W.codeIn K fd.code d.qual && ((PySem.W.clsIn K (ga K d.cls)).isSome && (selfB d.params d.slf && (eqO (PySem.W.nsIn K cStatics "thirdparty.any") (some none) && nonB fd.defaults)))))
  | _ => false
def DefC.ok (K : PySem.W.Frag) (d : DefC) : Bool := match d.st with
  | true => d.okT K
  | false => d.okS K
theorem DefC.funS {K : PySem.W.Frag} {d : DefC} {st : Stmt} (hs : d.st = false) (e : fnC K (d.ad K) = d.val) (c : d.ok K = true) (h1 : d.params = defArgs st) (h2 : d.body = defBody st) (h3 : d.scope = defScope st) : ∃ fd, FunS K d.mth d.qual st (fAd K d.at_) fd (ga K d.cls) d.slf := by
  unfold DefC.ok at c
  rw [hs] at c
  dsimp only at c
  unfold DefC.okS at c
  unfold DefC.ad at e
  rw [hs] at e
  dsimp only at e
  unfold fnC at e
  cases q : K.lookup (fAd K d.at_) with
  | none => rw [q] at c; cases c
  | some o =>
    obtain ⟨oc, od, dt, osl⟩ := o
    rw [q] at c
    rw [q] at e
    cases dt with
    | func fd =>
      obtain ⟨n1, n2, n3, n4, n5, n6, n7, n8, n9, n10, n11, n12, n13, n14, n15⟩ := fd
      have e2 : (some (n1, n2, n3, n4, n5, n6, n7.map (·.1), n15) : FnC) = d.val := e
      unfold DefC.val at e2
      rw [hs] at e2
      simp only [Option.some.injEq, Prod.mk.injEq] at e2
      obtain ⟨k1, k2, k3, k4, k5, k6, k7, k8⟩ := e2
      obtain ⟨c1, c'⟩ := ba c
      obtain ⟨c2, c''⟩ := ba c'
      obtain ⟨c3, c3'⟩ := ba c''
      obtain ⟨c4, c4'⟩ := ba c3'
      obtain ⟨c5, c5'⟩ := ba c4'
      obtain ⟨c6, c7⟩ := ba c5'
      clear c' c'' c3' c4' c5' c e
      dsimp only at c1 c2 c3 c7
      have c8 : n8 = .none := by
        cases n8 with
        | none => rfl
        | _ => cases c7
      clear c7
      unfold cellB at c1
      split at c1
      · rename_i x cc
        split at c1
        · rename_i cl cld D' csl lcc
          have eD := of_decide_eq_true c1
          unfold codeB at c2
          split at c2
          · rename_i cda
            split at c2
            · rename_i oc2 od2 vs osl2 lcd
              split at c2
              · rename_i file tf hvs
                unfold selfB at c5
                split at c5
                · rename_i ar har
                  have es := of_decide_eq_true c5
                  obtain ⟨cd, hcd⟩ := Option.isSome_iff_exists.mp c4
                  have ex : x = ("__class__" : Str) := by simpa using k7
                  subst k1 k2 k3 k4 k5 k6 k8 ex eD c8
                  rw [h1] at q har
                  rw [h2] at q
                  rw [h3] at q
                  refine ⟨_, oc, od, n9, n10, n11, n12, cda, n14, osl, cc, cl, cld, csl, rfl, ?_, c3, lcc, ⟨⟨_, _, _, _, ar, q, har, es⟩, ⟨_, _, vs, _, file, tf, lcd, hvs, ?_⟩, ⟨_, _, _, lcc⟩, ⟨cd, hcd⟩, eqO_ok c6⟩⟩
                  · exact q
                  · exact c2
                · cases c5
              · cases c2
            · cases c2
          · cases c2
        · cases c1
      · cases c1
    | _ => cases c
/-- .. of a staticmethod -/
theorem DefC.funT {K : PySem.W.Frag} {d : DefC} {st : Stmt} (hs : d.st = true) (e : fnC K (d.ad K) = d.val) (c : d.ok K = true) (h1 : d.params = defArgs st) (h2 : d.body = defBody st) (h3 : d.scope = defScope st) : ∃ fd, Fun K d.mth d.qual st (sfn K (fAd K d.at_)) fd := by
  unfold DefC.ok at c
  rw [hs] at c
  dsimp only at c
  unfold DefC.okT at c
  unfold DefC.ad at e
  rw [hs] at e
  dsimp only at e
  unfold fnC at e
  obtain ⟨kp, c⟩ := ba c
  cases q : K.lookup (sfn K (fAd K d.at_)) with
  | none => rw [q] at c; cases c
  | some o =>
    obtain ⟨oc, od, dt, osl⟩ := o
    rw [q] at c
    rw [q] at e
    cases dt with
    | func fd =>
      obtain ⟨n1, n2, n3, n4, n5, n6, n7, n8, n9, n10, n11, n12, n13, n14, n15⟩ := fd
      have e2 : (some (n1, n2, n3, n4, n5, n6, n7.map (·.1), n15) : FnC) = d.val := e
      unfold DefC.val at e2
      rw [hs] at e2
      simp only [Option.some.injEq, Prod.mk.injEq] at e2
      obtain ⟨k1, k2, k3, k4, k5, k6, k7, k8⟩ := e2
      obtain ⟨c1, c2⟩ := ba c
      have c8 : n8 = .none := by
        cases n8 with
        | none => rfl
        | _ => cases c2
      have e7 : n7 = [] := List.map_eq_nil_iff.mp k7
      subst k1 k2 k3 k4 k5 k6 k8 c8 e7
      rw [h1, h2, h3] at q
      exact ⟨_, ⟨oc, od, n9, n10, n11, n12, n13, n14, osl, rfl, q, c1⟩, kp⟩
    | _ => cases c
/-- an own class as isinstance looks at it -/
def objN (x : Str) (K : PySem.W.Frag) : Bool := (PySem.W.plainGet K (ga K x) Str.empty && (PySem.W.hasDictIn K (ga K x) && (PySem.W.plainOver K (ga K x) && eqO (PySem.W.findIn K (.ref (ga K x)) "__setattr__") (some (some (.builtin "object.__setattr__")))))) &&
  (eqO (PySem.W.findIn K (.ref (ga K x)) "__class__") (some (some (.builtin "object.__class__"))) && (eqO (PySem.W.specialIn K (.builtin "object.__class__") "__get__") (some (some (.builtin "getset_descriptor.__get__"))) && (decide (PySem.W.takesIn K (.builtin "object.__class__") = some true) && (decide (PySem.W.mroIn K (ga K x) (.type "object") = some true) && PySem.W.makesIn K (ga K x)))))
structure ObjF (K : PySem.W.Frag) (C : Addr) : Prop where
  obj : E.ObjC K C
  mks : PySem.W.makesIn K C = true
theorem objN_ok {x : Str} {K : PySem.W.Frag} (h : objN x K = true) : ObjF K (ga K x) := by
  obtain ⟨c1, c⟩ := ba h
  obtain ⟨a1, c1⟩ := ba c1
  obtain ⟨a2, c1⟩ := ba c1
  obtain ⟨a3, a4⟩ := ba c1
  obtain ⟨b1, c⟩ := ba c
  obtain ⟨b2, c⟩ := ba c
  obtain ⟨b3, c⟩ := ba c
  obtain ⟨b4, b5⟩ := ba c
  exact ⟨⟨⟨a1, a2, a3, eqO_ok a4⟩, eqO_ok b1, eqO_ok b2, of_decide_eq_true b3, of_decide_eq_true b4⟩, b5⟩
/-- the class at x finds the method m of the class y -/
def fndN (x m y : Str) (K : PySem.W.Frag) : Bool := eqO (PySem.W.findIn K (.ref (ga K x)) m) (some (some (.ref (fAd K (y, some m))))) && PySem.W.isFn K (.ref (fAd K (y, some m)))
theorem fndN_ok {x m y : Str} {K : PySem.W.Frag} (h : fndN x m y K = true) : PySem.W.findIn K (.ref (ga K x)) m = some (some (.ref (fAd K (y, some m)))) ∧ PySem.W.isFn K (.ref (fAd K (y, some m))) = true := by
  obtain ⟨a, b⟩ := ba h
  exact ⟨eqO_ok a, b⟩
def neN (x : Str) (K : PySem.W.Frag) : Bool := eqO (PySem.W.findIn K (.ref (ga K x)) "__ne__") (some (some (.builtin "object.__ne__")))
theorem neN_ok {x : Str} {K : PySem.W.Frag} (h : neN x K = true) : PySem.W.findIn K (.ref (ga K x)) "__ne__" = some (some (.builtin "object.__ne__")) := eqO_ok h
/-- super().m of the class y in an instance of x finds the method of the class z -/
def supN (x y m z : Str) (K : PySem.W.Frag) : Bool := eqO (PySem.W.ks_superIn K (ga K x) (ga K y) m) (some (some (.ref (fAd K (z, some m))))) && (decide (PySem.W.mroIn K (ga K x) (.ref (ga K y)) = some true) && (decide (PySem.W.typeIn K (.ref (fAd K (z, some m))) = some (.type "function")) && PySem.W.fnIn K (fAd K (z, some m))))
theorem supN_ok {x y m z : Str} {K : PySem.W.Frag} (h : supN x y m z K = true) : SupM K (ga K x) (ga K y) m (fAd K (z, some m)) := by
  obtain ⟨a, h⟩ := ba h
  obtain ⟨b, h⟩ := ba h
  obtain ⟨c, d⟩ := ba h
  exact ⟨eqO_ok a, of_decide_eq_true b, of_decide_eq_true c, d⟩
/-- a method of a class y, called on instances of x -/
def metN (x m y : Str) (K : PySem.W.Frag) : Bool := fndN x m y K && PySem.W.keepIn K (.ref (fAd K (y, some m)))
theorem metN_ok {x m y : Str} {K : PySem.W.Frag} (h : metN x m y K = true) : Meth K (ga K x) m (fAd K (y, some m)) := by
  obtain ⟨a, b⟩ := ba h
  obtain ⟨c, d⟩ := fndN_ok a
  exact ⟨c, d, b⟩
/-! ### the hook -/
def asC (g : Addr → Option Obj) : Nat → List Addr
  | 0 => [mainGlobals, cStatics]
  | n + 1 => growD g (asC g n)
abbrev AlC : Type := AlT × Bool × List FnC
def obsC (n : Nat) (fa : List Fa) (fn : List DefD) (ts : List Tab) (tf : List Defn) (ex : PySem.W.Frag → Bool) (cs : List DefC) (g : Addr → Option Obj) : AlC :=
  (obsT fa fn ts (frT g (asC g n)), ex (frT g (asC g n)) && (tabsB g tf (frT g (asC g n)) && cs.all fun d => d.ok (frT g (asC g n))), cs.map fun d => fnC (frT g (asC g n)) (d.ad (frT g (asC g n))))
def valC (fn : List DefD) (ts : List Tab) (cs : List DefC) (w : World) : AlC := (valT fn ts w, true, cs.map DefC.val)
structure SaysC (fa : List Fa) (fn : List DefD) (ts : List Tab) (tf : List Defn) (ex : PySem.W.Frag → Bool) (cs : List DefC) (w : World) (h : Heap) (K : PySem.W.Frag) : Prop where
  x : SaysX fa fn ts tf ex w h K
  ok : ∀ d ∈ cs, d.ok K = true
  val : cs.map (fun d => fnC K (d.ad K)) = cs.map DefC.val
theorem saysC_of {n : Nat} {fa : List Fa} {fn : List DefD} {ts : List Tab} {tf : List Defn} {ex : PySem.W.Frag → Bool} {cs : List DefC} {w : World} {h : Heap} (e : obsC n fa fn ts tf ex cs h.get? = valC fn ts cs w) : SaysC fa fn ts tf ex cs w h (frT h.get? (asC h.get? n)) := by
  obtain ⟨e1, e0⟩ := Prod.mk.inj (show (_, _) = (_, _) from e)
  obtain ⟨e2, e3⟩ := Prod.mk.inj (show (_, _) = (_, _) from e0)
  generalize hK : frT h.get? (asC h.get? n) = K at e1 e2 e3
  obtain ⟨h1, h2⟩ := ba e2
  obtain ⟨h3, h4⟩ := ba h2
  have each : ∀ p ∈ tf, PySem.W.codeHdIn K (cT K p).1 (cT K p).2 = true ∧ ∃ o, h.get? (cT K p).2 = some o ∧ emptyTab o = true := fun p hp => by
    obtain ⟨a, b⟩ := ba (List.all_eq_true.mp h3 p hp)
    refine ⟨a, ?_⟩
    split at b
    · rename_i o q
      exact ⟨o, q, b⟩
    · cases b
  refine ⟨⟨e1, h1, fun p hp => (each p hp).1, fun p hp => ?_, fun p hp => ?_⟩, fun d hd => List.all_eq_true.mp h4 d hd, e3⟩
  · obtain ⟨_, o, q, z⟩ := each p hp
    have y := frT_none (as := asC h.get? n) q z
    rw [hK] at y
    exact y
  · obtain ⟨_, o, q, z⟩ := each p hp
    rw [q, emptyTab_eq z]
def hookC (n : Nat) (fa : List Fa) (fn : List DefD) (ts : List Tab) (tf : List Defn) (ex : PySem.W.Frag → Bool) (cs : List DefC) : PySem.W.Hook where
  α := AlC
  obs := fun s => obsC n fa fn ts tf ex cs s.heap.get?
  val := fun w => valC fn ts cs w
  says := fun w h => ∃ K : PySem.W.Frag, K.In h ∧ SaysC fa fn ts tf ex cs w h K
  of := fun _ _ e => ⟨_, frT_in, saysC_of e⟩
  keeps := fun _ _ _ ⟨K, hK, c⟩ k => ⟨K, PySem.W.Frag.In.keeps hK k, ⟨⟨c.x.t, c.x.more, c.x.hd, c.x.out, fun p hp => k _ _ (c.x.empty p hp)⟩, c.ok, c.val⟩⟩
theorem obsC_eq {n : Nat} {fa : List Fa} {fn : List DefD} {ts : List Tab} {tf : List Defn} {ex : PySem.W.Frag → Bool} {cs : List DefC} {g : Addr → Option Obj} {s : Shared} (h : ∀ a, g a = s.heap.get? a) : obsC n fa fn ts tf ex cs g = (hookC n fa fn ts tf ex cs).obs s := by
  rw [show g = s.heap.get? from funext h] <;> rfl
theorem SaysC.def_ {fa : List Fa} {fn : List DefD} {ts : List Tab} {tf : List Defn} {ex : PySem.W.Frag → Bool} {cs : List DefC} {w : World} {h : Heap} {K : PySem.W.Frag} (c : SaysC fa fn ts tf ex cs w h K) (i : Nat) {d : DefC} {st : Stmt} (hd : cs[i]? = some d) (hs : d.st = false) (h1 : d.params = defArgs st) (h2 : d.body = defBody st) (h3 : d.scope = defScope st) :
    ∃ fd, FunS K d.mth d.qual st (fAd K d.at_) fd (ga K d.cls) d.slf := by
  have e2 : (cs.map fun d => fnC K (d.ad K))[i]? = (cs.map DefC.val)[i]? := by rw [c.val]
  rw [List.getElem?_map, List.getElem?_map, hd] at e2
  exact DefC.funS hs (Option.some.inj e2) (c.ok d (List.mem_of_getElem? hd)) h1 h2 h3
theorem SaysC.stat_ {fa : List Fa} {fn : List DefD} {ts : List Tab} {tf : List Defn} {ex : PySem.W.Frag → Bool} {cs : List DefC} {w : World} {h : Heap} {K : PySem.W.Frag} (c : SaysC fa fn ts tf ex cs w h K) (i : Nat) {d : DefC} {st : Stmt} (hd : cs[i]? = some d) (hs : d.st = true) (h1 : d.params = defArgs st) (h2 : d.body = defBody st) (h3 : d.scope = defScope st) :
    ∃ fd, Fun K d.mth d.qual st (sfn K (fAd K d.at_)) fd := by
  have e2 : (cs.map fun d => fnC K (d.ad K))[i]? = (cs.map DefC.val)[i]? := by rw [c.val]
  rw [List.getElem?_map, List.getElem?_map, hd] at e2
  exact DefC.funT hs (Option.some.inj e2) (c.ok d (List.mem_of_getElem? hd)) h1 h2 h3
/-- C.m, a staticmethod -/
structure StaF (K : PySem.W.Frag) (C p f : Addr) (m : Str) : Prop where
  rd : PySem.W.readsIn K C (.type "type") = true
  ga : PySem.W.specialIn K (.ref C) "__getattribute__" = some (some (.builtin "type.__getattribute__"))
  at_ : PySem.W.findCls K (.ref C) (.type "type") m = some (.get (.builtin "staticmethod.__get__") (.ref p) .none (.ref C))
  rc : ∃ rest, PySem.W.recIn K p "staticmethod" = some (.ref f :: rest)
def staB (K : PySem.W.Frag) (C p : Addr) (m : Str) : Bool := (match PySem.W.findCls K (.ref C) (.type "type") m with
  | some (.get (.builtin g) (.ref q) .none (.ref D)) => decide (g = "staticmethod.__get__") && (decide (q = p) && decide (D = C))
  | _ => false) && (match PySem.W.recIn K p "staticmethod" with
  | some (.ref _ :: _) => true
  | _ => false)
def staN (x m : Str) (K : PySem.W.Frag) : Bool := PySem.W.readsIn K (ga K x) (.type "type") && (eqO (PySem.W.specialIn K (.ref (ga K x)) "__getattribute__") (some (some (.builtin "type.__getattribute__"))) && staB K (ga K x) (fAd K (x, some m)) m)
theorem staN_ok {x m : Str} {K : PySem.W.Frag} (h : staN x m K = true) : StaF K (ga K x) (fAd K (x, some m)) (sfn K (fAd K (x, some m))) m := by
  obtain ⟨a, h⟩ := ba h
  obtain ⟨b, h⟩ := ba h
  unfold staB at h
  obtain ⟨h1, h2⟩ := ba h
  refine ⟨a, eqO_ok b, ?_, ?_⟩
  · clear h2
    split at h1
    · rename_i g p D e
      obtain ⟨k1, k⟩ := ba h1
      obtain ⟨k2, k3⟩ := ba k
      rw [e, of_decide_eq_true k1, of_decide_eq_true k2, of_decide_eq_true k3]
    · cases h1
  · unfold sfn
    split at h2
    · rename_i f r e
      exact ⟨r, by rw [e]⟩
    · cases h2
end Su

set_option Elab.async false
set_option linter.all false
set_option maxRecDepth 100000
set_option maxHeartbeats 2000000
/-! self.f in the making, star arguments, papers' parts fixed -/
namespace E
open L2 PySem PySem.Spec PyProof.Rows DL
variable [Tb]
/-- what is asked of a class of papers -/
structure PapF (K : PySem.W.Frag) (C : Addr) : Prop where
  cl : Cls K C
  obj : Su.ObjF K C
  word : NoAttr K C "word"
  parts : NoAttr K C "parts"
section
variable {K : PySem.W.Frag} {E : XK} {te : TE} {we : WE} {ta : TA} {wa : WA}
def wSelfC (C : Addr) (i : Nat) (f : Str) : WE := fun ss t q _ => match (ss[i]? : Option Sx) with
  | some (.slf C' fs) => C' = C ∧ onO (fs.lookup f) fun d => q d t
  | _ => False
theorem sn_self {C : Addr} {i : Nat} {f : Str} (hc : Cls K C) (hn : NoAttr K C f) : Snd K E (tFld K (tVar i) f) (wSelfC C i f) := fun pp F H σ ss t Q q x R hw X k => by
  unfold wSelfC at hw
  split at hw
  · rename_i C' fs e
    obtain ⟨rfl, hw⟩ := hw
    obtain ⟨d, e2, hq⟩ := onO_some hw
    obtain ⟨p, dx, fv, g1, np, g3, g4⟩ := R.env.slf i C' fs e
    obtain ⟨v, e3, hv⟩ := rpF_lookup g4 e2
    exact ⟨.ref p, g1, p, C', dx, fv, v, rfl, g3, hc, hn, e3, k v d t F H R.refl hv hq⟩
  · exact hw.elim
def wStar (a : WE) (r : WA) : WA := fun ss t q x => a ss t (fun d t1 => seqD d fun ds => r ss t1 (fun es t2 => q (ds ++ es) t2) x) x
theorem sa_star (ha : Snd K E te we) (hr : SndA K E ta wa) : SndA K E (StX.tStar K te ta) (wStar we wa) := fun pp F H σ ss t Q q x R h X k =>
  ha pp F H σ ss t _ _ x R h X fun v d t1 F1 H1 s1 hv h1 => by
    unfold seqD at h1
    split at h1
    · obtain ⟨p, xs, rfl, hs, hx⟩ := rp_lst hv
      exact ⟨p, xs, rfl, .inr (same_l s1.fh hs), hr pp F1 H1 σ ss t1 _ _ x (R.step s1) h1 (X.step s1) fun us es t2 F2 H2 s2 hu h2 => k _ _ t2 F2 H2 (s1.trans s2) (rpA_app (rpA_mono s2.ff hx) hu) h2⟩
    · obtain ⟨p, xs, rfl, hs, hx⟩ := rp_tup hv
      exact ⟨p, xs, rfl, .inl (same_t s1.fh hs), hr pp F1 H1 σ ss t1 _ _ x (R.step s1) h1 (X.step s1) fun us es t2 F2 H2 s2 hu h2 => k _ _ t2 F2 H2 (s1.trans s2) (rpA_app (rpA_mono s2.ff hx) hu) h2⟩
    · exact h1.elim
end
/-! lists made tuples, all the way in -/
mutual
def fixD : Dt → Dt
  | .lst ds => .tup (fixA ds)
  | .tup ds => .tup (fixA ds)
  | d => d
def fixA : List Dt → List Dt
  | [] => []
  | d :: ds => fixD d :: fixA ds
end
mutual
/-- plain all the way in, n deep at most, no row too long -/
def fxOk : Nat → Dt → Bool
  | 0, .lst _ => false
  | 0, .tup _ => false
  | n + 1, .lst ds => decide (ds.length ≤ 100000) && fxOkA n ds
  | n + 1, .tup ds => decide (ds.length ≤ 100000) && fxOkA n ds
  | _, d => plainD d
def fxOkA : Nat → List Dt → Bool
  | _, [] => true
  | n, d :: ds => fxOk n d && fxOkA n ds
end
theorem fixA_map : ∀ ds : List Dt, fixA ds = ds.map fixD
  | [] => rfl
  | d :: ds => by rw [fixA, fixA_map ds]; rfl
theorem fxOkA_all {n : Nat} : ∀ {ds : List Dt}, fxOkA n ds = true → ∀ d ∈ ds, fxOk n d = true
  | [], _, d, hd => by cases hd
  | e :: ds, h, d, hd => by
    have h : (fxOk n e && fxOkA n ds) = true := by rw [fxOkA] at h; exact h
    rw [Bool.and_eq_true] at h
    rcases List.mem_cons.mp hd with rfl | hd
    · exact h.1
    · exact fxOkA_all h.2 d hd
theorem fxOkA_of {n : Nat} : ∀ {ds : List Dt}, (∀ d ∈ ds, fxOk n d = true) → fxOkA n ds = true
  | [], _ => by rw [fxOkA]
  | e :: ds, h => by rw [fxOkA, h e List.mem_cons_self, fxOkA_of fun d hd => h d (List.mem_cons_of_mem _ hd)]; rfl
theorem fx_int {n : Nat} {i : Int} : fxOk n (.int i) = true := by cases n <;> rfl
theorem fx_str {n : Nat} {i : Str} : fxOk n (.str i) = true := by cases n <;> rfl
theorem fx_bl {n : Nat} {i : Bool} : fxOk n (.bl i) = true := by cases n <;> rfl
theorem fx_non {n : Nat} : fxOk n .non = true := by cases n <;> rfl
theorem fx_tup {n : Nat} {ds : List Dt} (hl : ds.length ≤ 100000) (h : ∀ d ∈ ds, fxOk n d = true) : fxOk (n + 1) (.tup ds) = true := by
  rw [fxOk, decide_eq_true hl, fxOkA_of h]; rfl
theorem fx_lst {n : Nat} {ds : List Dt} (hl : ds.length ≤ 100000) (h : ∀ d ∈ ds, fxOk n d = true) : fxOk (n + 1) (.lst ds) = true := by
  rw [fxOk, decide_eq_true hl, fxOkA_of h]; rfl
theorem fx_tI {n : Nat} {ns : List Int} (hl : ns.length ≤ 100000) : fxOk (n + 1) (tI ns) = true := fx_tup (by rw [List.length_map]; exact hl) fun d hd => by
  obtain ⟨i, _, rfl⟩ := List.mem_map.mp hd
  exact fx_int
theorem fx_lI {n : Nat} {ns : List Int} (hl : ns.length ≤ 100000) : fxOk (n + 1) (lI ns) = true := fx_lst (by rw [List.length_map]; exact hl) fun d hd => by
  obtain ⟨i, _, rfl⟩ := List.mem_map.mp hd
  exact fx_int
theorem fixA_ints (ns : List Int) : fixA (ns.map .int) = ns.map .int := by
  rw [fixA_map, List.map_map]
  refine List.map_congr_left fun i _ => ?_
  show fixD (.int i) = .int i
  rw [fixD]
  all_goals (intro _ z; cases z)
theorem fix_tI {ns : List Int} : fixD (tI ns) = tI ns := by show fixD (.tup _) = _; rw [fixD, fixA_ints]
theorem fix_lI {ns : List Int} : fixD (lI ns) = tI ns := by show fixD (.lst _) = _; rw [fixD, fixA_ints]
/-- fixed, n calls deep -/
def T_fx : Nat → Tp
  | 0 => fun _ _ _ => False
  | n + 1 => fun ds q _ => match ds with
    | [d] => fxOk n d = true ∧ q (fixD d)
    | _ => False
/-- a paper's fields as Paper.__init__ writes them -/
def T_papI : Tpi := fun ds q _ => match ds with
  | [w, .tup ps] => fxOk 8 (.tup ps) = true ∧ q [("word", w), ("parts", fixD (.tup ps))]
  | _ => False
def T_papS : Tpi := fun ds q x => match ds with
  | w :: ps => ps.length ≤ 100000 ∧ T_papI [w, .tup ps] q x
  | _ => False
/-- == of two papers of one class -/
def T_papE (C : Addr) : Tp := fun ds q _ => match ds with
  | [.obj C1 fs, .obj C2 gs] => (C1 = C ∧ C2 = C) ∧ ∃ w p w' p' c1 c2, fs.lookup ("word" : Str) = some w ∧ fs.lookup ("parts" : Str) = some p ∧ gs.lookup ("word" : Str) = some w' ∧ gs.lookup ("parts" : Str) = some p' ∧ eqD w w' = some c1 ∧ eqD p p' = some c2 ∧ q (.bl (c1 && c2))
  | _ => False
def T_const (C : Addr) (r : Dt) : Tp := fun ds q _ => match ds with
  | [.obj C1 fs] => C1 = C ∧ q r
  | _ => False
end E

/-! comprehensions whose names are several -/
set_option Elab.async false
set_option linter.all false
open PySem PySem.Spec
namespace E
theorem lc_g {wi : WA} {g : WG} {wt : WT} {we : WE} {vs : List Nat} {ss : Ss} {t : Int} {q : List Dt → Int → Prop} {x : XQ} {ds : List Dt} (f : Nat → Dt → Dt) (hi : ∀ k : List Dt → Int → Prop, k ds t → wi ss t k x) (hl : ds.length ≤ 100000)
    (he : ∀ (i : Nat) (d : Dt) (k : Dt → Int → Prop) (k0 : Int → Prop), ds[i]? = some d → k (f i d) t → g d (wipeE ss vs) fun s2 => wt s2 t (fun b t2 => if b = true then we s2 t2 k (fun _ _ => False) else k0 t2) fun _ _ => False)
    (hq : q (ds.mapIdx f) t) : wLc wi g wt we vs ss t q x := by
  refine hi _ ⟨hl, fun i acc tt => acc = (ds.take i).mapIdx f ∧ tt = t, ⟨by simp, rfl⟩, fun i d acc tt hd hI _ => ?_, fun acc tt hI => ?_⟩
  · obtain ⟨rfl, rfl⟩ := hI
    refine he i d (fun e t3 => (ds.take i).mapIdx f ++ [e] = (ds.take (i + 1)).mapIdx f ∧ t3 = tt) (fun t3 => (ds.take i).mapIdx f = (ds.take (i + 1)).mapIdx f ∧ t3 = tt) hd ⟨?_, rfl⟩
    have hi := (List.getElem?_eq_some_iff.mp hd).1
    have e2 : ds.take (i + 1) = ds.take i ++ [d] := by rw [List.take_add_one, hd]; rfl
    rw [e2, List.mapIdx_append]
    simp only [List.mapIdx_cons, List.mapIdx_nil, List.length_take, Nat.min_eq_left (Nat.le_of_lt hi), Nat.zero_add]
  · obtain ⟨rfl, rfl⟩ := hI
    rw [List.take_length]
    exact hq
end E
namespace E
theorem mapIdx_co {ds : List Dt} {n : Nat} (hl : ds.length = n) {f : Nat → Dt → Dt} {g : Nat → Int} (hf : ∀ i d, f i d = .int (g i)) : ds.mapIdx f = ((List.range n).map g).map .int := by
  subst hl
  apply List.ext_getElem?
  intro i
  rw [List.getElem?_mapIdx, List.getElem?_map, List.getElem?_map]
  by_cases h : i < ds.length
  · rw [List.getElem?_range h, List.getElem?_eq_getElem h]
    simp only [Option.map_some, hf]
  · rw [List.getElem?_eq_none (by omega), List.getElem?_eq_none (by rw [List.length_range]; omega)]
    rfl
theorem cm1 (i : Int) : DL.CMulA 1 i := .inl (.inl ⟨by decide, by decide⟩)
theorem cm_bd {i j : Int} {a b : Nat} (ha : i.natAbs < 2 ^ a) (hb : j.natAbs < 2 ^ b) (h0 : 0 < a) (h1 : 0 < b) (h : a + b ≤ 1000000) : DL.CMulA i j := .inr (L2.wide_mul ha hb h0 h1 h)
theorem rep_int0 {n : Nat} : (List.replicate n [Dt.int 0]).flatten = (List.replicate n (0 : Int)).map .int := by
  induction n with
  | zero => rfl
  | succ n ih => rw [List.replicate_succ, List.flatten_cons, ih, List.replicate_succ]; rfl
end E
namespace E
theorem cutE_take {ns : List Int} {n : Nat} : cutE (ns.map .int) none (some (n : Int)) = (ns.take n).map .int := by
  unfold cutE
  rw [HT.sIx_none, HT.sIx_nat, List.length_map, List.drop_zero, Nat.sub_zero, ← List.map_take]
  by_cases h : n ≤ ns.length
  · rw [Nat.min_eq_left h]
  · rw [Nat.min_eq_right (by omega), List.take_length, List.take_of_length_le (by omega)]
theorem cm_le {i j : Int} {A B : Nat} (ha : i.natAbs ≤ A) (hb : j.natAbs ≤ B) (h1 : A < 2 ^ 100) (h2 : B < 2 ^ 100) : DL.CMulA i j := cm_bd (a := 100) (b := 100) (Nat.lt_of_le_of_lt ha h1) (Nat.lt_of_le_of_lt hb h2) (by decide) (by decide) (by decide)
end E
namespace E
variable [Tb]
theorem lc_ints {wi : WA} {j : Nat} {we : WE} {vs : List Nat} {ss : Ss} {t : Int} {q : List Dt → Int → Prop} {x : XQ} {ns : List Int} (f : Int → Int) (hi : ∀ k : List Dt → Int → Prop, k (ns.map .int) t → wi ss t k x) (hl : ns.length ≤ 100000)
    (he : ∀ (n : Int) (k : Dt → Int → Prop), n ∈ ns → k (.int (f n)) t → we ((wipeE ss vs).set j (.val (.int n))) t k fun _ _ => False) (hq : q ((ns.map f).map .int) t) : wLc wi (wgName j) wYes we vs ss t q x := by
  refine lc_map' (ds := ns.map .int) (fun d => match d with | .int n => .int (f n) | d => d) hi (by rw [List.length_map]; exact hl) (fun d k hd hk => ?_) ?_
  · obtain ⟨n, hn, rfl⟩ := List.mem_map.mp hd
    exact he n k hn hk
  · rw [List.map_map]
    rw [List.map_map] at hq
    exact hq
end E

/-! bool(o), C(k = v) -/
set_option Elab.async false
set_option linter.all false
set_option maxRecDepth 100000
set_option maxHeartbeats 2000000
namespace E
open L2 PySem PySem.Spec PyProof.Rows DL
variable [Tb]
theorem bool_in {prog : Program} {w : World} {a : Addr} : MeetsIn prog w (Builtin.«bool.__new__» ⟨[.type "bool", .ref a], []⟩) (fun A R s => wpAny (model prog w) A.in1 (truthy (.ref a)) (fun b s' => R (.ok (.ret (.bool b))) s') (fun e s' => R (.error e) s') s) := by
  refine MeetsIn.of_wp fun A R s hs => ?_
  have f1 := F.conv_sub_bool
  repeat (first
    | assumption
    | (refine wpAny_bind (m := truthy (.ref a)) (wpAny_mono hs (fun b s' hb => ?_) fun _ _ e => e); first | exact wpAny_pure ⟨_, rfl, hb⟩ | exact wpAny_pure (wpAny_pure ⟨_, rfl, hb⟩))
    | wp_step)
def rBoolO (C : Addr) (sp : Sp) (E : XK) : List V → Hp → VK → Prop := fun xs H Q => ∃ x, xs = [x] ∧ rTruB C sp E x H fun k H' => Q (.bl k) H'
theorem call_boolO {X : Cx} {CX : CXT} {n : Nat} {C f : Addr} {fd : FuncData} {ps : List Str} {sp : Sp} {E : XK} (G : FnOk X.prog X.w X.K X.mg X.base CX n f fd ps sp) (hs : PySem.W.findIn X.K (.ref C) "__bool__" = some (some (.ref f))) (hf : PySem.W.isFn X.K (.ref f) = true)
    (hb : Binds X.K fd ps []) (hx : Passes CX X E) (hr : Room (n + 2) X.A) : CallR X (.type "bool") (rBoolO C sp E) := by
  intro pins s σ H xs us Q I r h
  obtain ⟨x, rfl, a, dx, fs, rfl, ha, h⟩ := h
  obtain ⟨_, rfl, rfl⟩ : ∃ v : Unit, v = () ∧ us = [Value.ref a] := by
    cases r with
    | cons r1 r2 => cases r1; cases r2; exact ⟨(), rfl, rfl⟩
  obtain ⟨mA, J, _⟩ := ins_get I.hok ha
  obtain ⟨od, J, _⟩ := J.look
  obtain ⟨m, hF⟩ := I.fr
  refine callType_newIn F.called_bool F.newNe_bool (F.typeCall_bool_1 _) (F.newCall_bool_1 _) (fun obj => F.args_object_init_2 obj _) F.entry_bool_new bool_in ?_
  show wpAny (model X.prog X.w) X.A.in1.in1 (truthy (.ref a)) _ _ s
  refine PySem.W.truthy_K hF I.ok.mod.kin J hs hf ?_
  have e0 : Env0 X.prog X.w X.K X.mg X.base X.A.in1.in1 X.stack s H := I.env0.in1.in1
  have hl := G.len _ _ _ _ h
  have r2 : Vals [V.ref a] [Value.ref a] := .cons rfl .nil
  refine wpAny_call (codeAny_mono (G.run X.A.in1.in1 X.stack s H ⟨[.ref a], []⟩ [.ref a] [.ref a] _ E hr.in1.in1 e0 (by
    have := hb s [.ref a] I.kIn (by simpa using hl)
    simpa using this) r2 h) fun r s' hq => ?_)
  cases r with
  | error e => exact hx pins σ H s e s' I hq
  | ok fl =>
    cases fl with
    | ret u =>
      obtain ⟨v, H', I', rv, k, rfl, q⟩ := I.after hq
      obtain rfl : u = Value.bool k := rv
      exact ⟨rfl, .bl k, H', I', rfl, q⟩
    | next => exact False.elim hq
    | brk => exact False.elim hq
    | cont => exact False.elim hq
def wBoolO (C : Addr) (T : Tp) : WL := fun as q => match as with
  | [.obj C1 fs] => C1 = C ∧ T [.obj C1 fs] (fun r => match r with
    | .bl k => q (.bl k)
    | _ => False) fun _ => False
  | _ => False
theorem sc_boolO {K : PySem.W.Frag} {C : Addr} {T : Tp} : SndC K (rBoolO C (spT K T) E0) (wBoolO C T) := fun F H xs as Q q f hx h k => by
  unfold wBoolO at h
  split at h
  · rename_i C1 fs
    obtain ⟨rfl, h⟩ := h
    obtain ⟨x, rfl, gx⟩ := rpA1 hx
    obtain ⟨a, dx, fv, rfl, g1, g2⟩ := rp_obj gx
    refine ⟨_, rfl, a, dx, fv, rfl, f _ _ g1, F, _, _, _, f, .cons gx .nil, h, fun w d F2 H2 s hw hq => ?_, fun _ _ _ _ _ _ _ _ z => z.elim⟩
    split at hq
    · rename_i k1
      rw [rp_bl hw]
      exact ⟨k1, rfl, k _ (.bl k1) F2 H2 s (.bl k1) hq⟩
    · exact hq.elim
  · exact h.elim
/-! C(k = v, ..), in the order of the parameters -/
theorem kbn_of {K : PySem.W.Frag} {fd : FuncData} {ps ks : List Str} (to : ∀ (s : Shared) (us ws : List Value), K.In s.heap → us.length = 1 → ws.length = ks.length → BindsTo s fd ⟨us, ks.zip ws⟩ (ps.zip (us ++ ws))) : KBn K fd ps 1 ks (fun us ws => us ++ ws) (fun vs zs => vs ++ zs) :=
  ⟨to, fun r z => r.append z⟩
def wMakeN (C : Addr) (T : Tpi) (m : Nat) (wa : WA) : WE := fun ss t q x => wa ss t (fun ds t1 => ds.length = m ∧ T ds (fun fs => q (.obj C fs) t1) fun X => x X t1) x
theorem sn_makeN {K : PySem.W.Frag} {E : XK} {C : Addr} {T : Tpi} {m : Nat} {ta : TA} {wa : WA} (h : SndA K E ta wa) : Snd K E (tMakeK C 0 m (spI K C T) (fun vs zs => vs ++ zs) E tNil ta) (wMakeN C T m wa) := fun pp F H σ ss t Q q x r hw X k =>
  h pp F H σ ss t _ _ x r hw X fun vs ds t1 F1 H1 s1 hv h1 => by
    have g := make_ok (r.step s1) hv h1.2 (fun v fs F' H' s hr hq => k v _ t1 F' H' (s1.trans s) hr hq) fun Y dd fv F' H' s h2 h3 hx => X Y dd fv F' H' t1 (s1.trans s) h2 h3 hx
    rw [List.append_nil] at g
    exact ⟨rfl, (rpA_len hv).trans h1.1, g⟩
end E
namespace Su
open L2 PySem PySem.Spec PyProof.Rows DL
theorem FunS.bindsTo {K : PySem.W.Frag} {x qual slf : Str} {st : Stmt} {f D : Addr} {fd : FuncData} (F : FunS K x qual st f fd D slf) {args : Args} {b : List (Str × Value)} (s : Shared)
    (h : ∀ (kV doc pm : Value) (an : Option Addr) (cda : Addr) (ct : Value) (cc : Addr), bindArgs (PySem.W.ksFn x qual (defArgs st) (defBody st) (defScope st) .none kV doc pm an (.ref cda) ct cc) args = pure b) : BindsTo s fd args b := by
  obtain ⟨oc, od, kV, doc, pm, an, cda, ct, osl, cc, cl, cld, csl, rfl, _⟩ := F.ex
  exact BindsTo.of_eq (h _ _ _ _ _ _ _)
end Su

/-! one name of two classes, max of a list, a new list in a parallel assignment -/
set_option Elab.async false
set_option linter.all false
set_option maxRecDepth 100000
set_option maxHeartbeats 2000000
namespace E
open L2 PySem PySem.Spec PyProof.Rows DL
variable [Tb]
def rOr (r r' : R2) : R2 := fun x y H Q => r x y H Q ∨ r' x y H Q
def w2Or (w w' : W2) : W2 := fun d e q => w d e q ∨ w' d e q
theorem op_or {X : Cx} {f : Value → Value → Sem Value} {r r' : R2} (h : OpR X f r) (h' : OpR X f r') : OpR X f (rOr r r') := OpR.or h h'
theorem sr_or {K : PySem.W.Frag} {r r' : R2} {w w' : W2} (h : SndR K r w) (h' : SndR K r' w') : SndR K (rOr r r') (w2Or w w') := fun F H x y a b Q q f hx hy hw k =>
  hw.elim (fun z => .inl (h F H x y a b Q q f hx hy z k)) fun z => .inr (h' F H x y a b Q q f hx hy z k)
def rLOr (r r' : List V → Hp → VK → Prop) : List V → Hp → VK → Prop := fun xs H Q => r xs H Q ∨ r' xs H Q
def wLOr (w w' : WL) : WL := fun as q => w as q ∨ w' as q
theorem call_or {X : Cx} {f : Value} {r r' : List V → Hp → VK → Prop} (h : CallR X f r) (h' : CallR X f r') : CallR X f (rLOr r r') := CallR.or h h'
theorem sc_or {K : PySem.W.Frag} {r r' : List V → Hp → VK → Prop} {w w' : WL} (h : SndC K r w) (h' : SndC K r' w') : SndC K (rLOr r r') (wLOr w w') := fun F H xs as Q q f hx hw k =>
  hw.elim (fun z => .inl (h F H xs as Q q f hx z k)) fun z => .inr (h' F H xs as Q q f hx z k)
def wMaxL : WL := fun as q => match as with
  | [.lst ds] => onO (unI ds) fun ns => 0 < ns.length ∧ ∀ m, m ∈ ns → (∀ y, y ∈ ns → y ≤ m) → q (.int m)
  | _ => False
theorem sc_maxL {K : PySem.W.Frag} : SndC K (rMax K) wMaxL := fun F H xs as Q q f hx h k => by
  unfold wMaxL at h
  split at h
  · obtain ⟨x, rfl, gx⟩ := rpA1 hx
    obtain ⟨a, ys, rfl, h1, h2⟩ := rp_lst gx
    obtain ⟨ns, h3, h4⟩ := onO_some h
    refine ⟨a, ns, rfl, ?_, h4.1, fun m hm hy => k _ _ F H (.refl f) (.int _) (h4.2 m hm hy)⟩
    rw [unI_eq h3] at h2
    rw [← rpA_ints' h2]
    exact same_l f h1
  · exact h.elim
def wParO (i j : Nat) (e : WE) (wn : WA) : WS := fun ss t P => e ss t (fun d t1 => wn ss t1 (fun ds t2 => P.nx ((ss.set i (.val d)).set j (.own ds)) t2) P.x) P.x
theorem sb_parO {K : PySem.W.Frag} {E : XK} {i j : Nat} {te tb : TE} {we : WE} {wn : WA} (ha : Snd K E te we) (hb : SndN K E tb wn) : SndB K E (tPar i j (tCons te (tCons tb tNil))) (wParO i j we wn) := fun B D F H σ ss t P r hw k =>
  ha B.pp F H σ ss t _ _ _ r.toE hw (k.xok r) fun v d t1 F1 H1 s1 hv h1 =>
    hb B.pp F1 H1 σ ss t1 _ _ _ (r.step s1).toE h1 ((k.up s1.ff).xok (r.step s1)) fun p xs ds t2 F2 H2 s2 hp hl h2 =>
      ⟨v, .ref p, rfl, k.nx F2 _ _ _ t2 (s1.ff.trans s2.ff) ((((r.step s1).step s2).set (rp_mono s2.ff hv)).newO hp hl) h2⟩
end E

/-! lcm, a module's tuples, dicts displayed and read, sorted lists, a field pair from a tuple, ints in a list -/
set_option Elab.async false
set_option linter.all false
set_option maxRecDepth 100000
set_option maxHeartbeats 2000000
namespace E
open L2 PySem PySem.Spec PyProof.Rows DL
/-! ### lcm -/
def rLcm : List V → Hp → VK → Prop := fun vs H Q => ∃ a b : Int, vs = [.int a, .int b] ∧ (a.natAbs < 2 ^ 64 ∧ b.natAbs < 2 ^ 64) ∧ Q (.int ((Nat.lcm a.natAbs b.natAbs : Nat) : Int)) H
theorem lcm_small {a b : Nat} (ha : a < 2 ^ 64) (hb : b < 2 ^ 64) : (Nat.lcm a b).log2 < bitsLine := by
  have h1 : Nat.lcm a b ≤ a * b := by
    unfold Nat.lcm; exact Nat.div_le_self _ _
  have h2 : a * b ≤ 2 ^ 64 * 2 ^ 64 := Nat.mul_le_mul (by omega) (by omega)
  by_cases h0 : Nat.lcm a b = 0
  · rw [h0]; decide +kernel
  · have h3 : Nat.lcm a b < 2 ^ 129 := Nat.lt_of_le_of_lt (Nat.le_trans h1 h2) (by decide +kernel)
    have h4 := (Nat.log2_lt h0).mpr h3
    have h5 : (129 : Nat) ≤ bitsLine := by unfold bitsLine; decide +kernel
    omega
theorem cr_lcm {X : Cx} : CallR X (.builtin "math.lcm") rLcm := by
  intro pins s σ H vs us Q I r h
  obtain ⟨a, b, rfl, ⟨ha, hb⟩, q⟩ := h
  obtain ⟨t, u, rfl⟩ := Vals.int2 r
  have e : (Nat.lcm 1 a.natAbs).lcm b.natAbs = a.natAbs.lcm b.natAbs := by rw [Nat.lcm_one_left]
  exact PySem.W.mg_lcm_v ha hb (congrArg (fun n : Nat => (n : Int)) e) (show (Nat.lcm a.natAbs b.natAbs).log2 < bitsLine from lcm_small ha hb) ⟨.int _, H, I.tok _, ⟨_, rfl⟩, q⟩
def wLcm : WL := fun as q => match as with
  | [.int a, .int b] => (a.natAbs < 2 ^ 64 ∧ b.natAbs < 2 ^ 64) ∧ q (.int ((Nat.lcm a.natAbs b.natAbs : Nat) : Int))
  | _ => False
theorem sc_lcm [Tb] {K : PySem.W.Frag} : SndC K rLcm wLcm := fun F H xs as Q q f hx h k => by
  unfold wLcm at h
  split at h
  · obtain ⟨x, y, rfl, gx, gy⟩ := rpA2 hx
    rw [rp_int gx, rp_int gy]
    exact ⟨_, _, rfl, h.1, k _ _ F H (.refl f) (.int _) h.2⟩
  · exact h.elim
def lcmB (x id : String) (K : PySem.W.Frag) : Bool := He.eqO (PySem.W.nsIn K mainGlobals (Str.ofString x)) (some (some (.builtin id)))
theorem lcmB_ok {K : PySem.W.Frag} {h : Heap} {mg : Str → Option Value} (X : K.In h) (G : h.Ns mainGlobals mg) {x id : String} (c : lcmB x id K = true) : mg (Str.ofString x) = some (.builtin id) := PySem.W.mg_of X G (He.eqO_ok c)
/-! ### a module's tuples -/
mutual
def kD (K : PySem.W.Frag) : Dt → Value → Bool
  | .non, u => (match u with | .none => true | _ => false)
  | .int i, u => (match u with | .int j _ => decide (j = i) | _ => false)
  | .str x, u => (match u with | .str y _ => decide (y = x) | _ => false)
  | .tup ds, u => (match u with
    | .ref a => (match K.lookup a with
      | some o => (match o.cls with | .type "tuple" => true | _ => false) && (match o.data with
        | .seq its _ => Nat.ble its.size sizeLine && kDA K ds its.toList
        | _ => false)
      | none => false)
    | _ => false)
  | _, _ => false
def kDA (K : PySem.W.Frag) : List Dt → List Value → Bool
  | [], [] => true
  | d :: ds, u :: us => kD K d u && kDA K ds us
  | _, _ => false
end
mutual
theorem kD_ok {K : PySem.W.Frag} : ∀ {d : Dt} {u : Value}, kD K d u = true → ∃ v, RelV v u ∧ ∀ F, Rp K F v d
  | .non, u, h => by
    unfold kD at h
    cases u <;> first | exact ⟨.non, rfl, fun _ => .non⟩ | cases h
  | .int i, u, h => by
    unfold kD at h
    cases u with
    | int j t =>
      have e : j = i := of_decide_eq_true h
      subst e
      exact ⟨.int j, ⟨t, rfl⟩, fun _ => .int j⟩
    | _ => cases h
  | .str x, u, h => by
    unfold kD at h
    cases u with
    | str y t =>
      have e : y = x := of_decide_eq_true h
      subst e
      exact ⟨.str y, ⟨t, rfl⟩, fun _ => .str y⟩
    | _ => cases h
  | .tup ds, u, h => by
    unfold kD at h
    cases u with
    | ref a =>
      cases e : K.lookup a with
      | none => simp only [e] at h; cases h
      | some o =>
        simp only [e] at h
        rw [Bool.and_eq_true] at h
        obtain ⟨h1, h2⟩ := h
        have hc : o.cls = .type "tuple" := by
          split at h1
          · rename_i e2; exact e2
          · cases h1
        split at h2
        · rename_i its n ed
          rw [Bool.and_eq_true] at h2
          obtain ⟨vs, hv, hr⟩ := kDA_ok h2.2
          exact ⟨.ref a, rfl, fun F => .tup (.inr ⟨o, its, n, e, hc, ed, Nat.le_of_ble_eq_true h2.1, hv⟩) (hr F)⟩
        · cases h2
    | _ => cases h
  | .bl _, _, h => by unfold kD at h; cases h
  | .lst _, _, h => by unfold kD at h; cases h
  | .obj _ _, _, h => by unfold kD at h; cases h
  | .exn _ _, _, h => by unfold kD at h; cases h
  | .ty _, _, h => by unfold kD at h; cases h
  | .cls _, _, h => by unfold kD at h; cases h
  | .dct _, _, h => by unfold kD at h; cases h
theorem kDA_ok {K : PySem.W.Frag} : ∀ {ds : List Dt} {us : List Value}, kDA K ds us = true → ∃ vs, Vals vs us ∧ ∀ F, RpA K F vs ds
  | [], [], _ => ⟨[], .nil, fun _ => .nil⟩
  | [], _ :: _, h => by unfold kDA at h; cases h
  | _ :: _, [], h => by unfold kDA at h; cases h
  | d :: ds, u :: us, h => by
    rw [kDA, Bool.and_eq_true] at h
    obtain ⟨v, h1, h2⟩ := kD_ok h.1
    obtain ⟨vs, h3, h4⟩ := kDA_ok h.2
    exact ⟨v :: vs, .cons h1 h3, fun F => .cons (h2 F) (h4 F)⟩
end
def gdB (x : String) (d : Dt) (K : PySem.W.Frag) : Bool := match PySem.W.nsIn K mainGlobals (Str.ofString x) with
  | some (some u) => kD K d u
  | _ => false
def GdF (K : PySem.W.Frag) (mg : Str → Option Value) (x : Str) (d : Dt) : Prop := ∃ v u, mg x = some u ∧ RelV v u ∧ ∀ F, Rp K F v d
theorem gdB_ok {K : PySem.W.Frag} {h : Heap} {mg : Str → Option Value} (X : K.In h) (G : h.Ns mainGlobals mg) {x : String} {d : Dt} (c : gdB x d K = true) : GdF K mg (Str.ofString x) d := by
  unfold gdB at c
  split at c
  · rename_i u e
    obtain ⟨v, h1, h2⟩ := kD_ok c
    exact ⟨v, u, PySem.W.mg_of X G e, h1, h2⟩
  · cases c
theorem pe_fldK {X : Cx} {K : PySem.W.Frag} {e : Expr} {f : Str} {pos : Pos} {ta : TE} (hK : X.K = K) (he : PE X e ta) (hb : attributeBase e f X.env (eval e X.env) = eval e X.env) : PE X (.Attribute e f pos) (tFld K ta f) := hK ▸ pe_fld he hb
theorem op_inK {X : Cx} {K : PySem.W.Frag} (hK : X.K = K) : OpR X (compareOp .In) (rIn K false) := hK ▸ op_in_seq
theorem op_isCK [Tb] {X : Cx} {K : PySem.W.Frag} (hK : X.K = K) : OpR X (compareOp .Is) (rIsC K) := hK ▸ op_isC
def tGd (K : PySem.W.Frag) (d : Dt) : TE := fun _ H Q => ∀ v, (∀ F, Rp K F v d) → Q v H
theorem pe_gd {X : Cx} {x : Str} {d : Dt} {pos : Pos} (hg : Gl X x) (hm : GdF X.K X.mg x d) (hd : (x == ("__debug__" : Str)) = false := by decide) : PE X (.Name x pos) (tGd X.K d) := by
  obtain ⟨v, u, h1, h2, h3⟩ := hm
  refine ⟨fun pins s σ H Q I h => ?_⟩
  exact ld_glob I hg h1 ⟨v, H, I, h2, h v h3⟩ hd
section
variable [Tb]
theorem sn_gd {K : PySem.W.Frag} {E : XK} {d : Dt} : Snd K E (tGd K d) (wC d) := fun pp F H σ ss t Q q x r h _ k v hv => k v d t F H r.refl (hv F) h
end
/-! ### dicts -/
def keyD : Dt → Option Key
  | .int i => some (.inl i)
  | .str x => some (.inr x)
  | _ => none
def kDt : Key → Dt
  | .inl i => .int i
  | .inr x => .str x
theorem rp_key {K : PySem.W.Frag} {F : Hp} {v : V} {d : Dt} {k : Key} (h : Rp K F v d) (e : keyD d = some k) : v = kV k := by
  unfold keyD at e
  split at e
  · cases e; rw [rp_int h]; rfl
  · cases e; rw [rp_str h]; rfl
  · cases e
theorem rp_kDt {K : PySem.W.Frag} {F : Hp} (k : Key) : Rp K F (kV k) (kDt k) := by
  cases k with
  | inl i => exact .int i
  | inr x => exact .str x
def lookD (kvs : List (Key × Dt)) (k : Key) : Option Dt := (kvs.find? fun kv => decide (kv.1 = k)).map (·.2)
theorem rpD_get {K : PySem.W.Frag} {F : Hp} {k : Key} {d : Dt} : ∀ {kvs : List (Key × Dt)} {kv : List (Key × V)}, RpD K F kv kvs → lookD kvs k = some d → ∃ v, valV kv k = some v ∧ Rp K F v d
  | [], _, _, e => by cases e
  | (x, y) :: kvs, _, h, e => by
    cases h with
    | cons h1 h2 =>
      unfold lookD valV at *
      rw [List.find?_cons] at e ⊢
      by_cases z : x = k
      · rw [show decide (x = k) = true from decide_eq_true z] at e ⊢
        cases e
        exact ⟨_, rfl, h1⟩
      · rw [show decide (x = k) = false from decide_eq_false z] at e ⊢
        exact rpD_get h2 e
theorem rpD_keys {K : PySem.W.Frag} {F : Hp} : ∀ {kvs : List (Key × Dt)} {kv : List (Key × V)}, RpD K F kv kvs → RpA K F (kv.map fun p => kV p.1) (kvs.map fun p => kDt p.1)
  | [], _, h => by cases h; exact .nil
  | (x, y) :: kvs, _, h => by
    cases h with
    | cons h1 h2 => exact .cons (rp_kDt x) (rpD_keys h2)
theorem rpD_kmap {K : PySem.W.Frag} {F : Hp} : ∀ {kvs : List (Key × Dt)} {kv : List (Key × V)}, RpD K F kv kvs → kv.map (·.1) = kvs.map (·.1)
  | [], _, h => by cases h; rfl
  | (x, y) :: kvs, _, h => by
    cases h with
    | cons h1 h2 => rw [List.map_cons, List.map_cons, rpD_kmap h2]
def rListE : List V → Hp → VK → Prop := rListD
theorem cr_listE {X : Cx} (hc : X.calm = true) : CallR X (.type "list") rListE := call_list_dK hc
def wListE : WL := fun as q => match as with
  | [.dct kvs] => q (.lst (kvs.map fun p => kDt p.1))
  | _ => False
theorem sc_listE [Tb] {K : PySem.W.Frag} : SndC K rListE wListE := fun F H xs as Q q f hx h k => by
  unfold wListE at h
  split at h
  · obtain ⟨x, rfl, gx⟩ := rpA1 hx
    cases gx with
    | dct h1 h2 =>
      refine ⟨_, _, rfl, f _ _ h1, fun p hp => ?_⟩
      exact k _ _ _ _ (.alloc (.refl f) hp) (.lst (Evl.sq_of upd_same) (rpA_mono (same_new (fresh_back f hp)) (rpD_keys h2))) h
  · exact h.elim
def wSorted : WL := fun as q => match as with
  | [.lst ds] => onO (unI ds) fun ns => ∀ ns' : List Int, ns'.Perm ns → ns'.Pairwise (· ≤ ·) → q (.lst (ns'.map .int))
  | _ => False
theorem sc_sorted [Tb] {K : PySem.W.Frag} : SndC K (rSortedI K) wSorted := fun F H xs as Q q f hx h k => by
  unfold wSorted at h
  split at h
  · obtain ⟨x, rfl, gx⟩ := rpA1 hx
    obtain ⟨a, ys, rfl, h1, h2⟩ := rp_lst gx
    obtain ⟨ns, h3, h4⟩ := onO_some h
    rw [unI_eq h3] at h2
    refine ⟨a, ns, rfl, by rw [← rpA_ints' h2]; exact same_l f h1, fun ns' p hp hs hn => ?_⟩
    exact k _ _ _ _ (.alloc (.refl f) hn) (.lst (Evl.sq_of upd_same) (rpA_ints ns')) (h4 ns' hp hs)
  · exact h.elim
/-- ascending, and as many: one list alone -/
theorem sorted_one : ∀ {a b : List Int}, a.Perm b → a.Pairwise (· ≤ ·) → b.Pairwise (· ≤ ·) → a = b
  | [], b, p, _, _ => (List.nil_perm.mp p).symm
  | x :: a, [], p, _, _ => by simpa using p.length_eq
  | x :: a, y :: b, p, h1, h2 => by
    obtain ⟨x1, a1⟩ := List.pairwise_cons.mp h1
    obtain ⟨y1, b1⟩ := List.pairwise_cons.mp h2
    have e : x = y := by
      have h3 : x ∈ y :: b := p.subset List.mem_cons_self
      have h4 : y ∈ x :: a := p.symm.subset List.mem_cons_self
      rcases List.mem_cons.mp h3 with e | h3
      · exact e
      rcases List.mem_cons.mp h4 with e | h4
      · exact e.symm
      have := x1 y h4
      have := y1 x h3
      omega
    subst e
    rw [sorted_one ((List.perm_cons x).mp p) a1 b1]
section
variable [Tb]
variable {K : PySem.W.Frag} {E : XK} {ta tb te : TE} {wa wb we : WE}
def wDGet (a b : WE) : WE := fun ss t q x => a ss t (fun d t1 => b ss t1 (fun e t2 => match d with
  | .dct kvs => onO (keyD e) fun k => onO (lookD kvs k) fun f => q f t2
  | _ => False) x) x
theorem sn_dget (ha : Snd K E ta wa) (hb : Snd K E tb wb) : Snd K E (tDGet ta tb) (wDGet wa wb) := fun pp F H σ ss t Q q x R h X k =>
  ha pp F H σ ss t _ _ x R h X fun v d t1 F1 H1 s1 hv h1 => hb pp F1 H1 σ ss t1 _ _ x (R.step s1) h1 (X.step s1) fun u e t2 F2 H2 s2 hu h2 => by
    split at h2
    · obtain ⟨ky, e1, h2⟩ := onO_some h2
      obtain ⟨f, e2, h2⟩ := onO_some h2
      have hv2 := rp_mono s2.ff hv
      cases hv2 with
      | dct g1 g2 =>
        obtain ⟨w, g3, g4⟩ := rpD_get g2 e2
        rw [rp_key hu e1]
        have := DGet.k (k := ky) (s2.fh _ _ g1)
        rw [g3] at this
        exact ⟨_, w, rfl, this, k w f t2 F2 H2 (s1.trans s2) g4 h2⟩
    · exact h2.elim
inductive SndP (K : PySem.W.Frag) (E : XK) : List (TE × TE) → List (Key × WE) → Prop
  | nil : SndP K E [] []
  | cons {k : Key} {tv : TE} {we : WE} {ts : List (TE × TE)} {ws : List (Key × WE)} : Snd K E tv we → SndP K E ts ws → SndP K E ((tC (kV k), tv) :: ts) ((k, we) :: ws)
def wPs : List (Key × WE) → Ss → Int → (List (Key × Dt) → Int → Prop) → XQ → Prop
  | [], _, t, q, _ => q [] t
  | (k, w) :: r, ss, t, q, x => w ss t (fun d t1 => wPs r ss t1 (fun kd t2 => q ((k, d) :: kd) t2) x) x
theorem ps_ok : ∀ {ts : List (TE × TE)} {ws : List (Key × WE)}, SndP K E ts ws → ∀ pp F H σ ss t (Q : List (V × V) → Hp → Prop) q x, RelE K pp F H σ ss t → wPs ws ss t q x → XOk K E pp F H x →
    (∀ kv kd t' F' H', StE K pp F H F' H' t' → RpD K F' kv kd → q kd t' → Q (kv.map fun p => (kV p.1, p.2)) H') → tPairs ts σ H Q
  | _, _, .nil, pp, F, H, σ, ss, t, Q, q, x, R, h, X, k => k [] [] t F H R.refl .nil h
  | _, _, .cons (k := ky) hs hr, pp, F, H, σ, ss, t, Q, q, x, R, h, X, k =>
    hs pp F H σ ss t _ _ x R h X fun v d t1 F1 H1 s1 hv h1 =>
      ps_ok hr pp F1 H1 σ ss t1 _ _ x (R.step s1) h1 (X.step s1) fun kv kd t2 F2 H2 s2 hk h2 => k ((ky, v) :: kv) ((ky, d) :: kd) t2 F2 H2 (s1.trans s2) (.cons (rp_mono s2.ff hv) hk) h2
def wDisp (ws : List (Key × WE)) : WE := fun ss t q x => wPs ws ss t (fun kd t1 => (decide ((kd.map (·.1)).Nodup) = true ∧ kd.length ≤ 15) ∧ q (.dct kd) t1) x
theorem merge_one : ∀ (more kvs : List (Key × V)), ((kvs ++ more).map (·.1)).Nodup → mergeK kvs more = kvs ++ more
  | [], kvs, _ => by rw [List.append_nil]; rfl
  | p :: r, kvs, h => by
    have e : putK kvs p.1 p.2 = kvs ++ [p] := by
      unfold putK
      rw [if_neg]
      intro z
      obtain ⟨y, hy, ey⟩ := List.any_eq_true.mp z
      have ey : y.1 = p.1 := of_decide_eq_true ey
      rw [List.map_append, List.map_cons, List.nodup_append] at h
      exact h.2.2 y.1 (List.mem_map_of_mem hy) p.1 List.mem_cons_self ey
    show mergeK (putK kvs p.1 p.2) r = _
    rw [e, merge_one r (kvs ++ [p]) (by rw [List.append_assoc]; exact h), List.append_assoc]
    rfl
theorem sn_disp {ts : List (TE × TE)} {ws : List (Key × WE)} (h : SndP K E ts ws) : Snd K E (tDisp ts) (wDisp ws) := fun pp F H σ ss t Q q x R hw X k p hp => by
  have hF : F p = none := fresh_back R.fh hp
  have s0 : StE K pp F H F (upd H p (.dK [])) t := ⟨⟨.refl F, fun a o e => by rw [upd_ne (ne_of_none (R.fh a o e) hp)]; exact R.fh a o e, fun a o _ e => by rw [upd_ne (ne_of_none e hp)]; exact e, fun a h1 h2 => h1, fun q h => by
      by_cases z : q = p
      · subst z; rw [upd_same]; exact fun z => by cases z
      · rw [upd_ne z]; exact h⟩, fun P e => by
      obtain ⟨h1, ⟨h3, h5⟩, tt, r, h2, h4⟩ := R.pen P e
      have hs : Same H (upd H p (.dK [])) := fun a o e => by rw [upd_ne (ne_of_none e hp)]; exact e
      exact ⟨h1, ⟨h3, h5.up h5.1 hs⟩, tt, r, hs _ _ h2, h4⟩⟩
  refine ps_ok h pp F (upd H p (.dK [])) σ ss t _ _ x (R.step s0) hw (X.step s0) fun kv kd t1 F1 H1 s1 hk h1 => ?_
  have hnp : p ∉ pl pp := fun z => by
    obtain ⟨P, rfl, hm⟩ := pl_mem z
    exact (R.pen P rfl).there hm hp
  have e1 : H1 p = some (.dK []) := s1.gr.hh p _ hnp upd_same
  have e2 : F1 p = none := s1.gr.nw p hF (by rw [upd_same]; exact fun z => by cases z)
  obtain ⟨⟨hd, hl⟩, h1⟩ := h1
  have ek := rpD_kmap hk
  have elen : kv.length = kd.length := by have := congrArg List.length ek; simpa using this
  refine ⟨e1, kv, rfl, by omega, ?_⟩
  rw [merge_one kv [] (by rw [List.nil_append, ek]; exact of_decide_eq_true hd), List.nil_append]
  have s2 : StE K pp F H (upd F1 p (.dK kv)) (upd H1 p (.dK kv)) t1 := by
    have s01 := s0.trans s1
    refine ⟨⟨fun a o e => ?_, fun a o e => ?_, fun a o hm e => ?_, fun a h1 h2 => ?_, fun q h => ?_⟩, fun P e => ?_⟩
    · have := s01.gr.ff a o e
      rw [upd_ne (ne_of_none this e2)]; exact this
    · by_cases z : a = p
      · subst z; rw [upd_same] at e ⊢; exact e
      · rw [upd_ne z] at e ⊢; exact s01.gr.fh a o e
    · rw [upd_ne (ne_of_none e hp)]; exact s01.gr.hh a o hm e
    · rw [upd_ne (fun z => by rw [z] at h2; exact h2 hp)]; exact s01.gr.nw a h1 h2
    · by_cases z : q = p
      · subst z; rw [upd_same]; exact fun z => by cases z
      · rw [upd_ne z]; exact s01.gr.al q h
    · obtain ⟨h1, ⟨h3, h5⟩, tt, r, h2, h4⟩ := s01.pen P e
      have hpp : ∀ a ∈ pl (some P), a ≠ p := fun a ha z => hnp (by rw [e, ← z]; exact ha)
      refine ⟨by rw [upd_ne (hpp P.p List.mem_cons_self)]; exact h1, ⟨(fCell K P.c P.cells).m (same_new e2) h3, ⟨fun a ha => by rw [upd_ne (hpp a.1 (List.mem_cons_of_mem _ (List.mem_map_of_mem ha)))]; exact h5.1 a ha, fun a ha => ?_, h5.2.2⟩⟩, tt, r, by rw [upd_ne (hpp P.p List.mem_cons_self)]; exact h2, h4⟩
      obtain ⟨ps, g1, g2, g3⟩ := h5.2.1 a ha
      refine ⟨ps, by rw [upd_ne (hpp a.1 (List.mem_cons_of_mem _ (List.mem_map_of_mem ha)))]; exact g1, g2, fun pos cv hc => ?_⟩
      obtain ⟨c, q1, q2⟩ := g3 pos cv hc
      refine ⟨c, q1, ?_⟩
      by_cases z : c = p
      · subst z; rw [e1] at q2; unfold LamX.CodeO at q2; cases q2
      · rw [upd_ne z]; exact q2
  exact k _ _ t1 _ _ s2 (.dct upd_same (rpD_mono (same_new e2) hk)) h1
/-! ### the first a new list of the def's own, two values behind it -/
def wPar3O (i j l : Nat) (wn : WA) (e f : WE) : WS := fun ss t P => wn ss t (fun ds t1 => e ss t1 (fun d t2 => f ss t2 (fun g t3 => P.nx (((ss.set i (.own ds)).set j (.val d)).set l (.val g)) t3) P.x) P.x) P.x
theorem sb_par3O {i j l : Nat} {tn : TE} {wn : WA} {tf : TE} {wf : WE} (hn : SndN K E tn wn) (he : Snd K E te we) (hf : Snd K E tf wf) : SndB K E (tPar3 i j l (tCons tn (tCons te (tCons tf tNil)))) (wPar3O i j l wn we wf) := fun B D F H σ ss t P r hw k =>
  hn B.pp F H σ ss t _ _ _ r.toE hw (k.xok r) fun p xs ds t1 F1 H1 s1 hp hl h1 => by
    have r1 := r.step s1
    have f1 : F1 p = none := fresh_back s1.fh hp
    have hnp : p ∉ pl B.pp := fun z => by
      obtain ⟨P', e, hm⟩ := pl_mem z
      exact (s1.pen P' e).there (by rw [← e]; exact e ▸ hm) hp
    have sL : StE K B.pp F1 H1 F1 (upd H1 p (.lst xs)) t1 := ⟨⟨.refl F1, fun a o e => by rw [upd_ne (ne_of_none (s1.fh a o e) hp)]; exact s1.fh a o e, fun a o _ e => by rw [upd_ne (ne_of_none e hp)]; exact e, fun a h1 h2 => h1, fun q h => by
      by_cases z : q = p
      · subst z; rw [upd_same]; exact fun z => by cases z
      · rw [upd_ne z]; exact h⟩, fun P' e => by
      obtain ⟨h1, ⟨h3, h5⟩, tt, rr, h2, h4⟩ := s1.pen P' e
      have hs : Same H1 (upd H1 p (.lst xs)) := fun a o e => by rw [upd_ne (ne_of_none e hp)]; exact e
      exact ⟨h1, ⟨h3, h5.up h5.1 hs⟩, tt, rr, hs _ _ h2, h4⟩⟩
    have kx := (k.up s1.ff).xok r1
    refine he B.pp F1 (upd H1 p (.lst xs)) σ ss t1 _ _ _ (r1.toE.step sL) h1 (kx.step sL) fun v d t2 F2 H2 s2 hv h2 => ?_
    refine hf B.pp F2 H2 σ ss t2 _ _ _ ((r1.toE.step sL).step s2) h2 ((kx.step sL).step s2) fun u g t3 F3 H3 s3 hu h3 => ?_
    have s23 := s2.trans s3
    have e3 : H3 p = some (.lst xs) := s23.gr.hh p _ hnp upd_same
    have f3 : F3 p = none := s23.gr.nw p f1 (by rw [upd_same]; exact fun z => by cases z)
    have hm : minus (upd H1 p (.lst xs)) p = H1 := by
      funext a
      unfold minus
      by_cases z : a = p
      · subst z; rw [if_pos rfl, hp]
      · rw [if_neg z, upd_ne z]
    have s13 : StE K B.pp F1 H1 F3 (minus H3 p) t3 := stE_minus (by rw [hm]; exact r1.toE.refl) s23 ⟨_, upd_same⟩ hnp
    have r3 := r1.step s13
    have hq : minus H3 p p = none := by unfold minus; rw [if_pos rfl]
    have hb : upd (minus H3 p) p (.lst xs) = H3 := by
      funext a
      by_cases z : a = p
      · subst z; rw [upd_same, e3]
      · rw [upd_ne z]; unfold minus; rw [if_neg z]
    have r4 := r3.newO (i := i) hq (rpA_mono s23.ff hl)
    rw [hb] at r4
    exact ⟨.ref p, v, u, rfl, k.nx F3 _ _ _ t3 (s1.ff.trans s23.ff) ((r4.set (rp_mono s3.ff hv)).set hu) h3⟩
/-! ### an int in a list or tuple of ints -/
def wInI : W2 := fun a b q => match a with
  | .int i => (match b with
    | .lst ds => onO (unI ds) fun ns => q (.bl (decide (i ∈ ns)))
    | .tup ds => onO (unI ds) fun ns => q (.bl (decide (i ∈ ns)))
    | _ => False)
  | _ => False
theorem inV_ints (i : Int) : ∀ ns : List Int, inV (.int i) (ns.map V.int) = decide (i ∈ ns)
  | [] => rfl
  | n :: ns => by
    have ih := inV_ints i ns
    unfold inV at ih ⊢
    rw [List.map_cons, List.any_cons, ih]
    show ((n == i) || decide (i ∈ ns)) = _
    by_cases z : n = i
    · subst z; simp
    · have z2 : ¬ i = n := fun q => z q.symm
      simp [z, z2]
theorem flat_ints (ns : List Int) : (ns.map V.int).all flatV = true := by
  rw [List.all_eq_true]
  intro v hv
  obtain ⟨n, _, rfl⟩ := List.mem_map.mp hv
  rfl
theorem sr_inI {K : PySem.W.Frag} : SndR K (rIn K false) wInI := fun F H x y a b Q q f hx hy h k => by
  unfold wInI at h
  split at h
  · rw [rp_int hx]
    split at h
    · obtain ⟨p, xs, rfl, h1, h2⟩ := rp_lst hy
      obtain ⟨ns, h3, h4⟩ := onO_some h
      rw [unI_eq h3] at h2
      rw [rpA_ints' h2] at h1
      exact ⟨p, _, rfl, .inl (same_l f h1), rfl, flat_ints ns, by rw [if_neg Bool.false_ne_true, inV_ints]; exact k _ _ F H (.refl f) (.bl _) h4⟩
    · obtain ⟨p, xs, rfl, h1, h2⟩ := rp_tup hy
      obtain ⟨ns, h3, h4⟩ := onO_some h
      rw [unI_eq h3] at h2
      rw [rpA_ints' h2] at h1
      exact ⟨p, _, rfl, .inr (same_t f h1), rfl, flat_ints ns, by rw [if_neg Bool.false_ne_true, inV_ints]; exact k _ _ F H (.refl f) (.bl _) h4⟩
    · exact h.elim
  · exact h.elim
end
theorem un1 {A : Around} (h : A.units + 64 < cLine) : A.units + 1 < cLine := by omega
/-! ### C(b = v, a = u), the other way about -/
theorem vals_rev : ∀ {xs : List V} {ys : List Value}, Vals xs ys → Vals xs.reverse ys.reverse
  | _, _, .nil => .nil
  | _, _, .cons h t => by
    rw [List.reverse_cons, List.reverse_cons]
    exact Vals.append (vals_rev t) (.cons h .nil)
theorem kbn_rev {K : PySem.W.Frag} {fd : FuncData} {ps ks : List Str} (to : ∀ (s : Shared) (us ws : List Value), K.In s.heap → us.length = 1 → ws.length = ks.length → BindsTo s fd ⟨us, ks.zip ws⟩ (ps.zip (us ++ ws.reverse))) : KBn K fd ps 1 ks (fun us ws => us ++ ws.reverse) (fun vs zs => vs ++ zs.reverse) :=
  ⟨to, fun r z => r.append (vals_rev z)⟩
section
variable [Tb]
def wMakeR (C : Addr) (T : Tpi) (m : Nat) (wa : WA) : WE := fun ss t q x => wa ss t (fun ds t1 => ds.length = m ∧ T ds.reverse (fun fs => q (.obj C fs) t1) fun X => x X t1) x
theorem sn_makeR {K : PySem.W.Frag} {E : XK} {C : Addr} {T : Tpi} {m : Nat} {ta : TA} {wa : WA} (h : SndA K E ta wa) : Snd K E (tMakeK C 0 m (spI K C T) (fun vs zs => vs ++ zs.reverse) E tNil ta) (wMakeR C T m wa) := fun pp F H σ ss t Q q x r hw X k =>
  h pp F H σ ss t _ _ x r hw X fun vs ds t1 F1 H1 s1 hv h1 => by
    have g := make_ok (r.step s1) (rpA_rev hv) h1.2 (fun v fs F' H' s hr hq => k v _ t1 F' H' (s1.trans s) hr hq) fun Y dd fv F' H' s h2 h3 hx => X Y dd fv F' H' t1 (s1.trans s) h2 h3 hx
    rw [List.append_nil] at g
    exact ⟨rfl, (rpA_len hv).trans h1.1, g⟩
end
/-! ### two fields of the new object from a pair -/
theorem putD_len {f : Str} {d : Dt} : ∀ {fs : List (Str × Dt)}, (putD f d fs).length ≤ fs.length + 1
  | [] => Nat.le_refl _
  | (g, x) :: r => by
    rw [putD]
    split
    · rw [List.length_cons, List.length_cons]; omega
    · have := putD_len (f := f) (d := d) (fs := r)
      rw [List.length_cons, List.length_cons]; omega
def gFld (K : PySem.W.Frag) (to : TE) (f : Str) : TG := fun v σ H Q => to σ H fun x H1 => ∃ a C dx fs, x = .ref a ∧ H1 a = some (.ins C dx fs) ∧ Cls K C ∧ NoAttr K C f ∧ fs.length < 1000 ∧ Q σ (upd H1 a (.ins C dx (putF f v fs)))
theorem pg_fld {X : Cx} {o : Expr} {f : Str} {pos : Pos} {to : TE} (ho : PE X o to) : PG X (.Attribute o f pos) (gFld X.K to f) := by
  refine ⟨fun pins s σ H v u Q I r h => ?_⟩
  rw [assign_Attribute]
  refine wpAny_bind (wpAny_holding (thn (ho.run pins s σ H _ I h) fun ov s1 ⟨x, H1, I1, r1, a, C, dx, fs, ex, ea, c, n, l, q⟩ => ?_))
  subst ex
  obtain rfl : ov = Value.ref a := r1
  refine wpAny_bind (wpAny_standAt (wpAny_bind (wpAny_holding (setattr_ok I1 ea c n l r fun s3 I3 => ?_))))
  exact wpAny_release ⟨σ, _, I3, q⟩
section
variable [Tb]
variable {K : PySem.W.Frag} {E : XK} {te : TE} {we : WE}
def wSetF2 (C : Addr) (i : Nat) (f g : Str) (e : WE) : WS := fun ss t P => e ss t (fun d t1 => match d, (ss[i]? : Option Sx) with
  | .tup [a, b], some (.slf C' fs) => (C' = C ∧ fs.length + 1 < 1000) ∧ P.nx (ss.set i (.slf C (putD g b (putD f a fs)))) t1
  | _, _ => False) P.x
theorem sb_setF2 {C : Addr} {i : Nat} {f g : Str} (hc : Cls K C) (hn : NoAttr K C f) (hn2 : NoAttr K C g) (h : Snd K E te we) : SndB K E (tAsg te (gTup K 2 (gCons (gFld K (tVar i) f) (gCons (gFld K (tVar i) g) gNil)))) (wSetF2 C i f g we) := fun B D F H σ ss t P r hw k => by
  refine h B.pp F H σ ss t _ _ _ r.toE hw (k.xok r) fun v d t1 F1 H1 s hv h1 => ?_
  split at h1
  · rename_i d' o a b C' fs e
    obtain ⟨⟨rfl, hl⟩, h1⟩ := h1
    obtain ⟨p0, xs, rfl, g0, ga⟩ := rp_tup hv
    obtain ⟨va, vb, rfl, gv, gw⟩ := rpA2 ga
    have r1 := r.step s
    obtain ⟨p, dx, fv, g1, g2, g3, g4⟩ := r1.env.slf i _ fs e
    have r2 := r1.putS (f := f) e g1 g3 g4 gv
    have il : i < ss.length := (List.getElem?_eq_some_iff.mp e).1
    have e2 : (ss.set i (.slf C' (putD f a fs)))[i]? = some (.slf C' (putD f a fs)) := by rw [List.getElem?_set_self il]
    obtain ⟨p2, dx2, fv2, k1, k2, k3, k4⟩ := r2.env.slf i _ _ e2
    rw [g1] at k1
    cases k1
    have hlen : fv.length = fs.length := rpF_len g4
    have hlen2 : fv2.length = (putD f a fs).length := rpF_len k4
    have hle : (putD f a fs).length ≤ fs.length + 1 := putD_len
    refine ⟨p0, [va, vb], rfl, same_t s.fh g0, rfl, va, [vb], rfl, .ref p, g1, p, _, dx, fv, rfl, g3, hc, hn, by omega, vb, [], rfl, .ref p, g1, p, _, dx2, fv2, rfl, k3, hc, hn2, by omega, rfl, ?_⟩
    have r3 := r2.putS (f := g) e2 g1 k3 k4 gw
    rw [List.set_set] at r3
    exact k.nx F1 _ _ _ t1 s.ff r3 h1
  · exact h1.elim
end
theorem lc_filtG [Tb] {wi : WA} {g : WG} {wt : WT} {we : WE} {vs : List Nat} {ss : Ss} {t : Int} {q : List Dt → Int → Prop} {x : XQ} {ds : List Dt} (p : Dt → Bool) (f : Dt → Dt) (hi : ∀ k : List Dt → Int → Prop, k ds t → wi ss t k x) (hl : ds.length ≤ 100000)
    (he : ∀ (d : Dt) (k : Dt → Int → Prop) (k0 : Int → Prop), d ∈ ds → (p d = true → k (f d) t) → (p d = false → k0 t) → g d (wipeE ss vs) fun s2 => wt s2 t (fun b t2 => if b = true then we s2 t2 k (fun _ _ => False) else k0 t2) fun _ _ => False)
    (hq : q ((ds.filter p).map f) t) : wLc wi g wt we vs ss t q x := by
  refine hi _ ⟨hl, fun i acc tt => acc = ((ds.take i).filter p).map f ∧ tt = t, ⟨by simp, rfl⟩, fun i d acc tt hd hI _ => ?_, fun acc tt hI => ?_⟩
  · obtain ⟨rfl, rfl⟩ := hI
    have hm := List.mem_of_getElem? hd
    have e2 : ds.take (i + 1) = ds.take i ++ [d] := by
      rw [List.take_succ, hd]; rfl
    refine he d _ _ hm (fun hp => ⟨?_, rfl⟩) fun hp => ⟨?_, rfl⟩
    · rw [e2, List.filter_append, List.map_append, List.filter_cons, hp]
      rfl
    · rw [e2, List.filter_append, List.map_append, List.filter_cons, hp]
      simp
  · obtain ⟨rfl, rfl⟩ := hI
    rw [List.take_length]
    exact hq
theorem kit_ne {K : PySem.W.Frag} {A B : Addr} (h1 : PySem.W.kitOne K (.ref A) (.ref B) = some false) (h2 : PySem.W.kitOne K (.ref B) (.ref B) = some true) : A ≠ B := fun z => by rw [z, h2] at h1; cases h1
end E

/-! sorted(set(t)), a truth of two classes -/
set_option Elab.async false
set_option linter.all false
set_option maxRecDepth 100000
set_option maxHeartbeats 2000000
namespace E
open L2 PySem PySem.Spec PyProof.Rows DL
def rSetT (K : PySem.W.Frag) (w : World) : List V → Hp → VK → Prop := fun vs H Q => ∃ (p : Addr) (ns : List Int), vs = [.ref p] ∧ SqT K H p (ns.map V.int) ∧ ns.length ≤ 60 ∧ ∀ q c, H q = none → c ≤ ns.length → Q (.ref q) (upd H q (SetO w q (fun j => decide (j ∈ ns)) c))
theorem cr_setT {X : Cx} (hc : X.calm = true) : CallR X (.type "set") (rSetT X.K X.w) := by
  intro pins s σ H vs us Q I r h
  obtain ⟨p, ns, rfl, hs, hl, q⟩ := h
  obtain ⟨its, rv, pt, hz⟩ := I.tuple hs
  rw [Vals.ref1 r]
  have hi : IntsAre its.toArray.toList ns := ints_of_vals rv
  refine call_set_tupI ns (I.ok.hd hc) (show s.heap.IsTuple p its.toArray from pt) hi (by unfold scanBound; omega) fun h' tk c R1 hcn k => ?_
  exact ⟨.ref _, upd H s.heap.objs.size (SetO X.w s.heap.objs.size (fun j => decide (j ∈ ns)) c), I.laid (t' := tk) (fun b u e => k b u e) (Nat.le_refl _) (setO_new R1), rfl, q _ c (I.hok.fresh (Nat.le_refl _)) hcn⟩
section
variable [Tb]
variable {K : PySem.W.Frag} {E : XK} {te : TE} {we : WE} {w : World}
/-- a new thing that no data speak of -/
theorem StE.extra {pp : Option Pi} {F H : Hp} {t : Int} {p : Addr} {o : HO} (f : Same F H) (pen : ∀ q, pp = some q → PenAt K F H q t) (hp : H p = none) : StE K pp F H F (upd H p o) t :=
  ⟨⟨.refl F, fun a u e => by rw [upd_ne (ne_of_none (f a u e) hp)]; exact f a u e, fun a u _ e => by rw [upd_ne (ne_of_none e hp)]; exact e, fun a h1 h2 => h1, fun q h => by
      by_cases z : q = p
      · subst z; rw [upd_same]; exact fun z => by cases z
      · rw [upd_ne z]; exact h⟩, fun P e => by
      obtain ⟨h1, ⟨h3, h5⟩, tt, r, h2, h4⟩ := pen P e
      have hs : Same H (upd H p o) := fun a u e => by rw [upd_ne (ne_of_none e hp)]; exact e
      exact ⟨h1, ⟨h3, h5.up h5.1 hs⟩, tt, r, hs _ _ h2, h4⟩⟩
def wSortSet (a : WE) : WE := fun ss t q x => a ss t (fun d t1 => match d with
  | .tup ds => onO (unI ds) fun ns => ns.length ≤ 60 ∧ ∀ ns' : List Int, ns'.Pairwise (· < ·) → (∀ k, k ∈ ns' ↔ k ∈ ns) → q (.lst (ns'.map .int)) t1
  | _ => False) x
theorem sn_sortset (ha : Snd K E te we) : Snd K E (tCB (rSortedSet w) (tCons (tCB (rSetT K w) (tCons te tNil)) tNil)) (wSortSet we) := fun pp F H σ ss t Q q x R hw X k =>
  ha pp F H σ ss t _ _ x R hw X fun v d t1 F1 H1 s1 hv h1 => by
    split at h1
    · obtain ⟨a, ys, rfl, g1, g2⟩ := rp_tup hv
      obtain ⟨ns, h3, hl, h4⟩ := onO_some h1
      rw [unI_eq h3] at g2
      refine ⟨a, ns, rfl, by rw [← rpA_ints' g2]; exact same_t s1.fh g1, hl, fun p c hp hc => ?_⟩
      refine ⟨p, _, c, rfl, upd_same, by omega, fun ns' p' m1 m2 m3 hp' => ?_⟩
      have sx := StE.extra (o := SetO w p (fun j => decide (j ∈ ns)) c) s1.fh s1.pen hp
      have r2 := (R.step s1).step sx
      exact k _ _ t1 _ _ ((s1.trans sx).trans (r2.alloc hp')) (.lst (Evl.sq_of upd_same) (rpA_ints ns')) (h4 ns' m1 fun j => (m2 j).trans ⟨fun z => of_decide_eq_true z, fun z => decide_eq_true z⟩)
    · exact h1.elim
/-! truth of one of two classes -/
def rTOr (r r' : V → Hp → (Bool → Hp → Prop) → Prop) : V → Hp → (Bool → Hp → Prop) → Prop := fun x H Q => r x H Q ∨ r' x H Q
theorem tru_or {X : Cx} {r r' : V → Hp → (Bool → Hp → Prop) → Prop} (h : TruR X r) (h' : TruR X r') : TruR X (rTOr r r') := fun pins s σ H x v Q I rx q => q.elim (h pins s σ H x v Q I rx) (h' pins s σ H x v Q I rx)
def wTrV (C : Addr) (T : Tp) (d : Dt) (q : Bool → Prop) : Prop := match d with
  | .obj C1 fs => C1 = C ∧ T [.obj C1 fs] (fun r => match r with
    | .bl k => q k
    | _ => False) fun _ => False
  | _ => False
def wTrOr (C C' : Addr) (T T' : Tp) (we : WE) : WT := fun ss t q x => we ss t (fun d t1 => wTrV C T d (fun k => q k t1) ∨ wTrV C' T' d (fun k => q k t1)) x
theorem trv_ok {C : Addr} {T : Tp} {pp : Option Pi} {F H F1 H1 : Hp} {t1 : Int} {v : V} {d : Dt} {q : Bool → Int → Prop} {Q : Bool → Hp → Prop} (s1 : StE K pp F H F1 H1 t1) (hv : Rp K F1 v d) (k : ∀ b t' F' H', StE K pp F H F' H' t' → q b t' → Q b H') (h1 : wTrV C T d fun k => q k t1) : rTruB C (spT K T) E0 v H1 Q := by
  unfold wTrV at h1
  split at h1
  · rename_i C1 fs
    obtain ⟨rfl, h1⟩ := h1
    obtain ⟨a, dx, fv, rfl, g1, g2⟩ := rp_obj hv
    refine ⟨a, dx, fv, rfl, s1.fh _ _ g1, F1, _, _, _, s1.fh, .cons hv .nil, h1, fun w d F2 H2 s hw hq => ?_, fun _ _ _ _ _ _ _ _ z => z.elim⟩
    split at hq
    · rename_i k1
      rw [rp_bl hw]
      exact ⟨k1, rfl, k k1 t1 F2 H2 (s1.trans (.of s s1.pen)) hq⟩
    · exact hq.elim
  · exact h1.elim
theorem st_truOr {C C' : Addr} {T T' : Tp} (h : Snd K E te we) : SndT K E (fun σ H Q => te σ H fun x H' => rTOr (rTruB C (spT K T) E0) (rTruB C' (spT K T') E0) x H' Q) (wTrOr C C' T T' we) := fun pp F H σ ss t Q q x r hw X k =>
  h pp F H σ ss t _ _ x r hw X fun v d t1 F1 H1 s1 hv h1 => h1.elim (fun z => .inl (trv_ok s1 hv k z)) fun z => .inr (trv_ok s1 hv k z)
end
end E
namespace E
open L2 PySem PySem.Spec PyProof.Rows DL
theorem pi_seqK [Tb] {X : Cx} {K : PySem.W.Frag} {tg l : Expr} {tl : TE} (hK : X.K = K) (hl : PE X l tl) : PI X tg l (iSeqM K tl) := hK ▸ pi_seqM hl
end E
namespace E
theorem map_pair {α β γ : Type} {o : Option α} {f : α → β} {g : α → γ} {b : β} {c : γ} (h1 : o.map f = some b) (h2 : o.map g = some c) : o.map (fun x => (f x, g x)) = some (b, c) := by
  cases o with
  | none => cases h1
  | some x =>
    have e1 : f x = b := Option.some.inj h1
    have e2 : g x = c := Option.some.inj h2
    show some (f x, g x) = some (b, c)
    rw [e1, e2]
end E
namespace Su
open L2 PySem PySem.Spec PyProof.Rows DL He
/-- what is seen at addresses that are told -/
def obsA (as : List Addr) (fa : List Fa) (fn : List DefD) (ts : List Tab) (tf : List Defn) (ex : PySem.W.Frag → Bool) (cs : List DefC) (g : Addr → Option Obj) : AlC :=
  (obsT fa fn ts (frT g as), ex (frT g as) && (tabsB g tf (frT g as) && cs.all fun d => d.ok (frT g as)), cs.map fun d => fnC (frT g as) (d.ad (frT g as)))
theorem saysA_of {as : List Addr} {fa : List Fa} {fn : List DefD} {ts : List Tab} {tf : List Defn} {ex : PySem.W.Frag → Bool} {cs : List DefC} {w : World} {h : Heap} (e : obsA as fa fn ts tf ex cs h.get? = valC fn ts cs w) : SaysC fa fn ts tf ex cs w h (frT h.get? as) := by
  obtain ⟨e1, e0⟩ := Prod.mk.inj (show (_, _) = (_, _) from e)
  obtain ⟨e2, e3⟩ := Prod.mk.inj (show (_, _) = (_, _) from e0)
  generalize hK : frT h.get? as = K at e1 e2 e3
  obtain ⟨h1, h2⟩ := ba e2
  obtain ⟨h3, h4⟩ := ba h2
  have each : ∀ p ∈ tf, PySem.W.codeHdIn K (cT K p).1 (cT K p).2 = true ∧ ∃ o, h.get? (cT K p).2 = some o ∧ emptyTab o = true := fun p hp => by
    obtain ⟨a, b⟩ := ba (List.all_eq_true.mp h3 p hp)
    refine ⟨a, ?_⟩
    split at b
    · rename_i o q
      exact ⟨o, q, b⟩
    · cases b
  refine ⟨⟨e1, h1, fun p hp => (each p hp).1, fun p hp => ?_, fun p hp => ?_⟩, fun d hd => List.all_eq_true.mp h4 d hd, e3⟩
  · obtain ⟨_, o, q, z⟩ := each p hp
    have y := frT_none (as := as) q z
    rw [hK] at y
    exact y
  · obtain ⟨_, o, q, z⟩ := each p hp
    rw [q, emptyTab_eq z]
def hookA (as : List Addr) (fa : List Fa) (fn : List DefD) (ts : List Tab) (tf : List Defn) (ex : PySem.W.Frag → Bool) (cs : List DefC) : PySem.W.Hook where
  α := AlC
  obs := fun s => obsA as fa fn ts tf ex cs s.heap.get?
  val := fun w => valC fn ts cs w
  says := fun w h => ∃ K : PySem.W.Frag, K.In h ∧ SaysC fa fn ts tf ex cs w h K
  of := fun _ _ e => ⟨_, frT_in, saysA_of e⟩
  keeps := fun _ _ _ ⟨K, hK, c⟩ k => ⟨K, PySem.W.Frag.In.keeps hK k, ⟨⟨c.x.t, c.x.more, c.x.hd, c.x.out, fun p hp => k _ _ (c.x.empty p hp)⟩, c.ok, c.val⟩⟩
theorem obsA_eq {as : List Addr} {fa : List Fa} {fn : List DefD} {ts : List Tab} {tf : List Defn} {ex : PySem.W.Frag → Bool} {cs : List DefC} {g : Addr → Option Obj} {s : Shared} (h : ∀ a, g a = s.heap.get? a) : obsA as fa fn ts tf ex cs g = (hookA as fa fn ts tf ex cs).obs s := by
  rw [show g = s.heap.get? from funext h] <;> rfl
end Su

/-! try: .. except C as e: .. : the clause reads the error -/
set_option Elab.async false
set_option linter.all false
set_option maxRecDepth 100000
set_option maxHeartbeats 2000000
namespace E
open L2 PySem PySem.Spec PyProof.Rows DL
variable [Tb]
variable {K : PySem.W.Frag}
theorem own_set_no {ss : Ss} {i j : Nat} (h : isOwn (ss.set i .no) j) : j ≠ i ∧ isOwn ss j := by
  rcases h with ⟨ds, h, ho⟩ | ⟨C, fs, h⟩
  · rcases set_get h with ⟨_, _, e⟩ | ⟨h1, h2⟩
    · subst e; cases ho
    · exact ⟨h1, .inl ⟨ds, h2, ho⟩⟩
  · rcases set_get h with ⟨_, _, e⟩ | ⟨h1, h2⟩
    · cases e
    · exact ⟨h1, .inr ⟨C, fs, h2⟩⟩
theorem Rel.unset {B : Bse} {F H : Hp} {σ : L2.St} {ss : Ss} {t : Int} {i : Nat} {o : Option V} (r : Rel K B F H σ ss t) : Rel K B F H (σ.set i o) (ss.set i .no) t where
  gr := r.gr
  env := r.env.unset
  ow := fun j ds e ho => by
    rcases set_get e with ⟨_, _, e'⟩ | ⟨h1, h2⟩
    · subst e'; cases ho
    · rw [set_ne h1]; exact r.ow j ds h2 ho
  slm := fun j C fs e => by
    rcases set_get e with ⟨_, _, e'⟩ | ⟨h1, h2⟩
    · cases e'
    · rw [set_ne h1]; exact r.slm j C fs h2
  sep := fun j k p hj hk e1 e2 => by
    obtain ⟨j1, j2⟩ := own_set_no hj
    obtain ⟨k1, k2⟩ := own_set_no hk
    rw [set_ne j1] at e1
    rw [set_ne k1] at e2
    exact r.sep j k p j2 k2 e1 e2
  pen := r.pen
  inv := fun j v B0 e => by
    rcases set_get e with ⟨_, _, e'⟩ | ⟨h1, h2⟩
    · cases e'
    · rw [set_ne h1]; exact r.inv j v B0 h2
/-- a suite whose clause works with the error: the other slots forgotten -/
def wClause (n i : Nat) (ws : WS) (P : Pst) (X : Xn) (t : Int) : Prop := ws ((List.replicate n .no).set i (.val (.exn X.C X.fs))) t ⟨fun s2 t2 => P.nx (s2.set i .no) t2, fun _ _ => False, fun _ _ => False, fun _ _ => False, fun _ _ => False⟩
def wTryWork (K : PySem.W.Frag) (n i : Nat) (c : Value) (wb : WS) (wc : WS) : WS := fun ss t P => wb ss t ⟨P.nx, P.rt, P.bk, P.ct, fun X t1 => PySem.W.exmOne K (.ref X.C) c = some true ∧ wClause n i wc P X t1⟩
theorem sb_tryWork {E : XK} {n i : Nat} {c : Value} {Wo : WX} {tb : XK → TS} {ts : TS} {wb ws : WS} (hi : i < n) (hb : ∀ E, SndB K E (tb E) wb) (hs : SndB K E0 ts ws) :
    SndB K E (fun D σ H => tb (EofW n (wKq K c i (fun _ _ _ => ts) Wo D)) D σ H) (wTryWork K n i c wb ws) := fun B D F H σ ss t P r hw k => by
  refine hb _ B D F H σ ss t _ r hw ⟨k.nx, k.rt, k.bk, k.ct, fun X dd fv F' H' t' e f h1 h2 h3 => ?_⟩
  intro σ' hl
  refine ⟨true, h3.1, fun _ => ⟨X.C, rfl, fun a ha => ?_⟩, fun z => by cases z⟩
  have fa : F' a = none := fresh_back f.gr.fh ha
  have m := same_new (o := exv a X.C (some dd)) fa
  have up : ∀ (l : Nat) (s : Sx), ((List.replicate n Sx.no).set i (.val (.exn X.C X.fs)))[l]? = some s → s = .no ∨ (l = i ∧ i < n ∧ s = .val (.exn X.C X.fs)) := fun l s q => by
    rcases set_get q with ⟨e1, e2, e3⟩ | ⟨_, e2⟩
    · exact .inr ⟨e1, by simpa using e2, e3⟩
    · rw [List.getElem?_replicate] at e2
      split at e2
      · cases e2; exact .inl rfl
      · cases e2
  have R2 : Rel K B (upd F' a (exv a X.C (some dd))) (upd H' a (exv a X.C (some dd))) (σ'.set i (some (.ref a))) ((List.replicate n Sx.no).set i (.val (.exn X.C X.fs))) t' := by
    refine ⟨f.gr.step ((Stp.refl f.gr.fh).alloc ha), ⟨by simp [hl], fun l d q => ?_, fun l q => ?_, fun l C fs q => ?_, fun l q => (by rcases up l _ q with z | ⟨_, _, z⟩ <;> cases z)⟩, fun l ds q ho => ?_, fun l C fs q => ?_, fun l l' p hl' _ _ _ => ?_, fun p q => ?_, fun l v B1 q => ?_⟩
    · rcases up l _ q with z | ⟨rfl, hjn, z⟩
      · cases z
      · cases z
        refine ⟨.ref a, ?_, .exn ⟨dd, .inl upd_same, .inl ?_⟩ (rpF_mono m h2)⟩
        · rw [List.getElem?_set, if_pos rfl, if_pos (by omega)]
        · rw [upd_ne (fun z => by rw [z, fa] at h1; cases h1)]; exact h1
    · rcases up l _ q with z | ⟨_, _, z⟩ <;> cases z
    · rcases up l _ q with z | ⟨_, _, z⟩ <;> cases z
    · rcases up l _ q with z | ⟨_, _, z⟩ <;> (subst z; cases ho)
    · rcases up l _ q with z | ⟨_, _, z⟩ <;> cases z
    · rcases hl' with ⟨es, q, ho⟩ | ⟨C, fs, q⟩
      · rcases up l _ q with z | ⟨_, _, z⟩ <;> (subst z; cases ho)
      · rcases up l _ q with z | ⟨_, _, z⟩ <;> cases z
    · have fin : Fin K B (upd F' a (exv a X.C (some dd))) (upd H' a (exv a X.C (some dd))) t' := by
        refine ⟨f.gr.step ((Stp.refl f.gr.fh).alloc ha), fun p q => pen_stp ((Stp.refl f.gr.fh).alloc ha) (f.pen p q)⟩
      exact ⟨fin.pen p q, (r.pen p q).2⟩
    · rcases up l _ q with z | ⟨_, _, z⟩ <;> cases z
  exact hs B _ _ _ _ _ t' _ R2 h3.2 ⟨fun F2 H2 σ2 ss2 t2 e2 r2 hq => k.nx F2 H2 (σ2.set i none) (ss2.set i .no) t2 ((e.trans m).trans e2) r2.unset hq, fun _ _ _ _ _ _ _ _ z => z.elim, fun _ _ _ _ _ _ _ z => z.elim, fun _ _ _ _ _ _ _ z => z.elim, fun _ _ _ _ _ _ _ _ _ _ z => z.elim⟩
end E
namespace E
open L2 PySem PySem.Spec PyProof.Rows DL
theorem pe_xvK {X : Cx} {K : PySem.W.Frag} {e : Expr} {te : TE} {pos : Pos} {n : Str} (hK : X.K = K) (he : PE X e te) (hb : attributeBase e n X.env (eval e X.env) = eval e X.env := by rfl) : PE X (.Attribute e n pos) (tXv K n te) := hK ▸ pe_xv he hb
end E

set_option Elab.async false
set_option linter.all false
set_option maxRecDepth 100000
set_option maxHeartbeats 2000000
/-! texts: their methods, int(text), str(o) by an own __str__, staticmethods, == with what is no own object -/
namespace E
open L2 PySem PySem.Spec PyProof.Rows DL
open Evl (sq_of st_of sz_of sz_lt ixN_nat)
variable [Tb]
/-! ### methods -/
def wM0 (w : Str → (Dt → Prop) → Prop) (a : WE) : WE := fun ss t q x => a ss t (fun d t1 => match d with
  | .str z => w z fun r => q r t1
  | _ => False) x
def wM1 (w : Str → Dt → (Dt → Prop) → Prop) (a b : WE) : WE := fun ss t q x => a ss t (fun d t1 => match d with
  | .str z => b ss t1 (fun e t2 => w z e fun r => q r t2) x
  | _ => False) x
def SndM0 (K : PySem.W.Frag) (r : V → List V → Hp → VK → Prop) (w : Str → (Dt → Prop) → Prop) : Prop := ∀ F H z Q q, Same F H → w z q → (∀ v d F' H', Stp F H F' H' → Rp K F' v d → q d → Q v H') → r (.str z) [] H Q
def SndM1 (K : PySem.W.Frag) (r : V → List V → Hp → VK → Prop) (w : Str → Dt → (Dt → Prop) → Prop) : Prop := ∀ F H z y e Q q, Same F H → Rp K F y e → w z e q → (∀ v d F' H', Stp F H F' H' → Rp K F' v d → q d → Q v H') → r (.str z) [y] H Q
section
variable {K : PySem.W.Frag} {E : XK} {ta tb : TE} {wa wb : WE}
theorem sn_m0 {r : V → List V → Hp → VK → Prop} {w : Str → (Dt → Prop) → Prop} (hr : SndM0 K r w) (ha : Snd K E ta wa) : Snd K E (tM0 r ta) (wM0 w wa) := fun pp F H σ ss t Q q x R h X k =>
  ha pp F H σ ss t _ _ x R h X fun v d t1 F1 H1 s1 hv h1 => by
    split at h1
    · rename_i z
      have e := rp_str hv
      subst e
      exact ⟨⟨z, rfl⟩, hr F1 H1 z _ _ s1.fh h1 fun u f F3 H3 s3 hz h3 => k u f t1 F3 H3 (s1.trans (.of s3 s1.pen)) hz h3⟩
    · exact h1.elim
theorem sn_m1 {r : V → List V → Hp → VK → Prop} {w : Str → Dt → (Dt → Prop) → Prop} (hr : SndM1 K r w) (ha : Snd K E ta wa) (hb : Snd K E tb wb) : Snd K E (tM1 r ta tb) (wM1 w wa wb) := fun pp F H σ ss t Q q x R h X k =>
  ha pp F H σ ss t _ _ x R h X fun v d t1 F1 H1 s1 hv h1 => by
    split at h1
    · rename_i z
      have e := rp_str hv
      subst e
      exact ⟨⟨z, rfl⟩, hb pp F1 H1 σ ss t1 _ _ x (R.step s1) h1 (X.step s1) fun u e t2 F2 H2 s2 hu h2 => hr F2 H2 z u e _ _ s2.fh hu h2 fun y f F3 H3 s3 hz h3 => k y f t2 F3 H3 ((s1.trans s2).trans (.of s3 s2.pen)) hz h3⟩
    · exact h1.elim
abbrev rAscii : V → List V → Hp → VK → Prop := fun x xs H Q => ∃ a, x = .str a ∧ xs = [] ∧ True ∧ Q (.bl (Txt.isascii a)) H
abbrev rDigit : V → List V → Hp → VK → Prop := fun x xs H Q => ∃ a, x = .str a ∧ xs = [] ∧ True ∧ Q (.bl (Txt.isdigit a)) H
abbrev rStarts : V → List V → Hp → VK → Prop := fun x xs H Q => ∃ a b, x = .str a ∧ xs = [.str b] ∧ Q (.bl (Txt.startswith a b)) H
def rSplitE : V → List V → Hp → VK → Prop := fun x xs H Q => ∃ a b, x = .str a ∧ xs = [.str b] ∧ (b.length == 0) = false ∧ a.length + 2 ≤ sizeLine ∧ rNewStrs (Txt.split a b) H Q
def rJoinE (K : PySem.W.Frag) : V → List V → Hp → VK → Prop := fun x xs H Q => ∃ a p, ∃ ys : List Str, x = .str a ∧ xs = [.ref p] ∧ (SqL K H p (ys.map V.str) ∨ SqT K H p (ys.map V.str)) ∧ (ys.map (·.length)).sum + ys.length * a.length ≤ 16777216 ∧ Q (.str (Txt.join a ys)) H
def wAscii (z : Str) (q : Dt → Prop) : Prop := q (.bl (Txt.isascii z))
def wDigit (z : Str) (q : Dt → Prop) : Prop := q (.bl (Txt.isdigit z))
def wStarts (z : Str) (e : Dt) (q : Dt → Prop) : Prop := match e with
  | .str b => q (.bl (Txt.startswith z b))
  | _ => False
def wSplit (z : Str) (e : Dt) (q : Dt → Prop) : Prop := match e with
  | .str b => (b.length == 0) = false ∧ z.length ≤ 16000000 ∧ q (.lst ((Txt.split z b).map .str))
  | _ => False
def unS : List Dt → Option (List Str)
  | [] => some []
  | .str x :: r => (unS r).map (x :: ·)
  | _ => none
theorem unS_map : ∀ l : List Str, unS (l.map .str) = some l
  | [] => rfl
  | x :: r => by
    show (unS (r.map .str)).map (x :: ·) = _
    rw [unS_map r]; rfl
theorem unS_eq : ∀ {ds : List Dt} {l : List Str}, unS ds = some l → ds = l.map .str
  | [], l, h => by cases h; rfl
  | .str x :: r, l, h => by
    have h : (unS r).map (x :: ·) = some l := h
    cases q : unS r with
    | none => rw [q] at h; cases h
    | some m => rw [q] at h; cases h; rw [List.map_cons, unS_eq q]
  | .non :: _, _, h => by cases h
  | .bl _ :: _, _, h => by cases h
  | .int _ :: _, _, h => by cases h
  | .lst _ :: _, _, h => by cases h
  | .tup _ :: _, _, h => by cases h
  | .obj _ _ :: _, _, h => by cases h
  | .exn _ _ :: _, _, h => by cases h
  | .ty _ :: _, _, h => by cases h
  | .cls _ :: _, _, h => by cases h
  | .dct _ :: _, _, h => by cases h
/-- the texts of a list or tuple -/
def strsD : Dt → Option (List Str)
  | .lst ds => unS ds
  | .tup ds => unS ds
  | _ => none
def wJoin (z : Str) (e : Dt) (q : Dt → Prop) : Prop := onO (strsD e) fun ys => (ys.map (·.length)).sum + ys.length * z.length ≤ 16777216 ∧ q (.str (Txt.join z ys))
theorem sm_ascii : SndM0 K rAscii wAscii := fun F H z Q q f h k => ⟨z, rfl, rfl, trivial, k _ _ F H (.refl f) (.bl _) h⟩
theorem sm_digit : SndM0 K rDigit wDigit := fun F H z Q q f h k => ⟨z, rfl, rfl, trivial, k _ _ F H (.refl f) (.bl _) h⟩
theorem sm_starts : SndM1 K rStarts wStarts := fun F H z y e Q q f hy h k => by
  unfold wStarts at h
  split at h
  · rename_i b
    exact ⟨z, b, rfl, by rw [rp_str hy], k _ _ F H (.refl f) (.bl _) h⟩
  · exact h.elim
theorem sm_split : SndM1 K rSplitE wSplit := fun F H z y e Q q f hy h k => by
  unfold wSplit at h
  split at h
  · rename_i b
    obtain ⟨h1, h2, h3⟩ := h
    refine ⟨z, b, rfl, by rw [rp_str hy], h1, Nat.le_trans (Nat.add_le_add_right h2 2) (by decide), fun p hp => ?_⟩
    have hF : F p = none := fresh_back f hp
    exact k _ _ (upd F p (.lst ((Txt.split z b).map V.str))) _ ((Stp.refl f).alloc hp) (.lst (sq_of upd_same) (rpA_strs _)) h3
  · exact h.elim
theorem sm_join : SndM1 K (rJoinE K) wJoin := fun F H z y e Q q f hy h k => by
  obtain ⟨ys, h1, h2, h3⟩ := onO_some h
  cases e with
  | lst ds =>
    have e1 := unS_eq (show unS ds = some ys from h1)
    subst e1
    obtain ⟨a, xs, rfl, g1, g2⟩ := rp_lst hy
    rw [rpA_strs' g2] at g1
    exact ⟨z, a, ys, rfl, rfl, .inl (same_l f g1), h2, k _ _ F H (.refl f) (.str _) h3⟩
  | tup ds =>
    have e1 := unS_eq (show unS ds = some ys from h1)
    subst e1
    obtain ⟨a, xs, rfl, g1, g2⟩ := rp_tup hy
    rw [rpA_strs' g2] at g1
    exact ⟨z, a, ys, rfl, rfl, .inr (same_t f g1), h2, k _ _ F H (.refl f) (.str _) h3⟩
  | _ => cases h1
/-! ### int(text), str(int) -/
def rIntT : List V → Hp → VK → Prop := fun xs H Q => ∃ a n, xs = [.str a] ∧ PySem.intText? a = some n ∧ a.length ≤ 640 ∧ Q (.int n) H
theorem call_intT {X : Cx} : CallR X (.type "int") rIntT := call_int_str
def wIntT : WL := fun ds q => match ds with
  | [.str z] => z.length ≤ 640 ∧ onO (PySem.intText? z) fun n => q (.int n)
  | _ => False
theorem sc_intT : SndC K rIntT wIntT := fun F H xs as Q q f hv h k => by
  unfold wIntT at h
  split at h
  · rename_i z
    obtain ⟨h1, h2⟩ := h
    obtain ⟨n, h3, h4⟩ := onO_some h2
    cases hv with
    | cons g1 g2 =>
      cases g2
      have e := rp_str g1
      subst e
      exact ⟨z, n, rfl, h3, h1, k _ _ F H (.refl f) (.int n) h4⟩
  · exact h.elim
def rStrI : List V → Hp → VK → Prop := fun xs H Q => ∃ i, xs = [.int i] ∧ i.natAbs.log2 < 1920 ∧ Q (.str (Str.ofString (toString i))) H
theorem call_strI {X : Cx} : CallR X (.type "str") rStrI := call_str_int
def wStrI : WL := fun ds q => match ds with
  | [.int i] => i.natAbs < 2 ^ 1900 ∧ q (.str (Str.ofString (toString i)))
  | _ => False
theorem log2_lt {n : Nat} (h : n < 2 ^ 1900) : n.log2 < 1920 := by
  by_cases z : n = 0
  · subst z; decide
  · have := (Nat.log2_lt z).mpr h
    omega
theorem sc_strI : SndC K rStrI wStrI := fun F H xs as Q q f hv h k => by
  unfold wStrI at h
  split at h
  · rename_i i
    cases hv with
    | cons g1 g2 =>
      cases g2
      have e := rp_int g1
      subst e
      exact ⟨i, rfl, log2_lt h.1, k _ _ F H (.refl f) (.str _) h.2⟩
  · exact h.elim
/-! ### str(o) -/
def rStrOwn (C : Addr) (sp : Sp) (E : XK) : List V → Hp → VK → Prop := fun xs H Q => ∃ a dx fs, xs = [.ref a] ∧ H a = some (.ins C dx fs) ∧ sp [.ref a] H (fun v H' => ∃ z, v = .str z ∧ Q v H') E
theorem call_strOwn {X : Cx} {CX : CXT} {n : Nat} {C f : Addr} {fd : FuncData} {ps : List Str} {sp : Sp} {E : XK} (F : FnOk X.prog X.w X.K X.mg X.base CX n f fd ps sp) (hs : PySem.W.findIn X.K (.ref C) "__str__" = some (some (.ref f))) (hf : PySem.W.isFn X.K (.ref f) = true)
    (hb : Binds X.K fd ps []) (hx : Passes CX X E) (hr : Room (n + 2) X.A) : CallR X (.type "str") (rStrOwn C sp E) := by
  intro pins s σ H xs us Q I r h
  obtain ⟨a, dx, fs, rfl, hsl, q⟩ := h
  obtain ⟨u, rfl, ru⟩ := r.one
  cases (show u = Value.ref a from ru)
  obtain ⟨mA, J, _⟩ := ins_get I.hok hsl
  obtain ⟨od, J, _⟩ := J.look
  have hr1 : Room (n + 1) X.A.in1 := Room.in1 hr
  have hr2 : Room n X.A.in1.in1 := hr1.in1
  have e0 : Env0 X.prog X.w X.K X.mg X.base X.A.in1.in1 X.stack s H := I.env0.in1.in1
  have hl := F.len _ _ _ _ q
  have r2 : Vals [V.ref a] [Value.ref a] := .cons rfl .nil
  refine PySem.W.kso_call hr2.units0 I.kIn J hs hf (wpAny_call (codeAny_mono (F.run X.A.in1.in1 X.stack s H ⟨[.ref a], []⟩ [.ref a] [.ref a] _ E hr2 e0 (by
    have := hb s [.ref a] I.kIn (by simpa using hl)
    simpa using this) r2 q) fun r s' hq => ?_))
  cases r with
  | error e => exact hx pins σ H s e s' I hq
  | ok fl =>
    cases fl with
    | ret u =>
      obtain ⟨v, H', I', rv, z, rfl, q⟩ := I.after hq
      obtain ⟨t, rfl⟩ := (show ∃ t, u = Value.str z t from rv)
      exact ⟨.str z, H', I', ⟨t, rfl⟩, q⟩
    | next => exact False.elim hq
    | brk => exact False.elim hq
    | cont => exact False.elim hq
end

/-- over data: o of the class at C -/
def wStrOwn (C : Addr) (T : Tp) : WL := fun ds q => match ds with
  | [.obj C1 fs] => C1 = C ∧ T [.obj C1 fs] (fun r => match r with
    | .str z => q (.str z)
    | _ => False) fun _ => False
  | _ => False
theorem sc_strOwn {K : PySem.W.Frag} {C : Addr} {T : Tp} : SndC K (rStrOwn C (spT K T) E0) (wStrOwn C T) := fun F H xs as Q q f hv h k => by
  unfold wStrOwn at h
  split at h
  · rename_i C1 fs
    obtain ⟨rfl, h⟩ := h
    cases hv with
    | cons g1 g2 =>
      cases g2
      obtain ⟨p1, dx, fv, rfl, e1, e2⟩ := rp_obj g1
      refine ⟨p1, dx, fv, rfl, f _ _ e1, F, _, _, _, f, .cons g1 .nil, h, fun v d F2 H2 s hv hq => ?_, fun _ _ _ _ _ _ _ _ z => z.elim⟩
      split at hq
      · rename_i z
        rw [rp_str hv]
        exact ⟨z, rfl, k _ (.str z) F2 H2 s (.str z) hq⟩
      · exact hq.elim
  · exact h.elim
/-! ### C.m(..), m a staticmethod -/
section
variable {X : Cx} {CX : CXT} {k : Nat} {C p f : Addr} {fd : FuncData} {ps ks : List Str} {sp : Sp} {E1 : XK} {o e : Expr} {es : List Expr} {m : Str} {pos apos : Pos} {t tk : TA} {pl : Sem Bool}
theorem getsta {pins : List (Addr × Obj)} {σ : L2.St} {H : Hp} {s : Shared} {A : Around} {E : Value → Shared → Prop} {Q : Value × List Value → Shared → Prop} (I : Inv X pins σ H s) (S : Su.StaF X.K C p f m) (h : ∀ s', Inv X pins σ H s' → Q (.ref f, []) s') :
    wpAny (model X.prog X.w) A (getMethod (.ref C) m pl) Q E s := by
  obtain ⟨rest, hp⟩ := S.rc
  refine PySem.W.method_cls I.kIn S.ga (PySem.W.cls_bind I.kIn S.rd S.at_ (wpAny_call (PySem.W.sm_get (s := { s with toks := s.toks + 1 }) I.kIn hp (PySem.W.handed_on rfl ?_))))
  exact h _ (I.tok _)
theorem pe_sta {cx : Str} {cp : Pos} (hg : Gl X cx) (hm : X.mg cx = some (.ref C)) (S : Su.StaF X.K C p f m) (F : FnOk X.prog X.w X.K X.mg X.base CX k f fd ps sp) (hk : PySem.W.keepIn X.K (.ref f) = true) (hb : Binds X.K fd ps []) (hr : Room k X.A) (hx : Passes CX X E1) (ha : PA X (e :: es) t)
    (hd : (cx == ("__debug__" : Str)) = false := by decide) (hst : starEach (e :: es) X.env = (false, eval e X.env) :: starEach es X.env := by rfl) (hpl : (backTo pos (starEach es X.env)).any (·.1) = false := by rfl)
    (ht : eval (.Call (.Attribute (.Name cx cp) m apos) (e :: es) [] pos) X.env = (do
      let ov ← eval (.Name cx cp) X.env
      standAt apos.atName
      let (f, first) ← holding [ov] (getMethod ov m pl)
      callWith pos f first (backTo pos (starEach (e :: es) X.env)) (backToKw pos (keywordEach [] X.env))) := by rfl) :
    PE X (.Call (.Attribute (.Name cx cp) m apos) (e :: es) [] pos) (tCall sp [] E1 t) := by
  refine ⟨fun pins s σ H Q I h => ?_⟩
  refine PySem.W.methodCall_KW (pl := pl) (ld_glob I hg hm ?_ hd) ht
  refine getsta I S fun s2 I2 => ?_
  refine PySem.W.callWith_K (h₀ := X.base) I.ok.mod.kin hk (thn (ha.run pos pins s2 σ H _ I2 h) fun us s1 ⟨vs, H1, I1, r, q⟩ => ⟨I1.kIn, ?_⟩) hst hpl
  exact run_fn F hr hb .nil hx I1 r q
theorem pe_staK {cx : Str} {cp : Pos} {kws : List Keyword} {g : List Value → List Value → List Value} {gV : List V → List V → List V} (hg : Gl X cx) (hm : X.mg cx = some (.ref C)) (S : Su.StaF X.K C p f m) (F : FnOk X.prog X.w X.K X.mg X.base CX k f fd ps sp) (hk : PySem.W.keepIn X.K (.ref f) = true) (hb : KBinds X.K fd ps ks g gV) (hr : Room k X.A) (hx : Passes CX X E1)
    (kk : PK X kws tk) (hd : (cx == ("__debug__" : Str)) = false := by decide) (all : (backToKw pos (keywordEach kws X.env)).all (·.1.isSome) = true := by rfl) (nm : (backToKw pos (keywordEach kws X.env)).filterMap (·.1) = ks := by rfl)
    (pl0 : ((backTo pos (starEach [] X.env)).any (·.1) || (backToKw pos (keywordEach kws X.env)).any (·.1.isNone)) = false := by rfl)
    (ht : eval (.Call (.Attribute (.Name cx cp) m apos) [] kws pos) X.env = (do
      let ov ← eval (.Name cx cp) X.env
      standAt apos.atName
      let (f, first) ← holding [ov] (getMethod ov m pl)
      callWith pos f first (backTo pos (starEach [] X.env)) (backToKw pos (keywordEach kws X.env))) := by rfl) :
    PE X (.Call (.Attribute (.Name cx cp) m apos) [] kws pos) (tCallK sp gV E1 tNil tk) := by
  refine ⟨fun pins s σ H Q I h => ?_⟩
  refine PySem.W.methodCall_KW (pl := pl) (ld_glob I hg hm ?_ hd) ht
  refine getsta I S fun s2 I2 => ?_
  refine PySem.W.callWith_KW0 (h₀ := X.base) I.ok.mod.kin hk all (thn (kk.run pos pins s2 σ H _ I2 h) fun ws s3 ⟨zs, H2, I3, rz, q2⟩ => ⟨I3.kIn, ?_⟩) pl0
  rw [nm]
  exact run_fnk (us := []) (vs := []) F hr hb hx I3 .nil rz q2
end
/-! ### == and != of an own object and what is none -/
section
open PySem.W
theorem looks_ty {M : Model} {s : Shared} {v : Value} {T : String} (h : s.TypeIs v T) : Looks M s.heap (typeOf v) (.type T) := fun A Q E s' k q => wpAny_typeOf (s := s') (by
  cases v with
  | ref a => obtain ⟨o, ho, hc⟩ := h; exact ⟨o, k _ _ ho, hc⟩
  | _ => exact h) q
variable {prog : Program} {w : World} {A : Around} {E : Value → Shared → Prop} {s : Shared} {K : Frag} {x C f : Addr} {ox : Obj} {od : Option Obj} {b tb : Value}
theorem objNe_V {Q : PySem.Fin → Shared → Prop} (hu : A.units < cLine) (X : K.In s.heap) (I : InstAt s.heap x ox C od) (hs : findIn K (.ref C) "__eq__" = some (some (.ref f))) (hf : isFn K (.ref f) = true)
    (h : wpAny (model prog w) A (call (.ref f) [.ref x, b]) (fun v s' => ∃ b, v = .bool b ∧ Q (.done (.ret (.bool (!b)))) s') E s) :
    wpAny (model prog w) A (Builtin.«object.__ne__» ⟨[.ref x, b], []⟩) Q E s := by
  unfold Builtin.«object.__ne__»
  repeat (first
    | with_reducible refine wpAny_cRoomFor hu ?_
    | (refine wpAny_bind (m := callSpecialIfBound? (.ref x) (Str.ofString "__eq__") [b])
        (ifBound_K X I hs hf (wpAny_mono h (fun r s' hr => by
          obtain ⟨b, rfl, hq⟩ := hr
          repeat (first | exact hq | exact wpAny_pure hq | exact wpAny_truthy_bool hq | (refine wpAny_bind (m := truthy (.bool _)) (wpAny_truthy_bool ?_)) | wp_step)) fun _ _ e => e)))
    | wp_step)
theorem ne_V {Q : Value → Shared → Prop} (hu : A.units + 1 < cLine) (X : K.In s.heap) (I : InstAt s.heap x ox C od) (hb : Looks (model prog w) s.heap (typeOf b) tb) (hn : notFirst K C tb = true) (hs : findIn K (.ref C) "__eq__" = some (some (.ref f))) (hf : isFn K (.ref f) = true)
    (hne : findIn K (.ref C) "__ne__" = some (some (.builtin "object.__ne__"))) (hm : mroIn K C (.type "object") = some true)
    (h : wpAny (model prog w) A.in1 (call (.ref f) [.ref x, b]) (fun v s' => ∃ b, v = .bool b ∧ Q (.bool (!b)) s') E s) : wpAny (model prog w) A (richCompare .NotEq (.ref x) b) Q E s := by
  have SB := PySem.F.cmp_object
  have hbind := SB.ne.bind
  have hpl := SB.ne.plain
  have sub : Looks (model prog w) s.heap (isInstance (.ref x) (.type "object")) true := I.type.andThen (looks_mroIn X hm)
  have one : wpAny (model prog w) A (tryCompare (.ref x) "__ne__" b) (fun r s' => ∃ v, r = some v ∧ Q v s') E s := by
    unfold tryCompare
    refine wpAny_bind (ifBoundB_K X I hne hbind (wpAny_call (codeAny_call_builtin hpl PySem.F.cmpEntry_ne (check_slot PySem.F.cmpKind_ne PySem.F.cmpSplit_ne sub (PySem.F.cmpArgs_ne _ _) (objNe_V (A := A.in1) hu X I hs hf (wpAny_mono h (fun v s' hv => ?_) fun _ _ e => e))))))
    obtain ⟨b, rfl, hq⟩ := hv
    first | exact ⟨b, rfl, wpAny_pure ⟨_, rfl, hq⟩⟩ | exact ⟨b, rfl, wpAny_pure (wpAny_pure ⟨_, rfl, hq⟩)⟩ | exact ⟨b, rfl, ⟨_, rfl, hq⟩⟩
  unfold richCompare
  simp only [oneThing_ref]
  refine wpAny_holding (wpAny_bind (wpAny_cRoomFor (Nat.lt_of_succ_lt hu) ?_))
  rw [cmpInfo_NotEq]
  dsimp only
  refine wpAny_bind (I.type.here (wpAny_bind (hb.here ?_)))
  split
  · rename_i q
    have e : subIn K tb (.ref C) = some false := by
      rcases Bool.or_eq_true_iff.mp hn with e | e
      · rw [beq_iff_eq.mp e] at q; simp at q
      · exact beq_iff_eq.mp e
    refine wpAny_bind ((looks_subIn X e).here ?_)
    simp only [Bool.false_eq_true, if_false]
    refine wpAny_bind (wpAny_mono one (fun r s' z => ?_) fun _ _ e => e)
    obtain ⟨v, rfl, hq⟩ := z
    exact wpAny_pure hq
  · refine wpAny_bind (wpAny_pure ?_)
    simp only [Bool.false_eq_true, if_false]
    refine wpAny_bind (wpAny_mono one (fun r s' z => ?_) fun _ _ e => e)
    obtain ⟨v, rfl, hq⟩ := z
    exact wpAny_pure hq
end
def rOwnEqT (K : PySem.W.Frag) (C : Addr) (T : String) (sp : Sp) (E : XK) : R2 := fun x y H Q => ∃ a dx fs, x = .ref a ∧ H a = some (.ins C dx fs) ∧ TyB K H y T ∧ sp [x, y] H (fun v H' => ∃ k, v = .bl k ∧ Q (.bl k) H') E
def rOwnNeT (K : PySem.W.Frag) (C : Addr) (T : String) (sp : Sp) (E : XK) : R2 := fun x y H Q => ∃ a dx fs, x = .ref a ∧ H a = some (.ins C dx fs) ∧ TyB K H y T ∧ sp [x, y] H (fun v H' => ∃ k, v = .bl k ∧ Q (.bl (!k)) H') E
theorem op_ownEqT {X : Cx} {CX : CXT} {n : Nat} {C f : Addr} {fd : FuncData} {ps : List Str} {sp : Sp} {E : XK} {T : String} (F : FnOk X.prog X.w X.K X.mg X.base CX n f fd ps sp) (hs : PySem.W.findIn X.K (.ref C) "__eq__" = some (some (.ref f))) (hf : PySem.W.isFn X.K (.ref f) = true)
    (hn : PySem.W.notFirst X.K C (.type T) = true) (hb : Binds X.K fd ps []) (hx : Passes CX X E) (hr : Room n X.A) : OpR X (compareOp .Eq) (rOwnEqT X.K C T sp E) := by
  intro pins s σ H x y v u Q I rx ry hq
  obtain ⟨a, dx, fs, rfl, ha, ty, h⟩ := hq
  cases rx
  obtain ⟨mA, J, _⟩ := ins_get I.hok ha
  obtain ⟨od, J, _⟩ := J.look
  obtain ⟨m, hF⟩ := I.fr
  show wpAny (model X.prog X.w) X.A (richCompare .Eq (.ref a) u) (EP X pins σ Q) X.xe s
  refine PySem.W.cmp_K (op := .Eq) (tb := .type T) hr.units0 hF I.ok.mod.kin J (looks_ty (ty.is I ry)) hn hs hf ?_
  refine wpAny_mono (run_fn (us := [.ref a, u]) (vs := [.ref a, y]) F hr hb .nil hx I (.cons rfl (.cons ry .nil)) h) (fun r s' z => ?_) fun _ _ z => z
  obtain ⟨w, H', I', rv, k, rfl, q⟩ := z
  obtain rfl : r = Value.bool k := rv
  exact ⟨.bl k, H', I', rfl, q⟩
theorem op_ownNeT {X : Cx} {CX : CXT} {n : Nat} {C f : Addr} {fd : FuncData} {ps : List Str} {sp : Sp} {E : XK} {T : String} (F : FnOk X.prog X.w X.K X.mg X.base CX n f fd ps sp) (hs : PySem.W.findIn X.K (.ref C) "__eq__" = some (some (.ref f))) (hf : PySem.W.isFn X.K (.ref f) = true)
    (hn : PySem.W.notFirst X.K C (.type T) = true) (hne : PySem.W.findIn X.K (.ref C) "__ne__" = some (some (.builtin "object.__ne__"))) (hm : PySem.W.mroIn X.K C (.type "object") = some true)
    (hb : Binds X.K fd ps []) (hx : Passes CX X E) (hr : Room (n + 1) X.A) : OpR X (compareOp .NotEq) (rOwnNeT X.K C T sp E) := by
  intro pins s σ H x y v u Q I rx ry hq
  obtain ⟨a, dx, fs, rfl, ha, ty, h⟩ := hq
  cases rx
  obtain ⟨mA, J, _⟩ := ins_get I.hok ha
  obtain ⟨od, J, _⟩ := J.look
  show wpAny (model X.prog X.w) X.A (richCompare .NotEq (.ref a) u) (EP X pins σ Q) X.xe s
  refine ne_V (by have := hr.un; omega) I.kIn J (looks_ty (ty.is I ry)) hn hs hf hne hm ?_
  have e0 : Env0 X.prog X.w X.K X.mg X.base X.A.in1 X.stack s H := I.env0.in1
  have hl := F.len _ _ _ _ h
  have r2 : Vals [V.ref a, y] [Value.ref a, u] := .cons rfl (.cons ry .nil)
  refine wpAny_call (codeAny_mono (F.run X.A.in1 X.stack s H ⟨[.ref a, u], []⟩ [.ref a, u] [.ref a, y] _ E hr.in1 e0 (by
    have := hb s [.ref a, u] I.kIn (by simpa using hl)
    simpa using this) r2 h) fun r s' hq => ?_)
  cases r with
  | error e => exact hx pins σ H s e s' I hq
  | ok fl =>
    cases fl with
    | ret u =>
      obtain ⟨v, H', I', rv, k, rfl, q⟩ := I.after hq
      obtain rfl : u = Value.bool k := rv
      exact ⟨k, rfl, .bl (!k), H', I', rfl, q⟩
    | next => exact False.elim hq
    | brk => exact False.elim hq
    | cont => exact False.elim hq
theorem tyB_of {K : PySem.W.Frag} {F : Hp} {v : V} {d : Dt} {T : String} (h : Rp K F v d) (e : tyD d = some T) (nd : T ≠ "dict") : TyB K F v T := by
  cases h with
  | non => cases e; exact .non
  | bl b => cases e; exact .bl b
  | int i => cases e; exact .int i
  | str x => cases e; exact .str x
  | lst h1 h2 => cases e; exact .lst h1
  | tup h1 h2 => cases e; exact .tup h1
  | dct h1 h2 => cases e; exact .dK h1
  | _ => cases e
theorem tyB_up {K : PySem.W.Frag} {F H : Hp} {v : V} {T : String} (f : Same F H) (h : TyB K F v T) : TyB K H v T := by
  cases h with
  | non => exact .non
  | bl b => exact .bl b
  | int i => exact .int i
  | str x => exact .str x
  | byt b => exact .byt b
  | lst h => exact .lst (same_l f h)
  | tup h => exact .tup (same_t f h)
  | dK h => exact .dK (f _ _ h)
def wOwnEqT (C : Addr) (U : String) (T : Tp) (k : Bool → Bool) : W2 := fun d e q => match d with
  | .obj C1 fs => C1 = C ∧ tyD e = some U ∧ T [.obj C1 fs, e] (fun r => match r with
    | .bl b => q (.bl (k b))
    | _ => False) fun _ => False
  | _ => False
theorem sr_ownEqT {K : PySem.W.Frag} {C : Addr} {T : Tp} {U : String} (nd : U ≠ "dict") : SndR K (rOwnEqT K C U (spT K T) E0) (wOwnEqT C U T id) := fun F H x y a b Q q f hx hy h k => by
  unfold wOwnEqT at h
  split at h
  · rename_i C1 fs
    obtain ⟨rfl, ty, h⟩ := h
    obtain ⟨p1, dx, fv, rfl, g1, g2⟩ := rp_obj hx
    refine ⟨p1, dx, fv, rfl, f _ _ g1, tyB_up f (tyB_of hy ty nd), F, _, _, _, f, .cons hx (.cons hy .nil), h, fun v d F2 H2 s hv hq => ?_, fun _ _ _ _ _ _ _ _ z => z.elim⟩
    split at hq
    · rename_i k1
      rw [rp_bl hv]
      exact ⟨k1, rfl, k _ (.bl k1) F2 H2 s (.bl k1) hq⟩
    · exact hq.elim
  · exact h.elim
theorem sr_ownNeT {K : PySem.W.Frag} {C : Addr} {T : Tp} {U : String} (nd : U ≠ "dict") : SndR K (rOwnNeT K C U (spT K T) E0) (wOwnEqT C U T (!·)) := fun F H x y a b Q q f hx hy h k => by
  unfold wOwnEqT at h
  split at h
  · rename_i C1 fs
    obtain ⟨rfl, ty, h⟩ := h
    obtain ⟨p1, dx, fv, rfl, g1, g2⟩ := rp_obj hx
    refine ⟨p1, dx, fv, rfl, f _ _ g1, tyB_up f (tyB_of hy ty nd), F, _, _, _, f, .cons hx (.cons hy .nil), h, fun v d F2 H2 s hv hq => ?_, fun _ _ _ _ _ _ _ _ z => z.elim⟩
    split at hq
    · rename_i k1
      rw [rp_bl hv]
      exact ⟨k1, rfl, k _ (.bl (!k1)) F2 H2 s (.bl (!k1)) hq⟩
    · exact hq.elim
  · exact h.elim
/-! ### a part of a text -/
def wCutS : Dt → Option Int → Option Int → (Dt → Prop) → Prop := fun a lo hi q => match a with
  | .str z => z.length ≤ 100000 ∧ q (.str (cutS z lo hi))
  | _ => False
theorem ss_cutS {K : PySem.W.Frag} : SndS K rSlS wCutS := fun F H x a lo hi Q q f hx h k => by
  unfold wCutS at h
  split at h
  · rename_i z
    exact ⟨z, rp_str hx, sz_of h.1, k _ _ F H (.refl f) (.str _) h.2⟩
  · exact h.elim
section
variable {X : Cx} {o e : Expr} {to te : TE} {apos pos : Pos}
theorem pe_ascii (ho : PE X o to) (hbase : attributeBase o "isascii" X.env (eval o X.env) = eval o X.env := by rfl) (hline : (apos.endLine == pos.line) = true := by rfl) : PE X (.Call (.Attribute o "isascii" apos) [] [] pos) (tM0 rAscii to) := pe_m0 PySem.F.slot_str_isascii PySem.F.type_str_isascii mt_isascii ho hbase hline
theorem pe_digit (ho : PE X o to) (hbase : attributeBase o "isdigit" X.env (eval o X.env) = eval o X.env := by rfl) (hline : (apos.endLine == pos.line) = true := by rfl) : PE X (.Call (.Attribute o "isdigit" apos) [] [] pos) (tM0 rDigit to) := pe_m0 PySem.F.slot_str_isdigit PySem.F.type_str_isdigit mt_isdigit ho hbase hline
theorem pe_starts (ho : PE X o to) (he : PE X e te) (hs : starEach [e] X.env = [(false, eval e X.env)] := by rfl) (hbase : attributeBase o "startswith" X.env (eval o X.env) = eval o X.env := by rfl) (hline : (apos.endLine == pos.line) = true := by rfl) : PE X (.Call (.Attribute o "startswith" apos) [e] [] pos) (tM1 rStarts to te) := pe_m1 PySem.F.slot_str_startswith PySem.F.type_str_startswith mt_startswith ho he hs hbase hline
theorem pe_splitE (ho : PE X o to) (he : PE X e te) (hs : starEach [e] X.env = [(false, eval e X.env)] := by rfl) (hbase : attributeBase o "split" X.env (eval o X.env) = eval o X.env := by rfl) (hline : (apos.endLine == pos.line) = true := by rfl) : PE X (.Call (.Attribute o "split" apos) [e] [] pos) (tM1 rSplitE to te) := pe_split ho he hs hbase hline
theorem pe_joinE {K : PySem.W.Frag} (hK : X.K = K) (ho : PE X o to) (he : PE X e te) (hs : starEach [e] X.env = [(false, eval e X.env)] := by rfl) (hbase : attributeBase o "join" X.env (eval o X.env) = eval o X.env := by rfl) (hline : (apos.endLine == pos.line) = true := by rfl) : PE X (.Call (.Attribute o "join" apos) [e] [] pos) (tM1 (rJoinE K) to te) := by
  subst hK
  exact pe_join ho he hs hbase hline
end
/-! ### xs.extend(a new list) -/
def wExtend (i : Nat) (e : WA) : WS := fun ss t P => match ss[i]? with
  | some (.own ds) => e ss t (fun es t1 => ds.length + es.length ≤ 100000 ∧ P.nx (ss.set i (.own (ds ++ es))) t1) P.x
  | _ => False
def wExtendZ (i : Nat) (e : WA) : WS := fun ss t P => match ss[i]? with
  | some (.own ds) => e (frz ss) t (fun es t1 => nlA es = true ∧ ds.length + es.length ≤ 100000 ∧ P.nx (ss.set i (.own (ds ++ es))) t1) (xnl P.x)
  | _ => False
theorem sb_extend {K : PySem.W.Frag} {E1 : XK} {te : TE} {wn : WA} {i : Nat} (h : SndN K E1 te wn) : SndB K E1 (tDrop (tBM K "list" rExtend (tVar i) (tCons te tNil))) (wExtend i wn) := fun B D F H σ ss t P r hw k => by
  unfold wExtend at hw
  split at hw
  · rename_i ds ho
    obtain ⟨p, xs, g1, g2, g3, g4, _⟩ := r.own i ds ho
    refine ⟨.ref p, g1, .inl ⟨rfl, xs, sq_of g3⟩, h B.pp F H σ ss t _ _ _ r.toE hw (k.xok r) fun p2 ys es t1 F1 H1 s hp hv h1 => ?_⟩
    have r1 := r.step s
    have r2 := r1.step (r1.toE.stp ((Stp.refl r1.fh).allocO (o := .lst ys) hp))
    obtain ⟨p', zs, k1, k2, k3, k4, _⟩ := r2.own i ds ho
    rw [g1] at k1
    cases k1
    exact ⟨p, p2, zs, ys, rfl, rfl, k3, upd_same, sz_of (by rw [rpA_len k4, rpA_len hv]; exact h1.1), k.nx F1 _ σ _ t1 s.ff (r2.mut ho g1 (rpA_app k4 hv)) h1.2⟩
  · exact hw.elim
theorem sb_extendZ {K : PySem.W.Frag} {E1 : XK} {te : TE} {wn : WA} {i : Nat} (h : SndN K E1 te wn) : SndB K E1 (tDrop (tBM K "list" rExtend (tVar i) (tCons te tNil))) (wExtendZ i wn) := fun B D F H σ ss t P r hw k => by
  unfold wExtendZ at hw
  split at hw
  · rename_i ds ho
    obtain ⟨p, xs, g1, g2, g3, g4, _⟩ := r.own i ds ho
    refine ⟨.ref p, g1, .inl ⟨rfl, xs, sq_of g3⟩, h B.pp _ H σ _ t _ _ _ r.frzE hw (k.xokz r) fun p2 ys es t1 F1 H1 s hp hv h1 => ?_⟩
    obtain ⟨s', l⟩ := r.unfrz s
    have r1 := r.step s'
    have r2 := r1.step (r1.toE.stp ((Stp.refl r1.fh).allocO (o := .lst ys) hp))
    obtain ⟨p', zs, k1, k2, k3, k4, _⟩ := r2.own i ds ho
    rw [g1] at k1
    cases k1
    have hv' := rpA_less l h1.1 hv
    exact ⟨p, p2, zs, ys, rfl, rfl, k3, upd_same, sz_of (by rw [rpA_len k4, rpA_len hv']; exact h1.2.1), k.nx _ _ σ _ t1 s'.ff (r2.mut ho g1 (rpA_app k4 hv')) h1.2.2⟩
  · exact hw.elim
/-! ### range(i, j, c) -/
def rangeC (lo c : Int) (n : Nat) : List Dt := (List.range n).map fun i => .int (lo + (i : Nat) * c)
theorem rangeC_len {lo c : Int} {n : Nat} : (rangeC lo c n).length = n := by simp [rangeC]
theorem rangeC_get {lo c : Int} {n i : Nat} {d : Dt} (h : (rangeC lo c n)[i]? = some d) : i < n ∧ d = .int (lo + (i : Nat) * c) := by
  obtain ⟨h1, h2⟩ := List.getElem?_eq_some_iff.mp h
  rw [rangeC_len] at h1
  exact ⟨h1, by rw [← h2]; simp [rangeC]⟩
theorem we_rangeC {K : PySem.W.Frag} {F : Hp} {lo c : Int} {n : Nat} : WalkE K (Itc lo c n) F (rangeC lo c n) where
  go := fun i H e hi => by rw [rangeC_len] at hi; exact hi
  stop := fun H e => by simp [rangeC, Itc]
  yld := fun i H x H' F1 e f y d hi => by
    obtain ⟨rfl, rfl⟩ := y
    obtain ⟨_, rfl⟩ := rangeC_get hi
    exact ⟨F1, .refl f, .int _⟩
def wRng3 (a : WA) : WA := fun ss t q x => a ss t (fun as t1 => match as with
  | [.int i, .int j, .int c] => ∃ n, RgC i j c n ∧ q (rangeC i c n) t1
  | _ => False) x
theorem si_rng3 {K : PySem.W.Frag} {E : XK} {ta : TA} {wa : WA} (h : SndA K E ta wa) : SndI K E (iRng3 ta) (wRng3 wa) := fun pp F H σ ss t R q x r hw X k =>
  h pp F H σ ss t _ _ x r hw X fun vs ds t1 F1 H1 s1 hv h1 => by
    split at h1
    · obtain ⟨n, h2, h3⟩ := h1
      cases hv with
      | cons g1 g =>
        cases g with
        | cons g2 g =>
          cases g with
          | cons g3 g =>
            cases g
            exact ⟨_, _, _, n, by rw [rp_int g1, rp_int g2, rp_int g3], h2, k _ _ t1 F1 H1 s1 we_rangeC h3⟩
    · exact h1.elim
theorem eqD_s {s t : Str} (hs : PyData.strOk s = true) (ht : PyData.strOk t = true) : eqD (.str s) (.str t) = some (decide (s = t)) := by
  have h : ∀ k : Str, PyData.strOk k = true → SeqAt.shaped (.str k) = true := fun k hk => (_root_.DL.sn_str (n := 0) hk).sh (by decide)
  unfold eqD
  simp only [py, h s hs, h t ht, Bool.and_self, if_true]
  rfl
theorem ok_ascii {z : Str} (h : Txt.isascii z = true) : PyData.strOk z = true := by
  unfold Txt.isascii at h
  unfold PyData.strOk
  rw [Array.all_eq_true_iff_forall_mem] at h ⊢
  exact fun c hc => decide_eq_true (by have := of_decide_eq_true (h c hc); omega)
end E

set_option Elab.async false
set_option linter.all false
set_option maxRecDepth 100000
set_option maxHeartbeats 2000000
/-! texts sign by sign, turned round, filled up; a promise with the pen unseen; an answer heard as a text; two places exchanged -/
namespace E
open L2 PySem PySem.Spec PyProof.Rows DL
open Evl (sq_of st_of sz_of sz_lt ixN_nat)
variable [Tb]
/-! ### xs[::-1] -/
def wRev (a : WE) : WA := fun ss t q x => a ss t (fun d t1 => match d with
  | .lst ds => q ds.reverse t1
  | _ => False) x
theorem nn_rev {K : PySem.W.Frag} {E : XK} {te : TE} {we : WE} (h : Snd K E te we) : SndN K E (tRevL K te) (wRev we) := fun pp F H σ ss t Q q x r hw X k =>
  h pp F H σ ss t _ _ x r hw X fun v d t1 F1 H1 s hv h1 => by
    split at h1
    · obtain ⟨a, xs, rfl, g1, g2⟩ := rp_lst hv
      exact ⟨a, xs, rfl, same_l s.fh g1, fun p hp => k p _ _ t1 F1 H1 s hp (rpA_rev g2) h1⟩
    · exact h1.elim
/-! ### s.zfill(n) -/
def rZfill : V → List V → Hp → VK → Prop := fun x xs H Q => ∃ (a : Str) (i : Int), x = .str a ∧ xs = [.int i] ∧ PadOk i = true ∧ Q (.str (Txt.zfill a i)) H
def wZfill (z : Str) (e : Dt) (q : Dt → Prop) : Prop := match e with
  | .int i => PadOk i = true ∧ q (.str (Txt.zfill z i))
  | _ => False
theorem sm_zfill {K : PySem.W.Frag} : SndM1 K rZfill wZfill := fun F H z y e Q q f hy h k => by
  unfold wZfill at h
  split at h
  · rename_i i
    exact ⟨z, i, rfl, by rw [rp_int hy], h.1, k _ _ F H (.refl f) (.str _) h.2⟩
  · exact h.elim
theorem pe_zfill {X : Cx} {o e : Expr} {to te : TE} {apos pos : Pos} (ho : PE X o to) (he : PE X e te) (hs : starEach [e] X.env = [(false, eval e X.env)] := by rfl) (hbase : attributeBase o "zfill" X.env (eval o X.env) = eval o X.env := by rfl) (hline : (apos.endLine == pos.line) = true := by rfl) : PE X (.Call (.Attribute o "zfill" apos) [e] [] pos) (tM1 rZfill to te) := pe_m1 PySem.F.slot_str_zfill PySem.F.type_str_zfill mt_zfill ho he hs hbase hline
/-! ### a text, sign by sign -/
def signs (z : Str) : List Dt := z.cps.toList.map fun c => .str ⟨#[c]⟩
theorem we_signs {K : PySem.W.Frag} {F : Hp} {z : Str} : WalkE K (Its z) F (signs z) where
  go := fun i H e hi => by
    rw [signs, List.length_map] at hi
    show i < z.cps.size
    simpa using hi
  stop := fun H e => by simp [signs, Its]
  yld := fun i H x H' F1 e f y d hi => by
    obtain ⟨rfl, c, hc, rfl⟩ := y
    rw [signs, List.getElem?_map] at hi
    obtain ⟨c', h1, rfl⟩ := Option.map_eq_some_iff.mp hi
    have : c' = c := by
      rw [Array.getElem?_toList] at h1
      rw [hc] at h1
      exact (Option.some.inj h1).symm
    subst this
    exact ⟨F1, .refl f, .str _⟩
def wSigns (a : WE) : WA := fun ss t q x => a ss t (fun d t1 => match d with
  | .str z => q (signs z) t1
  | _ => False) x
theorem si_str {K : PySem.W.Frag} {E : XK} {te : TE} {we : WE} (h : Snd K E te we) : SndI K E (iStr te) (wSigns we) := fun pp F H σ ss t R q x r hw X k =>
  h pp F H σ ss t _ _ x r hw X fun v d t1 F1 H1 s hv h1 => by
    split at h1
    · rename_i z
      exact ⟨z, rp_str hv, k _ _ t1 F1 H1 s we_signs h1⟩
    · exact h1.elim
def rNotInS : R2 := fun x y H Q => ∃ (c : Nat) (z : Str), x = .str ⟨#[c]⟩ ∧ y = .str z ∧ Q (.bl (!decide (c ∈ z.cps.toList))) H
theorem op_notInS {X : Cx} : OpR X (compareOp .NotIn) rNotInS := op_notIn_sign
def wNotInS : W2 := fun a b q => match a, b with
  | .str y, .str z => (match y.cps.toList with
    | [c] => q (.bl (!decide (c ∈ z.cps.toList)))
    | _ => False)
  | _, _ => False
theorem sr_notInS {K : PySem.W.Frag} : SndR K rNotInS wNotInS := fun F H x y a b Q q f hx hy h k => by
  unfold wNotInS at h
  split at h
  · rename_i y z
    split at h
    · rename_i c e
      refine ⟨c, z, ?_, rp_str hy, k _ _ F H (.refl f) (.bl _) h⟩
      rw [rp_str hx]
      exact congrArg V.str (TL.ext_tl e)
    · exact h.elim
  · exact h.elim
/-- s[i] -/
def wIxS : W2 := fun a b q => match a, b with
  | .str z, .int i => z.length ≤ 100000 ∧ onO (atI (z.cps.toList.map fun c => V.str ⟨#[c]⟩) i) fun v => match v with
    | .str y => q (.str y)
    | _ => False
  | _, _ => False
theorem sr_ixS {K : PySem.W.Frag} : SndR K (rIx K) wIxS := fun F H x y a b Q q f hx hy h k => by
  unfold wIxS at h
  split at h
  · rename_i z i
    obtain ⟨h0, h1⟩ := h
    obtain ⟨v, h2, h3⟩ := onO_some h1
    split at h3
    · rename_i y'
      refine .inr (.inr ?_)
      have h2 : atI (z.cps.toList.map fun c => V.str ⟨#[c]⟩) i = some (.str y') := h2
      unfold atI at h2
      rw [List.length_map] at h2
      cases e : ixN z.cps.toList.length i with
      | none => rw [e] at h2; cases h2
      | some j =>
        rw [e] at h2
        have h2 : (z.cps.toList.map fun c => V.str ⟨#[c]⟩)[j]? = some (.str y') := h2
        rw [List.getElem?_map] at h2
        obtain ⟨c, h4, h5⟩ := Option.map_eq_some_iff.mp h2
        cases h5
        refine ⟨z, i, c, rp_str hx, rp_int hy, sz_of h0, ?_, k _ _ F H (.refl f) (.str _) h3⟩
        unfold atI
        rw [e]
        exact h4
    · exact h3.elim
  · exact h.elim
/-! ### s * n -/
def rMulS : R2 := fun x y H Q => ∃ (z : Str) (n : Int), x = .str z ∧ y = .int n ∧ MulOk z n ∧ Q (.str (Txt.mul z n)) H
theorem op_mulS {X : Cx} : OpR X (binaryOp .Mult) rMulS := by
  intro pins s σ H x y v u Q I rx ry h
  obtain ⟨z, n, rfl, rfl, hm, q⟩ := h
  obtain ⟨t, rfl⟩ := rx
  obtain ⟨t', rfl⟩ := ry
  exact PySem.SB.mul hm fun t' k => ⟨.str (Txt.mul z n), H, I.tok _, ⟨_, rfl⟩, q⟩
def wMulS : W2 := fun a b q => match a, b with
  | .str z, .int n => MulOk z n ∧ ∀ y, y = Txt.mul z n → q (.str y)
  | _, _ => False
theorem sr_mulS {K : PySem.W.Frag} : SndR K rMulS wMulS := fun F H x y a b Q q f hx hy h k => by
  unfold wMulS at h
  split at h
  · rename_i z n
    exact ⟨z, n, rp_str hx, rp_int hy, h.1, k _ _ F H (.refl f) (.str _) (h.2 _ rfl)⟩
  · exact h.elim
/-! ### the pen, unseen -/
def spG (K : PySem.W.Frag) (T : Tpm) : Sp := fun vs H Q E => ∃ F p ds t q x, Same F H ∧ PenAt K F H p t ∧ RpA K F vs ds ∧ T ds t q x ∧ (∀ v d t' F2 H2, StE K (some p) F H F2 H2 t' → Rp K F2 v d → q d t' → Q v H2) ∧
  ∀ X dd fv t' F2 H2, StE K (some p) F H F2 H2 t' → F2 dd = some (.xd fv) → RpF K F2 fv X.fs → x X t' → E (.ref X.C) (some dd) H2
theorem spG_len {K : PySem.W.Frag} {T : Tpm} {n : Nat} {vs : List V} {H : Hp} {Q : VK} {E : XK} (h : spG K T vs H Q E) (hl : ∀ ds t q x, T ds t q x → ds.length = n) : vs.length = n := by
  obtain ⟨F, p, ds, t, q, x, e, hp, hv, hT, k, kx⟩ := h
  rw [rpA_len hv]
  exact hl ds t q x hT
/-- is the pen at hand -/
def pn (s : Option Sx) : Bool := match s with
  | some .pen => true
  | some .gho => true
  | _ => false
theorem pn_at {K : PySem.W.Frag} {pp : Option Pi} {F H : Hp} {σ : L2.St} {ss : List Sx} {i : Nat} (e : EnvE K pp F H σ ss) (h : pn ss[i]? = true) : ∃ p, pp = some p := by
  unfold pn at h
  split at h
  · rename_i h1; obtain ⟨p, h2, _⟩ := e.pen i h1; exact ⟨p, h2⟩
  · rename_i h1; exact e.gho i h1
  · cases h
def wCallG (i : Nat) (T : Tpm) (wa : WA) : WE := fun ss t q x => pn ss[i]? = true ∧ wa ss t (fun ds t1 => T ds t1 q fun _ _ => False) x
theorem sn_callG {K : PySem.W.Frag} {E1 : XK} {ta : TA} {wa : WA} {Tq : Tpm} {i : Nat} (h : SndA K E1 ta wa) : Snd K E1 (tCall (spG K Tq) [] E0 ta) (wCallG i Tq wa) := fun pp F H σ ss t Q q x r hw X k => by
  obtain ⟨h0, hw⟩ := hw
  obtain ⟨p, rfl⟩ := pn_at r.env h0
  refine h _ F H σ ss t _ _ x r hw X fun vs ds t1 F1 H1 s1 hv h1 => ?_
  exact ⟨F1, p, ds, t1, q, _, s1.fh, s1.pen p rfl, by rw [List.append_nil]; exact hv, h1, fun v d t2 F2 H2 s2 h2 hq => k v d t2 F2 H2 (s1.trans s2) h2 hq, fun Y dd fv t2 F2 H2 s2 h2 h3 hx => hx.elim⟩
def wHandG (i : Nat) (An : Dt → (Dt → Prop) → Prop) (Ax : Xn → (Dt → Prop) → Prop) (w : WE) : WE := fun ss t q x => pn ss[i]? = true ∧ w ss t (fun d t1 => An d fun r => q r t1) (fun X t1 => Ax X fun r => q r t1)
theorem sn_handG {K : PySem.W.Frag} {E : XK} {i : Nat} {P : Addr} {nm : Str} {t : XK → TE} {w : WE} {An : Dt → (Dt → Prop) → Prop} {Ax : Xn → (Dt → Prop) → Prop} (hP : (P, nm) ∈ Tb.T K) (h : ∀ E, Snd K E (t E) w) : Snd K E (tHand (Tb.T K) P (TTh K An Ax) t) (wHandG i An Ax w) := fun pp F H σ ss tt Q q x r hw X k => by
  obtain ⟨h0, hw⟩ := hw
  obtain ⟨p, rfl⟩ := pn_at r.env h0
  have pen := r.pen p rfl
  obtain ⟨h1, ⟨h2, h5⟩, t0, r0, h3, h4⟩ := pen
  have eT := h5.2.2
  have mem : (P, nm) ∈ p.T := eT ▸ hP
  have hPm : P ∈ pl (some p) := List.mem_cons_of_mem _ (List.mem_map_of_mem (f := (·.1)) mem)
  obtain ⟨ps, hPt⟩ := h5.at mem
  have fP : F P = none := h5.1 _ mem
  refine ⟨eT ▸ h5.2.1, fun H1 bt T1 => ?_⟩
  have T1' : LamX.Tabs p.T H1 := eT ▸ T1
  have pn : p.p ≠ P := fun z => by
    rw [z] at h3
    rw [show H P = _ from hPt] at h3
    cases h3
  have pen1 : PenAt K F H1 p tt := ⟨h1, ⟨h2, h5.1, T1', eT⟩, t0, r0, bt _ _ pn h3, h4⟩
  have s1 : StE K (some p) F H F H1 tt := ⟨⟨.refl _, fun a o q => bt a o (fun z => by rw [z, fP] at q; cases q) (r.fh a o q), fun a o n q => bt a o (fun z => n (z ▸ hPm)) q, fun _ q _ => q, fun a ha => by
    by_cases z : a = P
    · rw [z]; exact pen1.there hPm
    · cases e : H a with
      | none => exact absurd e ha
      | some o => rw [bt a o z e]; exact fun y => by cases y⟩, fun p' e' => by cases e'; exact pen1⟩
  exact ⟨some p, F, tt, q, s1.fh, fun p' e' => by cases e'; exact pen1, fun E F1 H2 Q1 s2 x2 k2 => h E (some p) F1 H2 σ ss tt Q1 _ _ ((r.step s1).step s2) hw x2 k2, fun v d t' F' H' s2 hv hq => k v d t' F' H' (s1.trans s2) hv hq⟩
def stG (n : Nat) (ds : List Dt) : Ss := stS (n - 1) ds ++ [.gho]
theorem def_G0 {K : PySem.W.Frag} {E : XK} {N : List Str} {a : Str} {ts : TS} {w : WS} {T : Tpm} {vs : List V} {H : Hp} {Q : VK} (hs : SndB K E0 ts w) (h : spG K T vs H Q E) (hl : ∀ ds t q x, T ds t q x → ds.length ≤ N.length)
    (hw : ∀ ds t q x, T ds t q x → w (stS N.length ds ++ [.gho]) t ⟨fun _ t' => q .non t', fun d t' => q d t', fun _ _ => False, fun _ _ => False, fun _ _ => False⟩) : ts { nx := fun _ H' => Q .non H', rt := Q } (L2.start (N ++ [a]) vs) H := by
  obtain ⟨F, p, ds, t, q, x, e, hp, hv, hT, k, kx⟩ := h
  have stp : ∀ {F' H' t'}, Fin K ⟨pl (some p), F, H, some p⟩ F' H' t' → StE K (some p) F H F' H' t' := fun f => ⟨f.gr, f.pen⟩
  have en := stS_env (pp := some p) (H := H) hv (hl ds t q x hT)
  have hvl := rpA_len hv
  have es : L2.start (N ++ [a]) vs = L2.start N vs ++ [none] := by
    have hl2 := hl ds t q x hT
    unfold L2.start
    rw [List.length_append, List.length_singleton, show N.length + 1 - vs.length = (N.length - vs.length) + 1 by omega, List.replicate_succ', List.append_assoc]
  have sl : (stS N.length ds).length = N.length := by
    have hl2 := hl ds t q x hT
    unfold stS
    rw [List.length_append, List.length_map, List.length_replicate]
    omega
  have up : ∀ (i : Nat) (s : Sx), (stS N.length ds ++ [.gho])[i]? = some s → (i < N.length ∧ (stS N.length ds)[i]? = some s) ∨ (i = N.length ∧ s = .gho) := fun i s q' => by
    rw [List.getElem?_append] at q'
    split at q'
    · rename_i hi; exact .inl ⟨by omega, q'⟩
    · rename_i hi
      have h1 : ([Sx.gho] : List Sx)[i - (stS N.length ds).length]? = some s := q'
      have h2 := (List.getElem?_eq_some_iff.mp h1).1
      have h2 : i - (stS N.length ds).length < 1 := h2
      have e0 : i - (stS N.length ds).length = 0 := by omega
      rw [e0] at h1
      exact .inr ⟨by omega, (Option.some.inj h1).symm⟩
  have dn : ∀ (i : Nat), i < N.length → (L2.start N vs ++ [none])[i]? = (L2.start N vs)[i]? := fun i hi => by
    rw [List.getElem?_append, if_pos (by rw [en.len, sl]; exact hi)]
  have noO : ∀ i, ¬ isOwn (stS N.length ds ++ [.gho]) i := fun i hi => by
    rcases hi with ⟨s, q', ho⟩ | ⟨C, fs, q'⟩
    · rcases up i _ q' with ⟨_, z⟩ | ⟨_, z⟩
      · rcases stS_no z with ⟨d, z⟩ | z <;> (subst z; cases ho)
      · subst z; cases ho
    · rcases up i _ q' with ⟨_, z⟩ | ⟨_, z⟩
      · rcases stS_no z with ⟨d, z⟩ | z <;> cases z
      · cases z
  rw [es]
  refine hs ⟨pl (some p), F, H, some p⟩ _ F H _ (stS N.length ds ++ [.gho]) t ⟨fun _ t' => q .non t', fun d t' => q d t', fun _ _ => False, fun _ _ => False, fun _ _ => False⟩ ⟨.refl e, ⟨by rw [List.length_append, List.length_append, en.len]; rfl, fun i d q' => ?_, fun i q' => ?_, fun i C fs q' => ?_, fun i q' => ⟨p, rfl⟩⟩, fun i u q' ho => absurd (.inl ⟨u, q', ho⟩) (noO i), fun i C fs q' => absurd (.inr ⟨C, fs, q'⟩) (noO i), fun i j p hi _ _ _ => absurd hi (noO i), fun P q' => by cases q'; exact ⟨hp, fun a ha => .inl ha⟩, fun i v B0 q' => by
      rcases up i _ q' with ⟨_, z⟩ | ⟨_, z⟩
      · rcases stS_no z with ⟨d, z⟩ | z <;> cases z
      · cases z⟩ (hw ds t q x hT)
    ⟨fun F' H' σ' ss' t' _ r' h' => k _ _ t' F' H' (stp r'.fin) .non h', fun v d F' H' t' _ f hv h' => k v d t' F' H' (stp f) hv h', fun _ _ _ _ _ _ _ h' => h'.elim, fun _ _ _ _ _ _ _ h' => h'.elim, fun _ _ _ _ _ _ _ _ _ _ h' => h'.elim⟩
  · rcases up i _ q' with ⟨hi, z⟩ | ⟨_, z⟩
    · rw [dn i hi]; exact en.val i d z
    · cases z
  · rcases up i _ q' with ⟨hi, z⟩ | ⟨_, z⟩
    · rcases stS_no z with ⟨d, z⟩ | z <;> cases z
    · cases z
  · exact absurd (.inr ⟨C, fs, q'⟩) (noO i)
/-! ### v = f(ask()) -/
def wAskSet (j : Nat) (f : Addr) (B0 : Bse) (t0 : Int) (qn : Dt → Int → Prop) (xh : XQ) (w : WL) : WS := fun ss t P => ss[0]? = some (.inv (.ref f) B0) ∧ t = t0 ∧ (∀ d t1, qn d t1 → w [d] fun r => P.nx (ss.set j (.val r)) t1) ∧ ∀ X t1, xh X t1 → P.x X t1
theorem sb_askSet {K : PySem.W.Frag} {f c : Addr} {nm : Str} {tl : XK → Hp → VK → Prop} {B0 : Bse} {t0 : Int} {qn : Dt → Int → Prop} {xh : XQ} {r0 : List V → Hp → VK → Prop} {w : WL} {j : Nat} (hr : SndC K r0 w) (hT : Tl K tl B0 t0 qn xh) (hM : B0.M = pl B0.pp) (hp : ∀ p, B0.pp = some p → PenAt K B0.F0 B0.H0 p t0) (hc : B0.H0 c = some (LamX.CodeO c nm)) (E : XK) : SndB K E (tAsg (tCB r0 (tCons (tAct f c nm tl E) tNil)) (gName j)) (wAskSet j f B0 t0 qn xh w) := fun B D F H σ ss t P r hw k => by
  obtain ⟨e, rfl, hn, hx⟩ := hw
  obtain ⟨rfl, e1⟩ := r.inv 0 _ _ e
  have s : StE K B.pp B.F0 B.H0 F H t := ⟨hM ▸ r.gr, fun p e => (r.pen p e).1⟩
  refine ⟨e1, s.gr.hh _ _ (fun z => ?_) hc, hT E F H _ s (fun X dd fv F' H' t' s' h1 h2 h3 => (k.xok r) X dd fv F' H' t' s' h1 h2 (hx X t' h3)) fun v d t' F' H' s' hv hq => ?_⟩
  · obtain ⟨p, e2, h⟩ := pl_mem z
    rcases (hp p e2).at h with ⟨_, _, _, q⟩ | ⟨_, q⟩ <;> rw [hc] at q <;> unfold LamX.CodeO at q <;> cases q
  · have r1 := r.step s'
    refine hr F' H' [v] [d] _ _ r1.fh (.cons hv .nil) (hn d t' hq) fun u g F2 H2 s2 hu hq2 => ?_
    have r2 := r1.step (r1.toE.stp s2)
    exact k.nx F2 H2 _ _ t' (s'.ff.trans s2.ff) (r2.set hu) hq2
/-! ### xs[a], xs[b] = e, f -/
def wSwap (i : Nat) (wa : WA) (w1 w2 : WE) : WS := fun ss t P => match ss[i]? with
  | some (.own ds) => wa (frz ss) t (fun es t1 => match es with
    | [d1, d2] => nlA [d1, d2] = true ∧ w1 (frz ss) t1 (fun a1 t2 => match a1 with
      | .int n1 => onO (ixN ds.length n1) fun k1 => w2 (frz (ss.set i (.own (ds.set k1 d1)))) t2 (fun a2 t3 => match a2 with
        | .int n2 => onO (ixN ds.length n2) fun k2 => P.nx (ss.set i (.own ((ds.set k1 d1).set k2 d2))) t3
        | _ => False) (xnl P.x)
      | _ => False) (xnl P.x)
    | _ => False) (xnl P.x)
  | _ => False
theorem sb_swap {K : PySem.W.Frag} {E1 : XK} {ta : TA} {wa : WA} {t1 t2 : TE} {w1 w2 : WE} {i n : Nat} (ha : SndA K E1 ta wa) (h1 : Snd K E1 t1 w1) (h2 : Snd K E1 t2 w2) (hn : n = 2 := by rfl) :
    SndB K E1 (tAsg (tTup ta) (gTup K n (gCons (gSub (tVar i) t1 rSetL) (gCons (gSub (tVar i) t2 rSetL) gNil)))) (wSwap i wa w1 w2) := fun B D F H σ ss t P r hw k => by
  subst hn
  unfold wSwap at hw
  split at hw
  · rename_i ds ho
    refine ha B.pp _ H σ _ t _ _ _ r.frzE hw (k.xokz r) fun us es t1' F1 H1 s hv hq => ?_
    split at hq
    · rename_i d1 d2
      obtain ⟨hnl, hq⟩ := hq
      obtain ⟨s', l⟩ := r.unfrz s
      have r1 := r.step s'
      have hv1 := rpA_less l hnl hv
      obtain ⟨v1, v2, rfl, g1, g2⟩ := rpA2 hv1
      refine ⟨sz_of (by show 2 ≤ 100000; decide), fun p hp => ?_⟩
      have sA := r1.toE.alloc (o := .tup [v1, v2]) hp
      have r2 := r1.step sA
      refine ⟨p, [v1, v2], rfl, .inl (.inl upd_same), rfl, v1, [v2], rfl, ?_⟩
      obtain ⟨L, xs, b1, _⟩ := r2.own i ds ho
      refine ⟨.ref L, b1, h1 B.pp _ _ σ _ t1' _ _ _ r2.frzE hq ((k.up (s'.ff.trans sA.ff)).xokz r2) fun w a t2' F2 H2 s2 hw2 hq2 => ?_⟩
      split at hq2
      · rename_i n1
        obtain ⟨k1, hk1, hq3⟩ := onO_some hq2
        obtain ⟨s2', l2⟩ := r2.unfrz s2
        have r3 := r2.step s2'
        obtain ⟨L', ys, c1, _, c3, c4, _⟩ := r3.own i ds ho
        rw [b1] at c1
        cases c1
        have hk1' : ixN ys.length n1 = some k1 := by rw [rpA_len c4]; exact hk1
        have r4 := r3.mut ho b1 (rpA_set (n := k1) c4 (rp_mono (sA.ff.trans s2'.ff) g1))
        refine ⟨L, ys, n1, k1, rfl, rp_int hw2, c3, hk1', v2, [], rfl, .ref L, b1, ?_⟩
        have il : i < ss.length := (List.getElem?_eq_some_iff.mp ho).1
        have ho4 : (ss.set i (.own (ds.set k1 d1)))[i]? = some (.own (ds.set k1 d1)) := by rw [List.getElem?_set, if_pos rfl, if_pos il]
        refine h2 B.pp _ _ σ _ t2' _ _ _ r4.frzE hq3 ((k.up ((s'.ff.trans sA.ff).trans s2'.ff)).xokz r4) fun w' a' t3' F3 H3 s3 hw3 hq4 => ?_
        split at hq4
        · rename_i n2
          obtain ⟨k2, hk2, hq5⟩ := onO_some hq4
          obtain ⟨s3', l3⟩ := r4.unfrz s3
          have r5 := r4.step s3'
          obtain ⟨L'', zs, e1, _, e3, e4, _⟩ := r5.own i _ ho4
          rw [b1] at e1
          cases e1
          have hk2' : ixN zs.length n2 = some k2 := by rw [rpA_len e4, List.length_set]; exact hk2
          have r6 := r5.mut ho4 b1 (rpA_set (n := k2) e4 (rp_mono ((sA.ff.trans s2'.ff).trans s3'.ff) g2))
          rw [List.set_set] at r6
          exact ⟨L, zs, n2, k2, rfl, rp_int hw3, e3, hk2', rfl, k.nx _ _ σ _ t3' (((s'.ff.trans sA.ff).trans s2'.ff).trans s3'.ff) r6 hq5⟩
        · exact hq4.elim
      · exact hq2.elim
    · exact hq.elim
  · exact hw.elim
theorem eqD_lnil {n : Nat} {ds : List Dt} (h : ∀ d ∈ ds, shE n d) (hn : n + 1 ≤ 64) : eqD (.lst ds) (.lst []) = some (decide (ds = [])) := by
  cases ds with
  | nil => exact eqD_refl (n := n + 1) (shE_lst h) hn
  | cons d r =>
    obtain ⟨p, h1, h2⟩ := shE_lst h
    obtain ⟨q, h3, h4⟩ := shE_lst (n := n) (ds := []) shE_nilA
    have e1 : ∃ p0 ps, p = .list (p0 :: ps) := by
      obtain ⟨ps, a1, _⟩ := pyA_some h
      rw [py, a1] at h1
      rw [pyA] at a1
      cases e : py d with
      | none => rw [e] at a1; cases a1
      | some p0 =>
        cases e2 : pyA r with
        | none => rw [e, e2] at a1; cases a1
        | some ps' => rw [e, e2] at a1; cases a1; cases h1; exact ⟨p0, ps', rfl⟩
    obtain ⟨p0, ps, rfl⟩ := e1
    cases h3
    unfold eqD
    rw [h1]
    show (if (SeqAt.shaped (.list (p0 :: ps)) && SeqAt.shaped (.list [])) = true then some (PyData.eqv (.list (p0 :: ps)) (.list [])) else none) = _
    rw [show SeqAt.shaped (.list (p0 :: ps)) = true from h2.sh hn, show SeqAt.shaped (.list []) = true from h4.sh hn]
    rfl
theorem sh_signs {z : Str} (h : PyData.strOk z = true) : ∀ d ∈ signs z, shE 1 d := fun d hd => by
  obtain ⟨c, hc, rfl⟩ := List.mem_map.mp hd
  refine shE_str ?_
  unfold PyData.strOk at h ⊢
  rw [Array.all_eq_true_iff_forall_mem] at h ⊢
  intro x hx
  have : x = c := by simpa using hx
  rw [this]
  exact h c (Array.mem_toList_iff.mp hc)
/-! ### a, b, c = .., owned lists read -/
def wPar3Z (i j l : Nat) (wa : WA) : WS := fun ss t P => wa (frz ss) t (fun ds t1 => match ds with
  | [d, e, f] => nlA [d, e, f] = true ∧ P.nx (((ss.set i (.val d)).set j (.val e)).set l (.val f)) t1
  | _ => False) (xnl P.x)
theorem sb_par3Z {K : PySem.W.Frag} {E1 : XK} {ta : TA} {wa : WA} {i j l : Nat} (h : SndA K E1 ta wa) : SndB K E1 (tPar3 i j l ta) (wPar3Z i j l wa) := fun B D F H σ ss t P r hw k =>
  h B.pp _ H σ _ t _ _ _ r.frzE hw (k.xokz r) fun vs ds t1 F2 H2 s hv h1 => by
    split at h1
    · obtain ⟨s', l'⟩ := r.unfrz s
      have hv := rpA_less l' h1.1 hv
      cases hv with
      | cons gx hv =>
        obtain ⟨y, z, rfl, gy, gz⟩ := rpA2 hv
        exact ⟨_, y, z, rfl, k.nx _ H2 _ _ t1 s'.ff ((((r.step s').set gx).set gy).set gz) h1.2⟩
    · exact h1.elim
theorem then_ {b : WS} {P : Pst} {ss : Ss} {t : Int} (h : b ss t P) : wThen b P ss t := h
end E

set_option Elab.async false
set_option linter.all false
set_option maxRecDepth 100000
set_option maxHeartbeats 2000000
/-! texts of numbers, told and read -/
namespace Tx
open PySem PyProof.Rows L2 TL
abbrev zero : Str := Str.ofString "0"
abbrev blank : Str := Str.ofString " "
theorem tl_zero : tl zero = [48] := by decide +kernel
theorem tl_blank : tl blank = [32] := by decide +kernel
/-- the text of a number -/
def num (n : Int) : Str := Str.ofString (toString n)
theorem tl_numE {n : Int} (h : 0 ≤ n) : tl (num n) = numL n.toNat := by
  obtain ⟨m, rfl⟩ := Int.eq_ofNat_of_zero_le h
  unfold num
  rw [tl_num]
  rfl
/-- a number as it is written -/
def okN (z : Str) : Bool := (Txt.isascii z && Txt.isdigit z) && !(decide (z ≠ zero) && Txt.startswith z zero)
def numV (z : Str) : Int := (NumText.digitsVal (tl z) : Nat)
def ctIn (z : Str) : Option Int := if 60 < z.length then none else if okN z = true then some (numV z) else none
theorem dig128 : ∀ c, c < 128 → Unicode.isDigit c = true → 48 ≤ c ∧ c ≤ 57 := by decide +kernel
theorem dig57 : ∀ c, c < 58 → 48 ≤ c → Unicode.isDigit c = true := by decide +kernel
theorem dig_of {z : Str} (h : Txt.isascii z = true) (h2 : Txt.isdigit z = true) : NumText.AllDigits (tl z) ∧ tl z ≠ [] := by
  unfold Txt.isascii at h
  unfold Txt.isdigit at h2
  rw [Bool.and_eq_true, decide_eq_true_eq] at h2
  rw [Array.all_eq_true_iff_forall_mem] at h
  have h3 := h2.2
  rw [Array.all_eq_true_iff_forall_mem] at h3
  refine ⟨fun c hc => ?_, fun e => ?_⟩
  · have hm : c ∈ z.cps := Array.mem_toList_iff.mp hc
    exact dig128 c (of_decide_eq_true (h c hm)) (h3 c hm)
  · have := len_tl z
    rw [e] at this
    have h4 := h2.1
    rw [this] at h4
    cases h4
theorem dig_to {z : Str} (h : NumText.AllDigits (tl z)) (hn : tl z ≠ []) : Txt.isascii z = true ∧ Txt.isdigit z = true := by
  unfold Txt.isascii Txt.isdigit
  rw [Bool.and_eq_true, decide_eq_true_eq, Array.all_eq_true_iff_forall_mem, Array.all_eq_true_iff_forall_mem]
  refine ⟨fun c hc => ?_, ?_, fun c hc => ?_⟩
  · have := h c (Array.mem_toList_iff.mpr hc)
    exact decide_eq_true (by omega)
  · rw [len_tl]
    exact List.length_pos_iff.mpr hn
  · have := h c (Array.mem_toList_iff.mpr hc)
    exact dig57 c (by omega) this.1
theorem starts_pre {x y : Str} (hy : tl y ≠ []) : Txt.startswith x y = pre (tl y) (tl x) := by
  have h := at_iff (x := x) hy 0
  rw [List.drop_zero] at h
  unfold Txt.startswith
  have e : (decide (0 + y.length ≤ x.length) && Builtin.Str.subAt x y 0) = true ↔ pre (tl y) (tl x) = true := by
    rw [← h, Bool.and_eq_true, decide_eq_true_eq]
    exact Iff.rfl
  cases q : pre (tl y) (tl x) with
  | true => exact e.mpr q
  | false =>
    rw [q] at e
    cases q2 : (decide (0 + y.length ≤ x.length) && Builtin.Str.subAt x y 0) with
    | false => rfl
    | true => exact absurd (e.mp q2) (by decide)
/-- no number but 0 begins with 0 -/
theorem numL_head : ∀ n : Nat, 0 < n → ∃ c r, numL n = c :: r ∧ c ≠ 48 := by
  intro n
  induction n using Nat.strongRecOn with
  | _ n ih =>
    intro hp
    by_cases h : n < 10
    · rw [numL_lt h]
      exact ⟨48 + n, [], rfl, by omega⟩
    · rw [numL_step (by omega)]
      obtain ⟨c, r, e, hc⟩ := ih (n / 10) (by omega) (by omega)
      rw [e]
      exact ⟨c, r ++ [48 + n % 10], rfl, hc⟩
theorem okN_num {n : Int} (h : 0 ≤ n) : okN (num n) = true := by
  have e := tl_numE h
  obtain ⟨h1, h2⟩ := dig_to (z := num n) (by rw [e]; exact numL_digits _) (by rw [e]; exact numL_ne _)
  unfold okN
  rw [h1, h2, starts_pre (by rw [tl_zero]; simp), tl_zero, e]
  by_cases hz : n = 0
  · subst hz
    have : num 0 = zero := rfl
    rw [this]
    simp
  · obtain ⟨c, r, e1, hc⟩ := numL_head n.toNat (by omega)
    rw [e1, pre_of_head [] r hc]
    simp
theorem numV_num {n : Int} (h : 0 ≤ n) : numV (num n) = n := by
  unfold numV
  rw [tl_numE h, numL_val]
  omega
theorem num_len {n : Int} {k : Nat} (h : 0 ≤ n) (hk : 0 < k) (hn : n < 10 ^ k) : (num n).length ≤ k := by
  rw [len_tl, tl_numE h]
  refine numL_len hk ?_
  have e : ((10 : Int) ^ k) = ((10 ^ k : Nat) : Int) := by simp
  rw [e] at hn
  omega
theorem ctIn_num {n : Int} (h : 0 ≤ n) (hn : n < 10 ^ 60) : ctIn (num n) = some n := by
  unfold ctIn
  rw [if_neg (by have := num_len h (by decide) hn; omega), if_pos (okN_num h), numV_num h]
theorem digitsVal_app (a b : List Nat) : NumText.digitsVal (a ++ b) = b.foldl (fun acc c => acc * 10 + (c - 48)) (NumText.digitsVal a) := by
  unfold NumText.digitsVal
  rw [List.foldl_append]
/-- int('0' + z) -/
theorem int_zero {z : Str} (h : NumText.AllDigits (tl z)) (hl : z.length ≤ 639) : intText? (zero ++ z) = some (numV z) := by
  have e : tl (zero ++ z) = 48 :: tl z := by rw [tl_append, tl_zero]; rfl
  have hd : NumText.AllDigits (tl (zero ++ z)) := by
    rw [e]
    intro c hc
    rcases List.mem_cons.mp hc with q | q
    · omega
    · exact h c q
  have := intText_digits (x := zero ++ z) hd (by show tl (zero ++ z) ≠ []; rw [e]; simp) (by rw [len_tl, e, List.length_cons, ← len_tl]; omega)
  rw [this]
  show some ((NumText.digitsVal (tl (zero ++ z)) : Nat) : Int) = _
  rw [e]
  rfl
theorem int_all {z : Str} (h : NumText.AllDigits (tl z)) (hn : tl z ≠ []) (hl : z.length ≤ 639) : intText? z = some (numV z) := intText_digits (x := z) h hn (by omega)
theorem cut_all {z : Str} {n : Int} (h : n = z.length) : cutS z none (some n) = z := by
  subst h
  unfold cutS
  refine ext_tl ?_
  show List.take _ (List.drop _ (tl z)) = tl z
  rw [show HT.sIx z.length 0 none = 0 from rfl, List.drop_zero]
  refine List.take_of_length_le ?_
  rw [← len_tl]
  have : HT.sIx z.length z.length (some ((z.length : Nat) : Int)) = z.length := by
    rw [HT.sIx_nat]; omega
  omega
theorem cut_zero {z : Str} : cutS z none (some 0) = Str.empty := by
  unfold cutS
  refine ext_tl ?_
  show List.take _ (List.drop _ (tl z)) = []
  have : HT.sIx z.length z.length (some 0) = 0 := by
    have := HT.sIx_nat z.length z.length 0
    simpa using this
  rw [this, Nat.zero_sub, List.take_zero]
theorem cut_60 {z : Str} {a b : Int} (h : z.length = 60) (ha : a = 0) (hb : b = 60) : cutS z (some a) (some b) = z := by
  subst ha hb
  unfold cutS
  refine ext_tl ?_
  show List.take _ (List.drop _ (tl z)) = tl z
  have h0 : HT.sIx z.length 0 (some 0) = 0 := by
    have := HT.sIx_nat z.length 0 0
    simpa using this
  have h1 : HT.sIx z.length z.length (some 60) = 60 := by
    have := HT.sIx_nat z.length z.length 60
    rw [h] at this ⊢
    exact this
  rw [h0, h1, List.drop_zero]
  refine List.take_of_length_le ?_
  rw [← len_tl]
  omega
theorem len_app (a b : Str) : (a ++ b).length = a.length + b.length := by
  rw [len_tl, tl_append, List.length_append, ← len_tl, ← len_tl]
theorem zero_len : zero.length = 1 := by decide +kernel
theorem int_only : intText? (zero ++ Str.empty) = some 0 := by decide +kernel
theorem rg60 : RgC 0 60 60 1 := ⟨by decide, by decide, by decide +kernel, by decide +kernel⟩
theorem rg_none : ∀ n : Nat, n < 60 → (Builtin.Range.small (n : Int) (n : Int) 60 = true ∧ Builtin.Range.rangeSize (n : Int) (n : Int) 60 = 0) := by decide +kernel
theorem spl_le (S : List Nat) : ∀ (l : List Nat) (k : Nat) (acc : List Nat), ∀ p ∈ spl S k acc l, p.length ≤ acc.length + l.length
  | [], k, acc, p, h => by
    rw [spl_nil] at h
    rw [List.mem_singleton.mp h]
    simp
  | c :: r, k + 1, acc, p, h => by
    rw [spl_pass] at h
    have h2 : p ∈ spl S 0 acc (r.drop k) := h
    have := spl_le S (r.drop k) 0 acc p h2
    rw [List.length_drop] at this
    simp only [List.length_cons]
    omega
  | c :: r, 0, acc, p, h => by
    cases q : pre S (c :: r) with
    | true =>
      rw [spl_hit q] at h
      rcases List.mem_cons.mp h with h | h
      · rw [h]; simp
      · have := spl_le S r _ [] p h
        simp only [List.length_nil, List.length_cons] at this ⊢
        omega
    | false =>
      rw [spl_miss q] at h
      have := spl_le S r 0 (acc ++ [c]) p h
      simp only [List.length_append, List.length_cons, List.length_nil] at this ⊢
      omega
  termination_by l => l.length
theorem split_le {z y : Str} (h : y ∈ Txt.split z blank) : y.length ≤ z.length := by
  have e := split_spl z blank (by rw [tl_blank]; simp) (kind_ok (by decide +kernel))
  have hm : tl y ∈ spl (tl blank) 0 [] (tl z) := by rw [← e]; exact List.mem_map_of_mem h
  have := spl_le _ _ _ _ _ hm
  rw [len_tl, len_tl z]
  simpa using this
theorem split_ne (z : Str) : Txt.split z blank ≠ [] := by
  have e := split_spl z blank (by rw [tl_blank]; simp) (kind_ok (by decide +kernel))
  intro h
  rw [h] at e
  have : ∀ (S l : List Nat) (acc : List Nat), spl S 0 acc l ≠ [] := fun S l => by
    induction l with
    | nil => intro acc; rw [spl_nil]; simp
    | cons c r ih =>
      intro acc
      cases q : pre S (c :: r) with
      | true => rw [spl_hit q]; simp
      | false => rw [spl_miss q]; exact ih _
  exact this _ _ _ e.symm
theorem split_nums {ns : List Int} (h : ∀ n ∈ ns, 0 ≤ n) (hn : ns ≠ []) : Txt.split (Txt.join blank (ns.map num)) blank = ns.map num := by
  refine split_join (s := 32) (S := []) tl_blank (by decide +kernel) (fun e => hn (List.map_eq_nil_iff.mp e)) fun p hp => ?_
  obtain ⟨n, hm, rfl⟩ := List.mem_map.mp hp
  rw [tl_numE (h n hm)]
  exact numL_free (.inl (by decide))
theorem mem_joinL {S : List Nat} {c : Nat} : ∀ {parts : List (List Nat)}, c ∈ joinL S parts → c ∈ S ∨ ∃ p ∈ parts, c ∈ p
  | [], h => by cases h
  | [p], h => .inr ⟨p, List.mem_singleton.mpr rfl, h⟩
  | p :: q :: r, h => by
    rcases List.mem_append.mp (show c ∈ p ++ (S ++ joinL S (q :: r)) from h) with h | h
    · exact .inr ⟨p, List.mem_cons_self, h⟩
    · rcases List.mem_append.mp h with h | h
      · exact .inl h
      · rcases mem_joinL h with h | ⟨x, hx, hc⟩
        · exact .inl h
        · exact .inr ⟨x, List.mem_cons_of_mem _ hx, hc⟩
theorem join_small {ns : List Int} (h : ∀ n ∈ ns, 0 ≤ n) : PyData.strOk (Txt.join blank (ns.map num)) = true := by
  unfold PyData.strOk
  rw [Array.all_eq_true_iff_forall_mem]
  intro c hc
  have hm : c ∈ tl (Txt.join blank (ns.map num)) := Array.mem_toList_iff.mpr hc
  rw [join_eq, tl_join, tl_blank] at hm
  rcases mem_joinL hm with q | ⟨p, hp, q⟩
  · rw [List.mem_singleton.mp q]; decide
  · obtain ⟨z, hz, rfl⟩ := List.mem_map.mp hp
    obtain ⟨n, hn, rfl⟩ := List.mem_map.mp hz
    rw [tl_numE (h n hn)] at q
    have := numL_digits _ c q
    exact decide_eq_true (by omega)
/-! ### a number as it is written is the text of its value -/
theorem dv_snoc (l : List Nat) (c : Nat) : NumText.digitsVal (l ++ [c]) = NumText.digitsVal l * 10 + (c - 48) := by
  unfold NumText.digitsVal
  rw [List.foldl_append]; rfl
theorem dv_pos : ∀ l : List Nat, NumText.AllDigits l → (∃ c r, l = c :: r ∧ c ≠ 48) → 0 < NumText.digitsVal l := by
  have key : ∀ (n : Nat) (l : List Nat), l.length = n → NumText.AllDigits l → (∃ c r, l = c :: r ∧ c ≠ 48) → 0 < NumText.digitsVal l := by
    intro n
    induction n with
    | zero => intro l hl _ ⟨c, r, e, _⟩; rw [e] at hl; cases hl
    | succ n ih =>
      intro l hl hd ⟨c, r, e, hc⟩
      rcases List.eq_nil_or_concat l with rfl | ⟨l', x, rfl⟩
      · cases hl
      · rw [List.concat_eq_append] at *
        rw [dv_snoc]
        cases l' with
        | nil =>
          have e2 : x = c := by simpa using congrArg List.head? e
          subst e2
          have := hd x (by simp)
          simp [NumText.digitsVal]
          omega
        | cons y l2 =>
          have e2 : y = c := by simpa using congrArg List.head? e
          subst e2
          have := ih (y :: l2) (by simpa using hl) (fun d hm => hd d (List.mem_append_left _ hm)) ⟨y, l2, rfl, hc⟩
          omega
  exact fun l => key l.length l rfl
theorem numL_back : ∀ l : List Nat, NumText.AllDigits l → l ≠ [] → (l = [48] ∨ ∃ c r, l = c :: r ∧ c ≠ 48) → numL (NumText.digitsVal l) = l := by
  have key : ∀ (n : Nat) (l : List Nat), l.length = n → NumText.AllDigits l → l ≠ [] → (l = [48] ∨ ∃ c r, l = c :: r ∧ c ≠ 48) → numL (NumText.digitsVal l) = l := by
    intro n
    induction n with
    | zero => intro l hl _ hn _; exact absurd (List.length_eq_zero_iff.mp hl) hn
    | succ n ih =>
      intro l hl hd hn hh
      rcases List.eq_nil_or_concat l with rfl | ⟨l', x, rfl⟩
      · exact absurd rfl hn
      · rw [List.concat_eq_append] at *
        have hx := hd x (by simp)
        rw [dv_snoc]
        cases l' with
        | nil =>
          have e0 : NumText.digitsVal [] = 0 := rfl
          rw [e0, numL_lt (by omega)]
          simp only [List.nil_append]
          congr 1
          omega
        | cons y l2 =>
          have hy : y ≠ 48 := by
            rcases hh with h | ⟨c, r, e, hc⟩
            · have := congrArg List.length h
              simp at this
            · have e2 : y = c := by simpa using congrArg List.head? e
              rw [e2]; exact hc
          have hd' : NumText.AllDigits (y :: l2) := fun d hm => hd d (List.mem_append_left _ hm)
          have hp := dv_pos (y :: l2) hd' ⟨y, l2, rfl, hy⟩
          rw [numL_step (by omega)]
          have e1 : (NumText.digitsVal (y :: l2) * 10 + (x - 48)) / 10 = NumText.digitsVal (y :: l2) := by omega
          have e2 : 48 + (NumText.digitsVal (y :: l2) * 10 + (x - 48)) % 10 = x := by omega
          rw [e1, e2, ih (y :: l2) (by simpa using hl) hd' (by simp) (.inr ⟨y, l2, rfl, hy⟩)]
  exact fun l => key l.length l rfl
theorem okN_dig {z : Str} (h : okN z = true) : NumText.AllDigits (tl z) ∧ tl z ≠ [] ∧ (tl z = [48] ∨ ∃ c r, tl z = c :: r ∧ c ≠ 48) := by
  unfold okN at h
  rw [Bool.and_eq_true, Bool.and_eq_true] at h
  obtain ⟨⟨h1, h2⟩, h3⟩ := h
  obtain ⟨d1, d2⟩ := dig_of h1 h2
  refine ⟨d1, d2, ?_⟩
  by_cases e0 : z = zero
  · exact .inl (by rw [e0, tl_zero])
  · right
    rw [decide_eq_true e0, Bool.true_and, Bool.not_eq_true', starts_pre (by rw [tl_zero]; simp), tl_zero] at h3
    cases e : tl z with
    | nil => exact absurd e d2
    | cons c r =>
      refine ⟨c, r, rfl, fun hc => ?_⟩
      rw [e, hc] at h3
      have := pre_self [48] r
      rw [show [48] ++ r = 48 :: r from rfl] at this
      rw [this] at h3
      cases h3
theorem okN_back {z : Str} (h : okN z = true) : num (numV z) = z := by
  obtain ⟨h1, h2, h3⟩ := okN_dig h
  refine ext_tl ?_
  have h0 : 0 ≤ numV z := by unfold numV; omega
  rw [tl_numE h0]
  unfold numV
  rw [Int.toNat_natCast]
  exact numL_back _ h1 h2 h3
theorem okN_of {z : Str} (h1 : NumText.AllDigits (tl z)) (h2 : tl z ≠ []) (h3 : z = zero ∨ ∃ c r, tl z = c :: r ∧ c ≠ 48) : okN z = true := by
  obtain ⟨a, b⟩ := dig_to h1 h2
  unfold okN
  rw [a, b, Bool.true_and, Bool.true_and]
  rcases h3 with rfl | ⟨c, r, e, hc⟩
  · simp
  · rw [starts_pre (by rw [tl_zero]; simp), tl_zero, e, pre_of_head [] r hc]
    simp
theorem ctIn_back {z : Str} {n : Int} (h : ctIn z = some n) : num n = z ∧ 0 ≤ n ∧ z.length ≤ 60 := by
  unfold ctIn at h
  split at h
  · cases h
  · split at h
    · rename_i h1 h2
      cases h
      exact ⟨okN_back h2, by unfold numV; omega, by omega⟩
    · cases h
/-- -1 where it is none -/
def lnum (z : Str) : Int := (ctIn z).getD (-1)
theorem dv_lt : ∀ l : List Nat, NumText.AllDigits l → NumText.digitsVal l < 10 ^ l.length := by
  have key : ∀ (n : Nat) (l : List Nat), l.length = n → NumText.AllDigits l → NumText.digitsVal l < 10 ^ n := by
    intro n
    induction n with
    | zero => intro l hl _; rw [List.length_eq_zero_iff.mp hl]; decide
    | succ n ih =>
      intro l hl hd
      rcases List.eq_nil_or_concat l with rfl | ⟨l', x, rfl⟩
      · cases hl
      · rw [List.concat_eq_append] at *
        have hx := hd x (by simp)
        have := ih l' (by simpa using hl) fun d hm => hd d (List.mem_append_left _ hm)
        rw [dv_snoc, Nat.pow_succ]
        omega
  exact fun l => key l.length l rfl
theorem ctIn_lt {z : Str} {n : Int} (h : ctIn z = some n) : n < 10 ^ 60 := by
  unfold ctIn at h
  split at h
  · cases h
  · rename_i h6
    split at h
    · rename_i h2
      cases h
      obtain ⟨d1, _⟩ := okN_dig h2
      have h3 := dv_lt _ d1
      have h4 : 10 ^ (tl z).length ≤ 10 ^ 60 := Nat.pow_le_pow_right (by decide) (by rw [← len_tl]; omega)
      have h5 : NumText.digitsVal (tl z) < 10 ^ 60 := Nat.lt_of_lt_of_le h3 h4
      have e : ((10 : Int) ^ 60) = ((10 ^ 60 : Nat) : Int) := by decide
      unfold numV
      rw [e]
      exact Int.ofNat_lt.mpr h5
    · cases h
def ctV (z : Str) : Int := (ctIn z).getD 0
theorem lnum_none {z : Str} (h : okN z = false) : lnum z = -1 := by
  unfold lnum ctIn
  rw [h]
  split <;> rfl
theorem lnum_long {z : Str} (h : 60 < z.length) : lnum z = -1 := by
  unfold lnum ctIn
  rw [if_pos h]; rfl
theorem lnum_ok {z : Str} (h : okN z = true) (hl : z.length ≤ 60) : lnum z = numV z := by
  unfold lnum ctIn
  rw [if_neg (by omega), h, if_pos rfl]; rfl
theorem okN_empty {z : Str} (h : tl z = []) : okN z = false := by
  cases e : okN z with
  | false => rfl
  | true => exact absurd h (okN_dig e).2.1
theorem okN_odd {z : Str} {c : Nat} (hc : c ∈ tl z) (h : ¬ (48 ≤ c ∧ c ≤ 57)) : okN z = false := by
  cases e : okN z with
  | false => rfl
  | true => exact absurd ((okN_dig e).1 c hc) h
theorem okN_lead {z : Str} {r : List Nat} (h : tl z = 48 :: r) (hz : z ≠ zero) : okN z = false := by
  cases e : okN z with
  | false => rfl
  | true =>
    rcases (okN_dig e).2.2 with h2 | ⟨c, r', h2, hc⟩
    · exact absurd (ext_tl (by rw [h2, tl_zero])) hz
    · rw [h] at h2; cases h2; exact absurd rfl hc
theorem tl_dig : tl (Str.ofString "0123456789") = [48, 49, 50, 51, 52, 53, 54, 55, 56, 57] := by decide +kernel
theorem mem_dig {c : Nat} : c ∈ (Str.ofString "0123456789").cps.toList ↔ 48 ≤ c ∧ c ≤ 57 := by
  have e : (Str.ofString "0123456789").cps.toList = [48, 49, 50, 51, 52, 53, 54, 55, 56, 57] := tl_dig
  rw [e]
  simp only [List.mem_cons, List.mem_nil_iff, or_false]
  omega
end Tx

set_option Elab.async false
set_option linter.all false
set_option maxRecDepth 100000
set_option maxHeartbeats 4200000
namespace Lw
open PySem PySem.Spec PyProof.Rows L2 DL
open E
/-! ### words: what an expression is worth, by its form (E: the slots) -/
set_option hygiene false in
local macro_rules | `(tactic| walk_at "sd") => `(tactic| first | assumption | exact Nat.le_of_ble_eq_true rfl | decide | omega | (simp; done))
set_option hygiene false in
local macro_rules | `(tactic| walk_at "sh") => `(tactic| first | exact sh_int | exact sh_bool | exact sh_none | exact sh_tupI | exact sh_lstI | exact sh_nilL | exact sh_nilT | assumption)
set_option hygiene false in
local macro_rules | `(tactic| walk_at "td") => `(tactic| repeat (first | (with_reducible exact Tds.nil) | (with_reducible apply Tds.cons)))
set_option hygiene false in
local macro_rules | `(tactic| walk_at "rv") => `(tactic| first
  | (with_reducible exact rv_add) | (with_reducible exact rv_sub)
  | ((with_reducible apply rv_mulB); walk_at "sd") | ((with_reducible apply rv_divW); assumption) | ((with_reducible apply rv_div); walk_at "sd") | ((with_reducible apply rv_mod); walk_at "sd") | ((with_reducible apply rv_pow); walk_at "sd")
  | (with_reducible exact rv_lt) | (with_reducible exact rv_le) | (with_reducible exact rv_gt) | (with_reducible exact rv_ge) | (with_reducible exact rv_isNA) | (with_reducible exact rv_isNotA) | (with_reducible exact rv_isB) | (with_reducible exact rv_isNotB)
  | ((with_reducible apply rv_eq) <;> walk_at "sh") | ((with_reducible apply rv_ne) <;> walk_at "sh")
  | ((with_reducible apply rv_catT); walk_at "sd") | ((with_reducible apply rv_repT); (walk_at "sd"); (walk_at "sd"))
  | ((with_reducible apply rv_ix (by assumption)); walk_at "sd") | ((with_reducible apply rv_ixL); first | rfl | walk_at "sd") | ((with_reducible apply rv_ixT); first | rfl | walk_at "sd"))
set_option hygiene false in
local macro_rules | `(tactic| walk_at "rc") => `(tactic| first
  | (with_reducible exact rc_int) | (with_reducible exact rc_intb) | (with_reducible exact rc_abs) | (with_reducible exact rc_max)
  | (with_reducible exact rc_len (by assumption)) | (with_reducible exact rc_len_l) | (with_reducible exact rc_len_t)
  | (with_reducible exact rc_tuple (by assumption)) | (with_reducible exact rc_tuple_l) | (with_reducible exact rc_tuple_t)
  | (with_reducible exact rc_all) | (with_reducible exact rc_sum)
  | ((with_reducible apply rc_isi); decide +kernel) | ((with_reducible apply rc_isiT); decide +kernel))
set_option hygiene false in
local macro_rules | `(tactic| walk_at "rr") => `(tactic| first | exact ⟨_, rfl, rfl⟩ | exact ⟨_, _, rfl, rfl⟩ | assumption)
set_option hygiene false in
local macro_rules | `(tactic| walk_at "ea") => `(tactic| first | (with_reducible exact ea_nil) | ((with_reducible apply ea_cons); (walk_at "ev"); (walk_at "ea")))
set_option hygiene false in
local macro_rules | `(tactic| walk_at "eo") => `(tactic| first | (with_reducible exact eo_none) | ((with_reducible apply eo_some); walk_at "ev"))
set_option hygiene false in
local macro_rules | `(tactic| walk_at "en") => `(tactic| first
  | ((with_reducible apply en_lstT); (walk_at "ea"); (walk_at "td"); (walk_at "sd"))
  | ((with_reducible apply en_repB); (walk_at "en"); (walk_at "ev"); (walk_at "sd"); (walk_at "sd"))
  | ((with_reducible apply en_op); (walk_at "ev"); (walk_at "ev"); ((with_reducible apply rn_catL); walk_at "sd"))
  | ((with_reducible apply en_cb); (walk_at "ea"); first | (with_reducible exact rn_list (by assumption)) | (with_reducible exact rn_list_l) | (with_reducible exact rn_list_t))
  | ((with_reducible apply en_sl); (walk_at "ev"); (walk_at "eo"); (walk_at "eo"); (with_reducible exact rn_slL)))
set_option hygiene false in
local macro_rules | `(tactic| walk_at "ev") => `(tactic| first
  | (with_reducible exact ev_int (K := K)) | (with_reducible exact ev_bool (K := K)) | (with_reducible exact ev_none (K := K)) | (with_reducible exact ev_str (K := K)) | (with_reducible exact ev_ty)
  | ((with_reducible apply ev_var E); rfl)
  | ((with_reducible apply ev_op); (walk_at "ev"); (walk_at "ev"); (walk_at "rv"))
  | ((with_reducible apply ev_un); (walk_at "ev"); (with_reducible exact ru_neg))
  | ((with_reducible apply ev_call); (walk_at "ea"); (walk_at "rr"))
  | ((with_reducible apply ev_cb); (walk_at "ea"); (walk_at "rc"))
  | ((with_reducible apply ev_andV); (walk_at "ev"); (intro ha; walk_at "ev"))
  | ((with_reducible apply ev_orV); (walk_at "ev"); (intro ho; walk_at "ev"))
  | ((with_reducible apply ev_notV); walk_at "ev")
  | ((with_reducible apply ev_tupT); (walk_at "ea"); (walk_at "td"); (walk_at "sd"))
  | ((with_reducible apply ev_sl); (walk_at "ev"); (walk_at "eo"); (walk_at "eo"); (with_reducible exact rs_slT))
  | ((with_reducible apply ev_new); walk_at "en"))
set_option hygiene false in
local macro_rules | `(tactic| walk_at "et") => `(tactic| first
  | ((with_reducible apply et_test (K := K)); walk_at "ev") | ((with_reducible apply et_B (K := K)); walk_at "ev")
  | ((with_reducible apply et_not); walk_at "et")
  | ((with_reducible apply et_and); (walk_at "et"); (intro ha; walk_at "et"))
  | ((with_reducible apply et_or); (walk_at "et"); (intro ho; walk_at "et"))
  | (with_reducible exact et_yes))
set_option hygiene false in
local macro_rules | `(tactic| walk_at "q") => `(tactic| ((try dsimp only); (refine s_seq ?_); (try dsimp only)))
set_option hygiene false in
local macro_rules | `(tactic| walk_at "mw") => `(tactic| repeat (first | exact List.mem_cons_self | apply List.mem_cons_of_mem))
/-! the readings over data, opened: wp all, w1 as far as the next statement -/
set_option hygiene false in
local macro_rules | `(tactic| walk_at "wp") => `(tactic| dsimp only [wC, wVar, wOp, wUn, wNil, wCons, wCB, wTup, wLst, wNew, onB, wAndV, wOrV, wNotV, wTest, wYes, wNotT, wAnd, wOr, wIf, wChain, wNoP, wPart, wSl, w2I, wAdd, wSub, wMul, wDiv, wMod, wPow, wLt, wLe, wGt, wGe, wEq, wNe, wIs, wIsNot, isN, wNeg, wIx, wCut, wLen, wListOf, wTupleOf, wInt, wAbs, wMax2, wSum, wAll, wAny,
  seqD, wSeq, wEnum, wRng1, wRng2, wRng3, wgName, wgNil, wgCons, wgTup, wipeE, wCall, wCallM, wCallK, wCall0, wCallM0, wCallK0, wNext, wThen, wBr, wS2, wRet, wRetZ, wRetN, wRetO, wAsg, wAsgZ, wOwn, wOwnZ, wDrop, wDropZ, wIfS, wIfZ, wBrk, wCnt, wAppend, wAppendZ, wPop, wAugN, wAugSZ, wSetZ, wFz, wRaise, wRaise2, wSetF, wMake, wMakeK, wMeth, wFld, putD, wHand, wAsk, wTryKeep, wXv, wDct, wType, wIsC, wTrO, wSelfC, wStar, wSup, wOwnEq, wOwnNe, wBoolO, wMakeN, wParO, wMaxL, wLcm, wListE, wSorted, wDGet, wDisp, wPs, keyD, wPar3O, wPar3Z, wInI, wSetF2, wMakeR, wSortSet, wM0, wM1, wAscii, wDigit, wStarts, wSplit, wJoin, wIntT, wStrI, wStrOwn, wOwnEqT, wCutS, wExtend, wExtendZ, wRev, wZfill, wSigns, wNotInS, wIxS, wMulS, pn, wCallG, wHandG, wAskSet, wSwap, wTrOr, wTrV, wTryWork, wClause, List.replicate_succ, List.replicate_zero, wPar, wPar3, wNever, wRepN, wOpN, wAddN, wCBN, wListN, wSlN, wZip, frz, frz1, xnl, nl, nlA, nlF,
  List.map_cons, List.map_nil, List.getElem?_cons_succ, List.getElem?_cons_zero, List.set_cons_succ, List.set_cons_zero, List.length_cons, List.length_nil])
set_option hygiene false in
local macro_rules | `(tactic| walk_at "w1") => `(tactic| dsimp only [wC, wVar, wOp, wUn, wNil, wCons, wCB, wTup, wLst, wNew, onB, wAndV, wOrV, wNotV, wTest, wYes, wNotT, wAnd, wOr, wIf, wChain, wNoP, wPart, wSl, w2I, wAdd, wSub, wMul, wDiv, wMod, wPow, wLt, wLe, wGt, wGe, wEq, wNe, wIs, wIsNot, isN, wNeg, wIx, wCut, wLen, wListOf, wTupleOf, wInt, wAbs, wMax2, wSum, wAll, wAny,
  seqD, wSeq, wEnum, wRng1, wRng2, wRng3, wgName, wgNil, wgCons, wgTup, wipeE, wCall, wCallM, wCallK, wCall0, wCallM0, wCallK0, wNext, wS2, wRet, wRetZ, wRetN, wRetO, wAsg, wAsgZ, wOwn, wOwnZ, wDrop, wDropZ, wIfS, wIfZ, wBrk, wCnt, wAppend, wAppendZ, wPop, wAugN, wAugSZ, wSetZ, wFz, wRaise, wRaise2, wSetF, wMake, wMakeK, wMeth, wFld, putD, wHand, wAsk, wTryKeep, wXv, wDct, wType, wIsC, wTrO, wSelfC, wStar, wSup, wOwnEq, wOwnNe, wBoolO, wMakeN, wParO, wMaxL, wLcm, wListE, wSorted, wDGet, wDisp, wPs, keyD, wPar3O, wPar3Z, wInI, wSetF2, wMakeR, wSortSet, wM0, wM1, wAscii, wDigit, wStarts, wSplit, wJoin, wIntT, wStrI, wStrOwn, wOwnEqT, wCutS, wExtend, wExtendZ, wRev, wZfill, wSigns, wNotInS, wIxS, wMulS, pn, wCallG, wHandG, wAskSet, wSwap, wTrOr, wTrV, wTryWork, wClause, List.replicate_succ, List.replicate_zero, wPar, wPar3, wNever, wRepN, wOpN, wAddN, wCBN, wListN, wSlN, wZip, frz, frz1, xnl, nl, nlA, nlF,
  List.map_cons, List.map_nil, List.getElem?_cons_succ, List.getElem?_cons_zero, List.set_cons_succ, List.set_cons_zero, List.length_cons, List.length_nil])
set_option hygiene false in
local macro_rules | `(tactic| walk_at "wn") => `(tactic| ((try dsimp only [wNext]); (try dsimp only [wThen]); walk_at "w1"))
open Evl (sq_of st_of sz_of sz_lt)
def topS (i : Nat) : Stmt := PySem.Challenge.pw_sevenasone_k11_texts_of_rules_and_stores.main.body.getD i (.Pass ⟨0, 0, 0, 0⟩)
abbrev s_is_integer : Stmt := topS 2
abbrev N_is_integer : List Str := ["value"]
theorem sc_is_integer : FnScope N_is_integer ["value"] (defScope s_is_integer) := ⟨rfl, rfl, rfl, by decide +kernel, rfl, by decide +kernel, by decide +kernel⟩
abbrev s_is_within : Stmt := topS 3
abbrev N_is_within : List Str := ["value", "least", "most"]
theorem sc_is_within : FnScope N_is_within ["value", "least", "most"] (defScope s_is_within) := ⟨rfl, rfl, rfl, by decide +kernel, rfl, by decide +kernel, by decide +kernel⟩
abbrev s_is_numbers : Stmt := topS 4
abbrev N_is_numbers : List Str := ["value", "number"]
theorem sc_is_numbers : FnScope N_is_numbers ["value"] (defScope s_is_numbers) := ⟨rfl, rfl, rfl, by decide +kernel, rfl, by decide +kernel, by decide +kernel⟩
abbrev s_BadRule___init__ : Stmt := inClass (topS 7) 0
abbrev N_BadRule___init__ : List Str := ["self", "part"]
theorem sc_BadRule___init__ : FnScope N_BadRule___init__ ["self", "part"] (defScope s_BadRule___init__) := ⟨rfl, rfl, rfl, by decide +kernel, rfl, by decide +kernel, by decide +kernel⟩
abbrev s_BadCounts___init__ : Stmt := inClass (topS 8) 0
abbrev N_BadCounts___init__ : List Str := ["self", "part"]
theorem sc_BadCounts___init__ : FnScope N_BadCounts___init__ ["self", "part"] (defScope s_BadCounts___init__) := ⟨rfl, rfl, rfl, by decide +kernel, rfl, by decide +kernel, by decide +kernel⟩
abbrev s_BadStore___init__ : Stmt := inClass (topS 9) 0
abbrev N_BadStore___init__ : List Str := ["self", "part"]
theorem sc_BadStore___init__ : FnScope N_BadStore___init__ ["self", "part"] (defScope s_BadStore___init__) := ⟨rfl, rfl, rfl, by decide +kernel, rfl, by decide +kernel, by decide +kernel⟩
abbrev s_TooMany___init__ : Stmt := inClass (topS 10) 0
abbrev N_TooMany___init__ : List Str := ["self", "what", "most"]
theorem sc_TooMany___init__ : FnScope N_TooMany___init__ ["self", "what", "most"] (defScope s_TooMany___init__) := ⟨rfl, rfl, rfl, by decide +kernel, rfl, by decide +kernel, by decide +kernel⟩
abbrev s_BadText___init__ : Stmt := inClass (topS 11) 0
abbrev N_BadText___init__ : List Str := ["self", "line", "item"]
theorem sc_BadText___init__ : FnScope N_BadText___init__ ["self", "line", "item"] (defScope s_BadText___init__) := ⟨rfl, rfl, rfl, by decide +kernel, rfl, by decide +kernel, by decide +kernel⟩
abbrev s_is_counts : Stmt := topS 13
abbrev N_is_counts : List Str := ["value"]
theorem sc_is_counts : FnScope N_is_counts ["value"] (defScope s_is_counts) := ⟨rfl, rfl, rfl, by decide +kernel, rfl, by decide +kernel, by decide +kernel⟩
abbrev s__check_counts : Stmt := topS 14
abbrev N__check_counts : List Str := ["value", "name"]
theorem sc__check_counts : FnScope N__check_counts ["value", "name"] (defScope s__check_counts) := ⟨rfl, rfl, rfl, by decide +kernel, rfl, by decide +kernel, by decide +kernel⟩
abbrev s__without_end : Stmt := topS 15
abbrev N__without_end : List Str := ["row", "end"]
theorem sc__without_end : FnScope N__without_end ["row"] (defScope s__without_end) := ⟨rfl, rfl, rfl, by decide +kernel, rfl, by decide +kernel, by decide +kernel⟩
abbrev s__added : Stmt := topS 16
abbrev N__added : List Str := ["one", "other", "factor", "row", "place", "number"]
theorem sc__added : FnScope N__added ["one", "other", "factor"] (defScope s__added) := ⟨rfl, rfl, rfl, by decide +kernel, rfl, by decide +kernel, by decide +kernel⟩
abbrev s_less : Stmt := topS 17
abbrev N_less : List Str := ["one", "other"]
theorem sc_less : FnScope N_less ["one", "other"] (defScope s_less) := ⟨rfl, rfl, rfl, by decide +kernel, rfl, by decide +kernel, by decide +kernel⟩
abbrev s_times : Stmt := topS 18
abbrev N_times : List Str := ["one", "other", "row", "place", "number", "further", "factor"]
theorem sc_times : FnScope N_times ["one", "other"] (defScope s_times) := ⟨rfl, rfl, rfl, by decide +kernel, rfl, by decide +kernel, by decide +kernel⟩
abbrev s_items_of : Stmt := topS 22
abbrev N_items_of : List Str := ["text"]
theorem sc_items_of : FnScope N_items_of ["text"] (defScope s_items_of) := ⟨rfl, rfl, rfl, by decide +kernel, rfl, by decide +kernel, by decide +kernel⟩
abbrev s_number_text : Stmt := topS 23
abbrev N_number_text : List Str := ["number", "pieces"]
theorem sc_number_text : FnScope N_number_text ["number"] (defScope s_number_text) := ⟨rfl, rfl, rfl, by decide +kernel, rfl, by decide +kernel, by decide +kernel⟩
abbrev s_number_in : Stmt := topS 24
abbrev N_number_in : List Str := ["digits", "ahead", "number", "start"]
theorem sc_number_in : FnScope N_number_in ["digits"] (defScope s_number_in) := ⟨rfl, rfl, rfl, by decide +kernel, rfl, by decide +kernel, by decide +kernel⟩
abbrev s_count_in : Stmt := topS 25
abbrev N_count_in : List Str := ["item"]
theorem sc_count_in : FnScope N_count_in ["item"] (defScope s_count_in) := ⟨rfl, rfl, rfl, by decide +kernel, rfl, by decide +kernel, by decide +kernel⟩
abbrev s_Store___init__ : Stmt := inClass (topS 28) 0
abbrev N_Store___init__ : List Str := ["self", "counts", "count"]
theorem sc_Store___init__ : FnScope N_Store___init__ ["self", "counts"] (defScope s_Store___init__) := ⟨rfl, rfl, rfl, by decide +kernel, rfl, by decide +kernel, by decide +kernel⟩
abbrev s_Store_read : Stmt := inClass (topS 28) 1
abbrev N_Store_read : List Str := ["text", "items", "counts", "index", "item", "count", "least"]
theorem sc_Store_read : FnScope N_Store_read ["text"] (defScope s_Store_read) := ⟨rfl, rfl, rfl, by decide +kernel, rfl, by decide +kernel, by decide +kernel⟩
abbrev s_check_store : Stmt := topS 29
abbrev N_check_store : List Str := ["store", "name"]
theorem sc_check_store : FnScope N_check_store ["store", "name"] (defScope s_check_store) := ⟨rfl, rfl, rfl, by decide +kernel, rfl, by decide +kernel, by decide +kernel⟩
abbrev s_Store___str__ : Stmt := inClass (topS 28) 5
abbrev N_Store___str__ : List Str := ["self", "count"]
theorem sc_Store___str__ : FnScope N_Store___str__ ["self"] (defScope s_Store___str__) := ⟨rfl, rfl, rfl, by decide +kernel, rfl, by decide +kernel, by decide +kernel⟩
abbrev s_Store___eq__ : Stmt := inClass (topS 28) 6
abbrev N_Store___eq__ : List Str := ["self", "other"]
theorem sc_Store___eq__ : FnScope N_Store___eq__ ["self", "other"] (defScope s_Store___eq__) := ⟨rfl, rfl, rfl, by decide +kernel, rfl, by decide +kernel, by decide +kernel⟩
abbrev s__are_rule_counts : Stmt := topS 34
abbrev N__are_rule_counts : List Str := ["value", "count"]
theorem sc__are_rule_counts : FnScope N__are_rule_counts ["value"] (defScope s__are_rule_counts) := ⟨rfl, rfl, rfl, by decide +kernel, rfl, by decide +kernel, by decide +kernel⟩
abbrev s_Rule___init__ : Stmt := inClass (topS 35) 0
abbrev N_Rule___init__ : List Str := ["self", "counts", "parts", "many", "index"]
theorem sc_Rule___init__ : FnScope N_Rule___init__ ["self", "counts"] (defScope s_Rule___init__) := ⟨rfl, rfl, rfl, by decide +kernel, rfl, by decide +kernel, by decide +kernel⟩
abbrev s_Rule_read : Stmt := inClass (topS 35) 1
abbrev N_Rule_read : List Str := ["text", "items", "counts", "index", "item", "count", "least"]
theorem sc_Rule_read : FnScope N_Rule_read ["text"] (defScope s_Rule_read) := ⟨rfl, rfl, rfl, by decide +kernel, rfl, by decide +kernel, by decide +kernel⟩
abbrev s_Rule___str__ : Stmt := inClass (topS 35) 2
abbrev N_Rule___str__ : List Str := ["self", "count"]
theorem sc_Rule___str__ : FnScope N_Rule___str__ ["self"] (defScope s_Rule___str__) := ⟨rfl, rfl, rfl, by decide +kernel, rfl, by decide +kernel, by decide +kernel⟩
abbrev s_Rule___eq__ : Stmt := inClass (topS 35) 3
abbrev N_Rule___eq__ : List Str := ["self", "other"]
theorem sc_Rule___eq__ : FnScope N_Rule___eq__ ["self", "other"] (defScope s_Rule___eq__) := ⟨rfl, rfl, rfl, by decide +kernel, rfl, by decide +kernel, by decide +kernel⟩
abbrev s__law_pen : Stmt := topS 37
abbrev N__law_pen : List Str := ["script", "cell"]
theorem sc__law_pen : FnScope N__law_pen ["script"] (defScope s__law_pen) := ⟨rfl, rfl, rfl, by decide +kernel, rfl, by decide +kernel, by decide +kernel⟩
abbrev s__law_draw : Stmt := topS 38
abbrev N__law_draw : List Str := ["pen", "many", "digit", "at", "cell", "great", "mixed"]
theorem sc__law_draw : FnScope N__law_draw ["pen", "many"] (defScope s__law_draw) := ⟨rfl, rfl, rfl, by decide +kernel, rfl, by decide +kernel, by decide +kernel⟩
abbrev s__law_pick : Stmt := topS 39
abbrev N__law_pick : List Str := ["pen", "some"]
theorem sc__law_pick : FnScope N__law_pick ["pen", "some"] (defScope s__law_pick) := ⟨rfl, rfl, rfl, by decide +kernel, rfl, by decide +kernel, by decide +kernel⟩
abbrev s__law_rule : Stmt := topS 40
abbrev N__law_rule : List Str := ["pen", "middle", "spot"]
theorem sc__law_rule : FnScope N__law_rule ["pen"] (defScope s__law_rule) := ⟨rfl, rfl, rfl, by decide +kernel, rfl, by decide +kernel, by decide +kernel⟩
abbrev s__law_knots : Stmt := topS 41
abbrev N__law_knots : List Str := ["counts", "found", "parts", "sorts", "sort"]
theorem sc__law_knots : FnScope N__law_knots ["counts"] (defScope s__law_knots) := ⟨rfl, rfl, rfl, by decide +kernel, rfl, by decide +kernel, by decide +kernel⟩
abbrev s__law_store : Stmt := topS 43
abbrev N__law_store : List Str := ["pen", "most", "found", "spot"]
theorem sc__law_store : FnScope N__law_store ["pen", "most"] (defScope s__law_store) := ⟨rfl, rfl, rfl, by decide +kernel, rfl, by decide +kernel, by decide +kernel⟩
abbrev s__law_number : Stmt := topS 44
abbrev N__law_number : List Str := ["text", "sign"]
theorem sc__law_number : FnScope N__law_number ["text"] (defScope s__law_number) := ⟨rfl, rfl, rfl, by decide +kernel, rfl, by decide +kernel, by decide +kernel⟩
abbrev s__law_rule_place : Stmt := topS 45
abbrev N__law_rule_place : List Str := ["items", "at", "item"]
theorem sc__law_rule_place : FnScope N__law_rule_place ["items"] (defScope s__law_rule_place) := ⟨rfl, rfl, rfl, by decide +kernel, rfl, by decide +kernel, by decide +kernel⟩
abbrev s__law_store_place : Stmt := topS 46
abbrev N__law_store_place : List Str := ["items", "at", "item"]
theorem sc__law_store_place : FnScope N__law_store_place ["items"] (defScope s__law_store_place) := ⟨rfl, rfl, rfl, by decide +kernel, rfl, by decide +kernel, by decide +kernel⟩
abbrev s__law_bent : Stmt := topS 47
abbrev N__law_bent : List Str := ["pen", "items", "rows", "odd", "bend", "way", "at", "two"]
theorem sc__law_bent : FnScope N__law_bent ["pen", "items"] (defScope s__law_bent) := ⟨rfl, rfl, rfl, by decide +kernel, rfl, by decide +kernel, by decide +kernel⟩
abbrev s__law_heard : Stmt := topS 48
abbrev N__law_heard : List Str := ["ask", "found", "error"]
theorem sc__law_heard : FnScope N__law_heard ["ask"] (defScope s__law_heard) := ⟨rfl, rfl, rfl, by decide +kernel, rfl, by decide +kernel, by decide +kernel⟩
abbrev s__law_both_right : Stmt := topS 49
abbrev N__law_both_right : List Str := ["items", "text", "place", "spot", "zz pen"]
theorem sc__law_both_right : FnScope N__law_both_right ["items"] (defScope s__law_both_right) := ⟨rfl, rfl, rfl, by decide +kernel, rfl, by decide +kernel, by decide +kernel⟩
abbrev s_law : Stmt := topS 50
abbrev N_law : List Str := ["script", "pen", "lap", "rule", "store", "row", "turn", "odd", "number"]
theorem sc_law : FnScope N_law ["script"] (defScope s_law) := ⟨rfl, rfl, rfl, by decide +kernel, rfl, by decide +kernel, by decide +kernel⟩
structure Txt (K : PySem.W.Frag) (mg : Str → Option Value) where
  a_is_integer : Addr
  d_is_integer : FuncData
  F_is_integer : Fun K "is_integer" "is_integer" s_is_integer a_is_integer d_is_integer
  b_is_integer : Binds K d_is_integer ["value"] []
  g_is_integer : mg "is_integer" = some (.ref a_is_integer)
  a_is_within : Addr
  d_is_within : FuncData
  F_is_within : Fun K "is_within" "is_within" s_is_within a_is_within d_is_within
  b_is_within : Binds K d_is_within ["value", "least", "most"] []
  g_is_within : mg "is_within" = some (.ref a_is_within)
  a_is_numbers : Addr
  d_is_numbers : FuncData
  F_is_numbers : Fun K "is_numbers" "is_numbers" s_is_numbers a_is_numbers d_is_numbers
  b_is_numbers : Binds K d_is_numbers ["value"] []
  g_is_numbers : mg "is_numbers" = some (.ref a_is_numbers)
  a_BadRule___init__ : Addr
  d_BadRule___init__ : FuncData
  F_BadRule___init__ : Fun K "__init__" "BadRule.__init__" s_BadRule___init__ a_BadRule___init__ d_BadRule___init__
  b_BadRule___init__ : Binds K d_BadRule___init__ ["self", "part"] []
  a_BadCounts___init__ : Addr
  d_BadCounts___init__ : FuncData
  F_BadCounts___init__ : Fun K "__init__" "BadCounts.__init__" s_BadCounts___init__ a_BadCounts___init__ d_BadCounts___init__
  b_BadCounts___init__ : Binds K d_BadCounts___init__ ["self", "part"] []
  a_BadStore___init__ : Addr
  d_BadStore___init__ : FuncData
  F_BadStore___init__ : Fun K "__init__" "BadStore.__init__" s_BadStore___init__ a_BadStore___init__ d_BadStore___init__
  b_BadStore___init__ : Binds K d_BadStore___init__ ["self", "part"] []
  a_TooMany___init__ : Addr
  d_TooMany___init__ : FuncData
  F_TooMany___init__ : Fun K "__init__" "TooMany.__init__" s_TooMany___init__ a_TooMany___init__ d_TooMany___init__
  b_TooMany___init__ : Binds K d_TooMany___init__ ["self", "what", "most"] []
  a_BadText___init__ : Addr
  d_BadText___init__ : FuncData
  F_BadText___init__ : Fun K "__init__" "BadText.__init__" s_BadText___init__ a_BadText___init__ d_BadText___init__
  b_BadText___init__ : Binds K d_BadText___init__ ["self", "line", "item"] []
  a_is_counts : Addr
  d_is_counts : FuncData
  F_is_counts : Fun K "is_counts" "is_counts" s_is_counts a_is_counts d_is_counts
  b_is_counts : Binds K d_is_counts ["value"] []
  g_is_counts : mg "is_counts" = some (.ref a_is_counts)
  a__check_counts : Addr
  d__check_counts : FuncData
  F__check_counts : Fun K "_check_counts" "_check_counts" s__check_counts a__check_counts d__check_counts
  b__check_counts : Binds K d__check_counts ["value", "name"] []
  g__check_counts : mg "_check_counts" = some (.ref a__check_counts)
  a__without_end : Addr
  d__without_end : FuncData
  F__without_end : Fun K "_without_end" "_without_end" s__without_end a__without_end d__without_end
  b__without_end : Binds K d__without_end ["row"] []
  g__without_end : mg "_without_end" = some (.ref a__without_end)
  a__added : Addr
  d__added : FuncData
  F__added : Fun K "_added" "_added" s__added a__added d__added
  b__added : Binds K d__added ["one", "other", "factor"] []
  g__added : mg "_added" = some (.ref a__added)
  a_less : Addr
  d_less : FuncData
  F_less : Fun K "less" "less" s_less a_less d_less
  b_less : Binds K d_less ["one", "other"] []
  g_less : mg "less" = some (.ref a_less)
  a_times : Addr
  d_times : FuncData
  F_times : Fun K "times" "times" s_times a_times d_times
  b_times : Binds K d_times ["one", "other"] []
  g_times : mg "times" = some (.ref a_times)
  a_items_of : Addr
  d_items_of : FuncData
  F_items_of : Fun K "items_of" "items_of" s_items_of a_items_of d_items_of
  b_items_of : Binds K d_items_of ["text"] []
  g_items_of : mg "items_of" = some (.ref a_items_of)
  a_number_text : Addr
  d_number_text : FuncData
  F_number_text : Fun K "number_text" "number_text" s_number_text a_number_text d_number_text
  b_number_text : Binds K d_number_text ["number"] []
  g_number_text : mg "number_text" = some (.ref a_number_text)
  a_number_in : Addr
  d_number_in : FuncData
  F_number_in : Fun K "number_in" "number_in" s_number_in a_number_in d_number_in
  b_number_in : Binds K d_number_in ["digits"] []
  g_number_in : mg "number_in" = some (.ref a_number_in)
  a_count_in : Addr
  d_count_in : FuncData
  F_count_in : Fun K "count_in" "count_in" s_count_in a_count_in d_count_in
  b_count_in : Binds K d_count_in ["item"] []
  g_count_in : mg "count_in" = some (.ref a_count_in)
  a_Store___init__ : Addr
  d_Store___init__ : FuncData
  F_Store___init__ : Fun K "__init__" "Store.__init__" s_Store___init__ a_Store___init__ d_Store___init__
  b_Store___init__ : Binds K d_Store___init__ ["self", "counts"] []
  a_Store_read : Addr
  d_Store_read : FuncData
  F_Store_read : Fun K "read" "Store.read" s_Store_read a_Store_read d_Store_read
  b_Store_read : Binds K d_Store_read ["text"] []
  a_check_store : Addr
  d_check_store : FuncData
  F_check_store : Fun K "check_store" "check_store" s_check_store a_check_store d_check_store
  b_check_store : Binds K d_check_store ["store", "name"] []
  g_check_store : mg "check_store" = some (.ref a_check_store)
  a_Store___str__ : Addr
  d_Store___str__ : FuncData
  F_Store___str__ : Fun K "__str__" "Store.__str__" s_Store___str__ a_Store___str__ d_Store___str__
  b_Store___str__ : Binds K d_Store___str__ ["self"] []
  a_Store___eq__ : Addr
  d_Store___eq__ : FuncData
  F_Store___eq__ : Fun K "__eq__" "Store.__eq__" s_Store___eq__ a_Store___eq__ d_Store___eq__
  b_Store___eq__ : Binds K d_Store___eq__ ["self", "other"] []
  a__are_rule_counts : Addr
  d__are_rule_counts : FuncData
  F__are_rule_counts : Fun K "_are_rule_counts" "_are_rule_counts" s__are_rule_counts a__are_rule_counts d__are_rule_counts
  b__are_rule_counts : Binds K d__are_rule_counts ["value"] []
  g__are_rule_counts : mg "_are_rule_counts" = some (.ref a__are_rule_counts)
  a_Rule___init__ : Addr
  d_Rule___init__ : FuncData
  F_Rule___init__ : Fun K "__init__" "Rule.__init__" s_Rule___init__ a_Rule___init__ d_Rule___init__
  b_Rule___init__ : Binds K d_Rule___init__ ["self", "counts"] []
  a_Rule_read : Addr
  d_Rule_read : FuncData
  F_Rule_read : Fun K "read" "Rule.read" s_Rule_read a_Rule_read d_Rule_read
  b_Rule_read : Binds K d_Rule_read ["text"] []
  a_Rule___str__ : Addr
  d_Rule___str__ : FuncData
  F_Rule___str__ : Fun K "__str__" "Rule.__str__" s_Rule___str__ a_Rule___str__ d_Rule___str__
  b_Rule___str__ : Binds K d_Rule___str__ ["self"] []
  a_Rule___eq__ : Addr
  d_Rule___eq__ : FuncData
  F_Rule___eq__ : Fun K "__eq__" "Rule.__eq__" s_Rule___eq__ a_Rule___eq__ d_Rule___eq__
  b_Rule___eq__ : Binds K d_Rule___eq__ ["self", "other"] []
  a__law_pen : Addr
  d__law_pen : FuncData
  F__law_pen : Fun K "_law_pen" "_law_pen" s__law_pen a__law_pen d__law_pen
  b__law_pen : Binds K d__law_pen ["script"] []
  g__law_pen : mg "_law_pen" = some (.ref a__law_pen)
  a__law_draw : Addr
  d__law_draw : FuncData
  F__law_draw : Fun K "_law_draw" "_law_draw" s__law_draw a__law_draw d__law_draw
  b__law_draw : Binds K d__law_draw ["pen", "many"] []
  g__law_draw : mg "_law_draw" = some (.ref a__law_draw)
  a__law_pick : Addr
  d__law_pick : FuncData
  F__law_pick : Fun K "_law_pick" "_law_pick" s__law_pick a__law_pick d__law_pick
  b__law_pick : Binds K d__law_pick ["pen", "some"] []
  g__law_pick : mg "_law_pick" = some (.ref a__law_pick)
  a__law_rule : Addr
  d__law_rule : FuncData
  F__law_rule : Fun K "_law_rule" "_law_rule" s__law_rule a__law_rule d__law_rule
  b__law_rule : Binds K d__law_rule ["pen"] []
  g__law_rule : mg "_law_rule" = some (.ref a__law_rule)
  a__law_knots : Addr
  d__law_knots : FuncData
  F__law_knots : Fun K "_law_knots" "_law_knots" s__law_knots a__law_knots d__law_knots
  b__law_knots : Binds K d__law_knots ["counts"] []
  g__law_knots : mg "_law_knots" = some (.ref a__law_knots)
  a__law_store : Addr
  d__law_store : FuncData
  F__law_store : Fun K "_law_store" "_law_store" s__law_store a__law_store d__law_store
  b__law_store : Binds K d__law_store ["pen", "most"] []
  g__law_store : mg "_law_store" = some (.ref a__law_store)
  a__law_number : Addr
  d__law_number : FuncData
  F__law_number : Fun K "_law_number" "_law_number" s__law_number a__law_number d__law_number
  b__law_number : Binds K d__law_number ["text"] []
  g__law_number : mg "_law_number" = some (.ref a__law_number)
  a__law_rule_place : Addr
  d__law_rule_place : FuncData
  F__law_rule_place : Fun K "_law_rule_place" "_law_rule_place" s__law_rule_place a__law_rule_place d__law_rule_place
  b__law_rule_place : Binds K d__law_rule_place ["items"] []
  g__law_rule_place : mg "_law_rule_place" = some (.ref a__law_rule_place)
  a__law_store_place : Addr
  d__law_store_place : FuncData
  F__law_store_place : Fun K "_law_store_place" "_law_store_place" s__law_store_place a__law_store_place d__law_store_place
  b__law_store_place : Binds K d__law_store_place ["items"] []
  g__law_store_place : mg "_law_store_place" = some (.ref a__law_store_place)
  a__law_bent : Addr
  d__law_bent : FuncData
  F__law_bent : Fun K "_law_bent" "_law_bent" s__law_bent a__law_bent d__law_bent
  b__law_bent : Binds K d__law_bent ["pen", "items"] []
  g__law_bent : mg "_law_bent" = some (.ref a__law_bent)
  a__law_heard : Addr
  d__law_heard : FuncData
  F__law_heard : Fun K "_law_heard" "_law_heard" s__law_heard a__law_heard d__law_heard
  b__law_heard : Binds K d__law_heard ["ask"] []
  g__law_heard : mg "_law_heard" = some (.ref a__law_heard)
  a__law_both_right : Addr
  d__law_both_right : FuncData
  F__law_both_right : Fun K "_law_both_right" "_law_both_right" s__law_both_right a__law_both_right d__law_both_right
  b__law_both_right : Binds K d__law_both_right ["items"] []
  g__law_both_right : mg "_law_both_right" = some (.ref a__law_both_right)
  a_law : Addr
  d_law : FuncData
  F_law : Fun K "law" "law" s_law a_law d_law
  b_law : Binds K d_law ["script"] []
  g_law : mg "law" = some (.ref a_law)
  n_abs : mg "abs" = none
  n_all : mg "all" = none
  n_bool : mg "bool" = none
  n_enumerate : mg "enumerate" = none
  n_int : mg "int" = none
  n_isinstance : mg "isinstance" = none
  n_len : mg "len" = none
  n_list : mg "list" = none
  n_range : mg "range" = none
  n_str : mg "str" = none
  n_sum : mg "sum" = none
  n_tuple : mg "tuple" = none
  c_BadRule : Addr
  gC_BadRule : mg "BadRule" = some (.ref c_BadRule)
  E_BadRule : ErrC K c_BadRule
  i_BadRule : PySem.W.findIn K (.ref c_BadRule) "__init__" = some (some (.ref a_BadRule___init__))
  ti_BadRule : PySem.W.typeIn K (.ref a_BadRule___init__) = some (.type "function")
  no_BadRule : PySem.W.findIn K (.ref c_BadRule) "part" = some none
  c_BadCounts : Addr
  gC_BadCounts : mg "BadCounts" = some (.ref c_BadCounts)
  E_BadCounts : ErrC K c_BadCounts
  i_BadCounts : PySem.W.findIn K (.ref c_BadCounts) "__init__" = some (some (.ref a_BadCounts___init__))
  ti_BadCounts : PySem.W.typeIn K (.ref a_BadCounts___init__) = some (.type "function")
  no_BadCounts : PySem.W.findIn K (.ref c_BadCounts) "part" = some none
  c_BadStore : Addr
  gC_BadStore : mg "BadStore" = some (.ref c_BadStore)
  E_BadStore : ErrC K c_BadStore
  i_BadStore : PySem.W.findIn K (.ref c_BadStore) "__init__" = some (some (.ref a_BadStore___init__))
  ti_BadStore : PySem.W.typeIn K (.ref a_BadStore___init__) = some (.type "function")
  no_BadStore : PySem.W.findIn K (.ref c_BadStore) "part" = some none
  c_TooMany : Addr
  gC_TooMany : mg "TooMany" = some (.ref c_TooMany)
  E_TooMany : ErrC K c_TooMany
  i_TooMany : PySem.W.findIn K (.ref c_TooMany) "__init__" = some (some (.ref a_TooMany___init__))
  ti_TooMany : PySem.W.typeIn K (.ref a_TooMany___init__) = some (.type "function")
  no_TooMany : PySem.W.findIn K (.ref c_TooMany) "what" = some none
  no2_TooMany : PySem.W.findIn K (.ref c_TooMany) "most" = some none
  c_BadText : Addr
  gC_BadText : mg "BadText" = some (.ref c_BadText)
  E_BadText : ErrC K c_BadText
  i_BadText : PySem.W.findIn K (.ref c_BadText) "__init__" = some (some (.ref a_BadText___init__))
  ti_BadText : PySem.W.typeIn K (.ref a_BadText___init__) = some (.type "function")
  no_BadText : PySem.W.findIn K (.ref c_BadText) "line" = some none
  no2_BadText : PySem.W.findIn K (.ref c_BadText) "item" = some none
  c_Store : Addr
  gC_Store : mg "Store" = some (.ref c_Store)
  M_Store : Mk K c_Store a_Store___init__
  K_Store : Cls K c_Store
  na_Store_counts : NoAttr K c_Store "counts"
  na_Store_is_endless : NoAttr K c_Store "is_endless"
  na_Store_many : NoAttr K c_Store "many"
  c_Rule : Addr
  gC_Rule : mg "Rule" = some (.ref c_Rule)
  M_Rule : Mk K c_Rule a_Rule___init__
  K_Rule : Cls K c_Rule
  na_Rule_counts : NoAttr K c_Rule "counts"
  na_Rule_knots : NoAttr K c_Rule "knots"
  na_Rule_top : NoAttr K c_Rule "top"
  na_Rule_stepped : NoAttr K c_Rule "stepped"
  c_TreeError : Addr
  gC_TreeError : mg "TreeError" = some (.ref c_TreeError)
  k_BadRule_BadText : PySem.W.kitOne K (.ref c_BadRule) (.ref c_BadText) = some false
  m_BadRule_TreeError : PySem.W.exmOne K (.ref c_BadRule) (.ref c_TreeError) = some true
  k_BadCounts_BadText : PySem.W.kitOne K (.ref c_BadCounts) (.ref c_BadText) = some false
  m_BadCounts_TreeError : PySem.W.exmOne K (.ref c_BadCounts) (.ref c_TreeError) = some true
  k_BadStore_BadText : PySem.W.kitOne K (.ref c_BadStore) (.ref c_BadText) = some false
  m_BadStore_TreeError : PySem.W.exmOne K (.ref c_BadStore) (.ref c_TreeError) = some true
  k_TooMany_BadText : PySem.W.kitOne K (.ref c_TooMany) (.ref c_BadText) = some false
  m_TooMany_TreeError : PySem.W.exmOne K (.ref c_TooMany) (.ref c_TreeError) = some true
  k_BadText_BadText : PySem.W.kitOne K (.ref c_BadText) (.ref c_BadText) = some true
  m_BadText_TreeError : PySem.W.exmOne K (.ref c_BadText) (.ref c_TreeError) = some true
  kn_BadText : PySem.W.kitOne K (.type "NoneType") (.ref c_BadText) = some false
  v_MOST_DIGITS : ∃ t, mg "MOST_DIGITS" = some (.int (60) t)
  v_MOST_TREES : ∃ t, mg "MOST_TREES" = some (.int (40) t)
  v_LEAST_COUNTS : ∃ t, mg "LEAST_COUNTS" = some (.int (3) t)
  v_MOST_COUNTS : ∃ t, mg "MOST_COUNTS" = some (.int (6) t)
  v_MOST_SORTS : ∃ t, mg "MOST_SORTS" = some (.int (3) t)
  at__law_both_right : a__law_both_right = He.fAd K ("_law_both_right", none)
  at_law : a_law = He.fAd K ("law", none)
  O_Store : Su.ObjF K c_Store
  O_Rule : Su.ObjF K c_Rule
  s_Rule : PySem.W.findIn K (.ref c_Rule) "__str__" = some (some (.ref a_Rule___str__)) ∧ PySem.W.isFn K (.ref a_Rule___str__) = true
  s_Store : PySem.W.findIn K (.ref c_Store) "__str__" = some (some (.ref a_Store___str__)) ∧ PySem.W.isFn K (.ref a_Store___str__) = true
  ap__law_both_right_law : (He.cT K ("_law_both_right", none)).2 ≠ (He.cT K ("law", none)).2
  p_Rule_read : Addr
  S_Rule_read : Su.StaF K c_Rule p_Rule_read a_Rule_read "read"
  p_Store_read : Addr
  S_Store_read : Su.StaF K c_Store p_Store_read a_Store_read "read"
  k_Store_Store : PySem.W.kitOne K (.ref c_Store) (.ref c_Store) = some true
  k_Rule_Rule : PySem.W.kitOne K (.ref c_Rule) (.ref c_Rule) = some true
  kt_str_Rule : PySem.W.kitOne K (.type "str") (.ref c_Rule) = some false
  kt_tuple_Rule : PySem.W.kitOne K (.type "tuple") (.ref c_Rule) = some false
def kg_Store_read_0_text {α : Type} : List α → List α → List α
  | [], [x0] => [x0]
  | _, _ => []
theorem kb_Store_read_0_text {K : PySem.W.Frag} {mg : Str → Option Value} (T : Txt K mg) : KBinds K T.d_Store_read ["text"] ["text"] kg_Store_read_0_text kg_Store_read_0_text where
  to := fun s us ws X hl => match us, ws, hl with
    | [], [_], _ => fun_bindsTo T.F_Store_read s fun _ _ _ _ _ _ => rfl
  rel := fun r z => match r, z with
    | .nil, .nil => .nil
    | .nil, .cons x0 .nil => .cons x0 .nil
    | .nil, .cons _ (.cons _ (_)) => .nil
    | .cons _ _, _ => .nil
instance : E.Tb := ⟨fun K => [((He.cT K ("_law_both_right", none)).2, "_law_both_right.<locals>.<lambda>"), ((He.cT K ("law", none)).2, "law.<locals>.<lambda>")]⟩
abbrev lamTabs (K : PySem.W.Frag) : List (Addr × Addr) := [He.cT K ("_law_both_right", none), He.cT K ("law", none)]
theorem mt__law_both_right {K : PySem.W.Frag} : (((He.cT K ("_law_both_right", none)).2, ("_law_both_right.<locals>.<lambda>" : Str)) : Addr × Str) ∈ E.Tb.T K := by show _ ∈ [((He.cT K ("_law_both_right", none)).2, ("_law_both_right.<locals>.<lambda>" : Str)), ((He.cT K ("law", none)).2, ("law.<locals>.<lambda>" : Str))]; simp
theorem lm__law_both_right {K : PySem.W.Frag} : He.cT K ("_law_both_right", none) ∈ lamTabs K := by show _ ∈ [He.cT K ("_law_both_right", none), He.cT K ("law", none)]; simp
theorem uq__law_both_right {K : PySem.W.Frag} {mg : Str → Option Value} (T : Txt K mg) : ∀ p ∈ E.Tb.T K, p.1 = (He.cT K ("_law_both_right", none)).2 → p.2 = "_law_both_right.<locals>.<lambda>" := fun p hp e => by
  have hp : p ∈ [((He.cT K ("_law_both_right", none)).2, ("_law_both_right.<locals>.<lambda>" : Str)), ((He.cT K ("law", none)).2, ("law.<locals>.<lambda>" : Str))] := hp
  simp only [List.mem_cons, List.mem_nil_iff, or_false] at hp
  rcases hp with rfl | rfl
  · rfl
  · exact absurd e (Ne.symm T.ap__law_both_right_law)
theorem mt_law {K : PySem.W.Frag} : (((He.cT K ("law", none)).2, ("law.<locals>.<lambda>" : Str)) : Addr × Str) ∈ E.Tb.T K := by show _ ∈ [((He.cT K ("_law_both_right", none)).2, ("_law_both_right.<locals>.<lambda>" : Str)), ((He.cT K ("law", none)).2, ("law.<locals>.<lambda>" : Str))]; simp
theorem lm_law {K : PySem.W.Frag} : He.cT K ("law", none) ∈ lamTabs K := by show _ ∈ [He.cT K ("_law_both_right", none), He.cT K ("law", none)]; simp
theorem uq_law {K : PySem.W.Frag} {mg : Str → Option Value} (T : Txt K mg) : ∀ p ∈ E.Tb.T K, p.1 = (He.cT K ("law", none)).2 → p.2 = "law.<locals>.<lambda>" := fun p hp e => by
  have hp : p ∈ [((He.cT K ("_law_both_right", none)).2, ("_law_both_right.<locals>.<lambda>" : Str)), ((He.cT K ("law", none)).2, ("law.<locals>.<lambda>" : Str))] := hp
  simp only [List.mem_cons, List.mem_nil_iff, or_false] at hp
  rcases hp with rfl | rfl
  · exact absurd e T.ap__law_both_right_law
  · rfl
theorem ks_Store_read_0_text {K : PySem.W.Frag} {F : Hp} {vs zs : List V} {ds es : List E.Dt} (r : E.RpA K F vs ds) (z : E.RpA K F zs es) : E.RpA K F (kg_Store_read_0_text vs zs) (kg_Store_read_0_text ds es) := match r, z with
    | .nil, .nil => .nil
    | .nil, .cons h0 .nil => .cons h0 .nil
    | .nil, .cons _ (.cons _ (_)) => .nil
    | .cons _ _, _ => .nil
theorem kd_Store_read_0_text {α : Type} {h0 : α} : kg_Store_read_0_text [] [h0] = [h0] := rfl
set_option hygiene false in
local macro_rules | `(tactic| walk_at "kw") => `(tactic| try simp only [kd_Store_read_0_text])
variable {P : Program} {w : World} {mg : Str → Option Value} {base : Heap} {K : PySem.W.Frag} [Su.PF P]
/-! ### is_integer -/
def T_is_integer : Tp := fun ds q _ => match ds with
  | [d] => plainD d = true ∧ q (.bl (isInt d))
  | _ => False
theorem ok_is_integer (T : Txt K mg) : FnOk P w K mg base CX0 1 T.a_is_integer T.d_is_integer ["value"] (spT K T_is_integer) := by
  have hlen : ∀ ds q x, T_is_integer ds q x → ds.length = 1 := fun ds q x h => by unfold T_is_integer at h; split at h <;> first | rfl | exact h.elim
  refine T.F_is_integer.ok sc_is_integer (fun vs H Q E h => spT_len h hlen) (fun cdv A outer s H vs Q E hr h => ?body)
  refine ⟨_, (pss_one (ps_ret (pe_and (pe_callB call_isiE (by rfl) T.n_isinstance (by decide +kernel) (pa_cons (pv 0) (pa_cons (pe_bltn (v := .ty "int") (by rfl) T.n_int (by decide +kernel) rfl) pa_nil))) (pe_one (pe_not (pe_callB call_isiE (by rfl) T.n_isinstance (by decide +kernel) (pa_cons (pv 0) (pa_cons (pe_bltn (v := .ty "bool") (by rfl) T.n_bool (by decide +kernel) rfl) pa_nil)))))))), ?_⟩
  try dsimp only [cxOf, Cx.nox, Cx.wish, Cx.blk]
  refine def_T0 (K := K) (T := T_is_integer) (sb_ret (sn_andV (sn_cb sc_isi (sa_cons sn_var (sa_cons sn_ty sa_nil))) (sn_notV (sn_cb sc_isi (sa_cons sn_var (sa_cons sn_ty sa_nil)))))) h (fun ds q x h => by have h2 := hlen ds q x h; exact Nat.le_trans (show ds.length ≤ 1 by omega) (by decide)) (fun ds q x h => ?_)
  have hl0 := hlen _ _ _ h
  match ds, hl0, h with
  | [d0], _, h => ?_
  refine to_ss (b := [.val d0]) rfl ?_
  obtain ⟨hd, hq⟩ := h
  walk_at "wp"
  refine isi_ty (by decide +kernel) hd ?_
  rw [← isInt_ty] at hq
  revert hq
  cases isTy d0 "int" with
  | false => exact fun hq => iteF hq
  | true => exact fun hq => iteT (isi_ty (by decide +kernel) hd hq)
/-! ### is_within -/
def T_is_within : Tp := fun ds q _ => match ds with
  | [d, lo, hi] => plainD d = true ∧ ∃ l h, optI lo = some l ∧ optI hi = some h ∧ q (.bl (within d l h))
  | _ => False
theorem ok_is_within (T : Txt K mg) : FnOk P w K mg base CX0 2 T.a_is_within T.d_is_within ["value", "least", "most"] (spT K T_is_within) := by
  have G_is_integer := ok_is_integer (P := P) (w := w) (base := base) T
  have hlen : ∀ ds q x, T_is_within ds q x → ds.length = 3 := fun ds q x h => by unfold T_is_within at h; split at h <;> first | rfl | exact h.elim
  refine T.F_is_within.ok sc_is_within (fun vs H Q E h => spT_len h hlen) (fun cdv A outer s H vs Q E hr h => ?body)
  refine ⟨_, (pss_cons (ps_if (pt_not (pt_val (pe_call G_is_integer (hr.mono (by decide)) (by rfl) T.g_is_integer T.F_is_integer.kp T.b_is_integer .nil pass0 (pa_cons (pv 0) pa_nil))))
      (pss_one (ps_ret pe_bl))
      pss_nil)
      (pss_one (ps_ret (pe_and (pe_or (pe_cmpR op_isA (pv 1) pe_non (nomark _)) (pe_one (pe_cmpR op_leA (pv 1) (pv 0) (nomark _)))) (pe_one (pe_or (pe_cmpR op_isA (pv 2) pe_non (nomark _)) (pe_one (pe_cmpR op_leA (pv 0) (pv 2) (nomark _))))))))), ?_⟩
  try dsimp only [cxOf, Cx.nox, Cx.wish, Cx.blk]
  refine def_T0 (K := K) (T := T_is_within) (sb_seq (sb_if (st_not (st_B (sn_call0 (sa_cons sn_var sa_nil))))
      (sb_ret sn_bl)
      sb_next)
      (sb_ret (sn_andV (sn_orV (sn_op sr_is sn_var sn_non) (sn_op sr_le sn_var sn_var)) (sn_orV (sn_op sr_is sn_var sn_non) (sn_op sr_le sn_var sn_var))))) h (fun ds q x h => by have h2 := hlen ds q x h; exact Nat.le_trans (show ds.length ≤ 3 by omega) (by decide)) (fun ds q x h => ?_)
  have hl0 := hlen _ _ _ h
  match ds, hl0, h with
  | [d0, d1, d2], _, h => ?_
  refine to_ss (b := [.val d0, .val d1, .val d2]) rfl ?_
  obtain ⟨hd, l, u, h1, h2, hq⟩ := h
  walk_at "wp"
  refine ⟨hd, ?_⟩
  cases d0 with
  | int i =>
    refine iteF ?_
    cases d1 <;> first | cases h1 | skip
    all_goals (cases d2 <;> first | cases h2 | skip)
    all_goals dsimp only
    all_goals first | exact hq | (simp only [within, Option.all_some, Option.all_none] at hq ⊢; (repeat' split) <;> simp_all)
  | _ => exact iteT hq
/-! ### is_numbers -/
def T_is_numbers : Tp := fun ds q _ => match ds with
  | [d] => goodD d ∧ q (.bl (nums d).isSome)
  | _ => False
theorem ok_is_numbers (T : Txt K mg) : FnOk P w K mg base CX0 2 T.a_is_numbers T.d_is_numbers ["value"] (spT K T_is_numbers) := by
  have G_is_integer := ok_is_integer (P := P) (w := w) (base := base) T
  have hlen : ∀ ds q x, T_is_numbers ds q x → ds.length = 1 := fun ds q x h => by unfold T_is_numbers at h; split at h <;> first | rfl | exact h.elim
  refine T.F_is_numbers.ok sc_is_numbers (fun vs H Q E h => spT_len h hlen) (fun cdv A outer s H vs Q E hr h => ?body)
  refine ⟨_, (pss_one (ps_ret (pe_and (pe_callB call_isiS (by rfl) T.n_isinstance (by decide +kernel) (pa_cons (pv 0) (pa_cons (pe_tup (pa_cons (pe_bltn (v := .ty "list") (by rfl) T.n_list (by decide +kernel) rfl) (pa_cons (pe_bltn (v := .ty "tuple") (by rfl) T.n_tuple (by decide +kernel) rfl) pa_nil))) pa_nil))) (pe_one (pe_callB (cr_all rfl) (by rfl) T.n_all (by decide +kernel) (pa_cons (pe_lc (own := [("number", 1)]) rfl sc_is_numbers.nd (pi_seqM (pv 0)) (blkOk_by (own := [("number", 1)]) (N := N_is_numbers) (sc := defScope s_is_numbers) (by decide +kernel)) (fun _ _ _ _ _ => (pg_name (i := 1) sc_is_numbers.nd rfl (.inl rfl))) (fun _ _ _ _ _ => pts_nil) (fun _ _ _ _ _ => (pe_call G_is_integer (hr.mono (by decide)) (by rfl) T.g_is_integer T.F_is_integer.kp T.b_is_integer .nil pass0 (pa_cons (pv 1) pa_nil)))) pa_nil)))))), ?_⟩
  try dsimp only [cxOf, Cx.nox, Cx.wish, Cx.blk]
  refine def_T0 (K := K) (T := T_is_numbers) (sb_ret (sn_andV (sn_cb sc_isiT (sa_cons sn_var (sa_cons (sn_tup (sa_cons sn_ty (sa_cons sn_ty sa_nil))) sa_nil))) (sn_cb sc_all (sa_cons (sn_new (nn_lc (si_seq sn_var) (sg_name (by decide)) st_yes (sn_call0 (sa_cons sn_var sa_nil)))) sa_nil)))) h (fun ds q x h => by have h2 := hlen ds q x h; exact Nat.le_trans (show ds.length ≤ 1 by omega) (by decide)) (fun ds q x h => ?_)
  have hl0 := hlen _ _ _ h
  match ds, hl0, h with
  | [d0], _, h => ?_
  refine to_ss (b := [.val d0, .no]) rfl ?_
  obtain ⟨⟨hd, hg⟩, hq⟩ := h
  walk_at "wp"
  refine ⟨by decide, isiT_ty (ns := ["list", "tuple"]) (by decide +kernel) hd ?_⟩
  rw [isSeq_ty]
  have row : ∀ ds : List Dt, d0 = .lst ds ∨ d0 = .tup ds → (unI ds).isSome = (nums d0).isSome := fun ds e => by rcases e with e | e <;> subst e <;> rfl
  have go : ∀ ds : List Dt, (d0 = .lst ds ∨ d0 = .tup ds) → (∀ k : List Dt → Int → Prop, k ds 0 → wSeq (wVar 0) [.val d0, .no] 0 k fun _ _ => False) → wLc (wSeq (wVar 0)) (wgName 1) wYes (wCall0 T_is_integer (wCons (wVar 1) wNil)) [1] [.val d0, .no] 0 (fun ds t => wAll [.lst ds] fun z => q z) (fun _ _ => False) := fun ds e hi => by
    obtain ⟨g1, g2⟩ := hg ds e
    refine lc_map' (fun d => .bl (isInt d)) hi g1 (fun d k hd hk => ?_) ?_
    · walk_at "wp"
      exact ⟨g2 d hd, hk⟩
    · refine on_some (unB_of (bs := ds.map isInt) (by rw [List.map_map]; rfl)) ?_
      rw [unI_all, row ds e]
      exact hq
  cases d0 with
  | lst ds => exact iteT (go ds (.inl rfl) fun k hk => hk)
  | tup ds => exact iteT (go ds (.inr rfl) fun k hk => hk)
  | _ => exact iteF hq
/-! ### BadRule.__init__ -/
theorem ok_BadRule___init__ (T : Txt K mg) : FnOk P w K mg base CX0 1 T.a_BadRule___init__ T.d_BadRule___init__ ["self", "part"] (spIni T.c_BadRule "part") := by
  refine T.F_BadRule___init__.ok sc_BadRule___init__ (fun vs H Q E h => ?len) (fun cdv A outer s H vs Q E hr h => ?body)
  case len => obtain ⟨_, _, rfl, _⟩ := h; rfl
  case body =>
    refine ⟨_, (pss_one (ps_ost (pv 0) (pv 1))), ?_⟩
    exact ini_reading T.E_BadRule.oe T.no_BadRule h (fun a x e P p => by subst e; exact ⟨_, rfl, p⟩) (fun a x e P p => by subst e; exact ⟨_, rfl, p⟩)
/-! ### BadCounts.__init__ -/
theorem ok_BadCounts___init__ (T : Txt K mg) : FnOk P w K mg base CX0 1 T.a_BadCounts___init__ T.d_BadCounts___init__ ["self", "part"] (spIni T.c_BadCounts "part") := by
  refine T.F_BadCounts___init__.ok sc_BadCounts___init__ (fun vs H Q E h => ?len) (fun cdv A outer s H vs Q E hr h => ?body)
  case len => obtain ⟨_, _, rfl, _⟩ := h; rfl
  case body =>
    refine ⟨_, (pss_one (ps_ost (pv 0) (pv 1))), ?_⟩
    exact ini_reading T.E_BadCounts.oe T.no_BadCounts h (fun a x e P p => by subst e; exact ⟨_, rfl, p⟩) (fun a x e P p => by subst e; exact ⟨_, rfl, p⟩)
/-! ### BadStore.__init__ -/
theorem ok_BadStore___init__ (T : Txt K mg) : FnOk P w K mg base CX0 1 T.a_BadStore___init__ T.d_BadStore___init__ ["self", "part"] (spIni T.c_BadStore "part") := by
  refine T.F_BadStore___init__.ok sc_BadStore___init__ (fun vs H Q E h => ?len) (fun cdv A outer s H vs Q E hr h => ?body)
  case len => obtain ⟨_, _, rfl, _⟩ := h; rfl
  case body =>
    refine ⟨_, (pss_one (ps_ost (pv 0) (pv 1))), ?_⟩
    exact ini_reading T.E_BadStore.oe T.no_BadStore h (fun a x e P p => by subst e; exact ⟨_, rfl, p⟩) (fun a x e P p => by subst e; exact ⟨_, rfl, p⟩)
/-! ### TooMany.__init__ -/
theorem ok_TooMany___init__ (T : Txt K mg) : FnOk P w K mg base CX0 1 T.a_TooMany___init__ T.d_TooMany___init__ ["self", "what", "most"] (E.spIni2 T.c_TooMany "what" "most") := by
  refine T.F_TooMany___init__.ok sc_TooMany___init__ (fun vs H Q E h => ?len) (fun cdv A outer s H vs Q E hr h => ?body)
  case len => obtain ⟨_, _, _, rfl, _⟩ := h; rfl
  case body =>
    refine ⟨_, (pss_cons (ps_ost (pv 0) (pv 1)) (pss_one (ps_ost (pv 0) (pv 2)))), ?_⟩
    exact _root_.E.ini2_reading T.E_TooMany.oe T.no_TooMany T.no2_TooMany h (fun _ _ _ => rfl)
/-! ### BadText.__init__ -/
theorem ok_BadText___init__ (T : Txt K mg) : FnOk P w K mg base CX0 1 T.a_BadText___init__ T.d_BadText___init__ ["self", "line", "item"] (E.spIni2 T.c_BadText "line" "item") := by
  refine T.F_BadText___init__.ok sc_BadText___init__ (fun vs H Q E h => ?len) (fun cdv A outer s H vs Q E hr h => ?body)
  case len => obtain ⟨_, _, _, rfl, _⟩ := h; rfl
  case body =>
    refine ⟨_, (pss_cons (ps_ost (pv 0) (pv 1)) (pss_one (ps_ost (pv 0) (pv 2)))), ?_⟩
    exact _root_.E.ini2_reading T.E_BadText.oe T.no_BadText T.no2_BadText h (fun _ _ _ => rfl)
/-! ### is_counts -/
def T_is_counts : Tp := fun ds q _ => match ds with
  | [d] => goodD d ∧ q (.bl (isCt d))
  | _ => False
theorem ok_is_counts (T : Txt K mg) : FnOk P w K mg base CX0 3 T.a_is_counts T.d_is_counts ["value"] (spT K T_is_counts) := by
  have G_is_numbers := ok_is_numbers (P := P) (w := w) (base := base) T
  have hlen : ∀ ds q x, T_is_counts ds q x → ds.length = 1 := fun ds q x h => by unfold T_is_counts at h; split at h <;> first | rfl | exact h.elim
  refine T.F_is_counts.ok sc_is_counts (fun vs H Q E h => spT_len h hlen) (fun cdv A outer s H vs Q E hr h => ?body)
  refine ⟨_, (pss_one (ps_ret (pe_and (pe_call G_is_numbers (hr.mono (by decide)) (by rfl) T.g_is_numbers T.F_is_numbers.kp T.b_is_numbers .nil pass0 (pa_cons (pv 0) pa_nil)) (pe_one (pe_or (pe_cmpR (op_eqD hr.units) (pe_callB call_lenA (by rfl) T.n_len (by decide +kernel) (pa_cons (pv 0) pa_nil)) pe_int (nomark _)) (pe_one (pe_cmpR (op_neD hr.units) (pe_ix ix_seq (pv 0) (pe_un un_neg pe_int) (fun _ _ => rfl)) pe_int (nomark _)))))))), ?_⟩
  try dsimp only [cxOf, Cx.nox, Cx.wish, Cx.blk]
  refine def_T0 (K := K) (T := T_is_counts) (sb_ret (sn_andV (sn_call0 (sa_cons sn_var sa_nil)) (sn_orV (sn_op sr_eq (sn_cb sc_len (sa_cons sn_var sa_nil)) sn_int) (sn_op sr_ne (sn_op sr_ix sn_var (sn_un su_neg sn_int)) sn_int)))) h (fun ds q x h => by have h2 := hlen ds q x h; exact Nat.le_trans (show ds.length ≤ 1 by omega) (by decide)) (fun ds q x h => ?_)
  have hl0 := hlen _ _ _ h
  match ds, hl0, h with
  | [d0], _, h => ?_
  refine to_ss (b := [.val d0]) rfl ?_
  obtain ⟨hg, hq⟩ := h
  cases e : nums d0 with
  | none =>
    walk_at "wp"
    refine ⟨hg, ?_⟩
    unfold isCt at hq
    rw [e] at hq ⊢
    exact iteF hq
  | some ns =>
    rw [isCt_of e, DL.ct_iff] at hq
    rcases nums_cases e with rfl | rfl
    all_goals
      walk_at "wp"
      refine ⟨hg, ?_⟩
      rw [e]
      refine iteT ?_
      refine on_some eqD_int ?_
      rw [List.length_map]
      refine iteB (fun hb => ?_) fun hb => ?_
      · rw [hb] at hq; exact hq
      · rw [hb, Bool.false_or] at hq
        exact on_some (atD_lastI (fun z => by subst z; simp at hb)) (on_some eqD_int hq)
/-! ### _check_counts -/
def T__check_counts (B : Addr) : Tp := fun ds q x => match ds with
  | [d, n] => goodD d ∧ (isCt d = true → q .non) ∧ (isCt d = false → x ⟨B, [("part", n)]⟩)
  | _ => False
theorem ok__check_counts (T : Txt K mg) : FnOk P w K mg base (L2.CX P w) 4 T.a__check_counts T.d__check_counts ["value", "name"] (spT K (T__check_counts T.c_BadCounts)) := by
  have G_is_counts := ok_is_counts (P := P) (w := w) (base := base) T
  have G_BadCounts___init__ := ok_BadCounts___init__ (P := P) (w := w) (base := base) T
  have hlen : ∀ ds q x, (T__check_counts T.c_BadCounts) ds q x → ds.length = 2 := fun ds q x h => by unfold T__check_counts at h; split at h <;> first | rfl | exact h.elim
  refine T.F__check_counts.okX sc__check_counts (fun vs H Q E h => spT_len h hlen) (fun cdv A outer s H vs Q E hr h => ?body)
  refine ⟨_, (pss_one (ps_if (pt_not (pt_val (pe_call G_is_counts (hr.mono (by decide)) (by rfl) T.g_is_counts T.F_is_counts.kp T.b_is_counts .nil pass0 (pa_cons (pv 0) pa_nil))))
      (pss_one (ps_raise rfl (takes_of rfl rfl rfl rfl) (pmk_oex T.E_BadCounts.oe T.i_BadCounts T.ti_BadCounts G_BadCounts___init__ (hr.mono (by decide)) T.b_BadCounts___init__ .nil pass0 (by rfl) T.gC_BadCounts (pa_cons (pv 1) pa_nil))))
      pss_nil)), ?_⟩
  try dsimp only [cxOf, Cx.nox, Cx.wish, Cx.blk]
  refine def_T (K := K) (T := (T__check_counts T.c_BadCounts)) (sb_if (st_not (st_B (sn_call0 (sa_cons sn_var sa_nil))))
      (sb_raise sn_var)
      sb_next) h (fun ds q x h => by have h2 := hlen ds q x h; exact Nat.le_trans (show ds.length ≤ 2 by omega) (by decide)) (fun ds q x h => ?_)
  have hl0 := hlen _ _ _ h
  match ds, hl0, h with
  | [d0, d1], _, h => ?_
  refine to_ss (b := [.val d0, .val d1]) rfl ?_
  obtain ⟨hg, h1, h2⟩ := h
  walk_at "wp"
  refine ⟨hg, ?_⟩
  cases e : isCt d0 with
  | true => exact iteF (h1 e)
  | false => exact iteT (h2 e)
/-! ### _without_end -/
def T__without_end : Tp := fun ds q _ => match ds with
  | [d] => ∃ ns, nums d = some ns ∧ ns.length ≤ 30000 ∧ q (tI (Po.trim ns))
  | _ => False
theorem ok__without_end (T : Txt K mg) : FnOk P w K mg base CX0 1 T.a__without_end T.d__without_end ["row"] (spT K T__without_end) := by
  have hlen : ∀ ds q x, T__without_end ds q x → ds.length = 1 := fun ds q x h => by unfold T__without_end at h; split at h <;> first | rfl | exact h.elim
  refine T.F__without_end.ok sc__without_end (fun vs H Q E h => spT_len h hlen) (fun cdv A outer s H vs Q E hr h => ?body)
  refine ⟨_, (pss_cons (ps_set (i := 1) sc__without_end.nd rfl (.inl rfl) (pe_callB call_lenA (by rfl) T.n_len (by decide +kernel) (pa_cons (pv 0) pa_nil)))
      (pss_cons (ps_while PassesOwn.never (PW.pt (pw_and (pt_cmpR op_gtA (pv 1) pe_int (nomark _)) (pw_and1 (pt_cmpR (op_eqD hr.units) (pe_ix ix_seq (pv 0) (pe_op op_subA (pv 1) pe_int) (fun _ _ => rfl)) pe_int (nomark _)))))
      (pss_one (ps_aug (i := 1) sc__without_end.nd rfl (.inl rfl) pe_int ip_sub)))
      (pss_one (ps_ret (pe_callTy call_tupleA (by rfl) T.n_tuple (by decide +kernel) (pa_cons (pe_slice sl_anyA (pv 0) po_none (po_some (pv 1))) pa_nil)))))), ?_⟩
  try dsimp only [cxOf, Cx.nox, Cx.wish, Cx.blk]
  refine def_T0 (K := K) (T := T__without_end) (sb_seq (sb_asg (vs := [1]) (sn_cb sc_len (sa_cons sn_var sa_nil)) (sg_name (by decide)))
      (sb_seq (sb_while (st_and (st_test (sn_op sr_gt sn_var sn_int)) (st_test (sn_op sr_eq (sn_op sr_ix sn_var (sn_op sr_sub sn_var sn_int)) sn_int)))
      (sb_augN sn_int))
      (sb_ret (sn_cb sc_tuple (sa_cons (sn_sl ss_cut sn_var so_none (so_some sn_var)) sa_nil))))) h (fun ds q x h => by have h2 := hlen ds q x h; exact Nat.le_trans (show ds.length ≤ 1 by omega) (by decide)) (fun ds q x h => ?_)
  have hl0 := hlen _ _ _ h
  match ds, hl0, h with
  | [d0], _, h => ?_
  refine to_ss (b := [.val d0, .no]) rfl ?_
  obtain ⟨ns, hn, hl, hq⟩ := h
  rcases nums_cases hn with rfl | rfl
  all_goals
    walk_at "wp"
    rw [List.length_map]
    refine ⟨fun m ss _ => ss = [_, .val (.int (m : Nat))] ∧ m ≤ ns.length ∧ ∀ k, m ≤ k → Po.co ns k = 0, ⟨ns.length, rfl, Nat.le_refl _, fun k hk => Po.co_ge hk⟩, fun m ss t hI => ?_⟩
    obtain ⟨rfl, hm, hz⟩ := hI
    walk_at "wp"
    have stop : (m = 0 ∨ Po.co ns (m - 1) ≠ 0) → q (.tup (cutE (ns.map .int) none (some (m : Int)))) := fun hc => by
      rw [cut_takeE hm, ← Po.trim_take hz hc]
      exact hq
    refine iteB (fun hb => ?_) fun hb => iteF (stop (.inl (by have := of_decide_eq_false hb; omega)))
    have h0 : 0 < m := by have := of_decide_eq_true hb; omega
    refine on_some (atD_pred hm h0) (on_some eqD_int (iteB (fun hb => ?_) fun hb => stop (.inr (of_decide_eq_false hb))))
    refine ⟨m - 1, by omega, ?_, by omega, fun k hk => ?_⟩
    · have em : (m : Int) - 1 = ((m - 1 : Nat) : Int) := by omega
      rw [em]
    · by_cases e : m - 1 = k
      · rw [← e]; exact of_decide_eq_true hb
      · exact hz k (by omega)
/-! ### _added -/
def T__added : Tp := fun ds q _ => match ds with
  | [d, e, f] => ∃ a b g, nums d = some a ∧ nums e = some b ∧ f = .int g ∧ a.length ≤ 10000 ∧ b.length ≤ 10000 ∧ (∀ k, CMulA g (Po.co b k)) ∧ q (tI (Po.addC a b g))
  | _ => False
theorem ok__added (T : Txt K mg) : FnOk P w K mg base CX0 2 T.a__added T.d__added ["one", "other", "factor"] (spT K T__added) := by
  have G__without_end := ok__without_end (P := P) (w := w) (base := base) T
  have hlen : ∀ ds q x, T__added ds q x → ds.length = 3 := fun ds q x h => by unfold T__added at h; split at h <;> first | rfl | exact h.elim
  refine T.F__added.ok sc__added (fun vs H Q E h => spT_len h hlen) (fun cdv A outer s H vs Q E hr h => ?body)
  refine ⟨_, (pss_cons (ps_set (i := 3) sc__added.nd rfl (.inl rfl) (pe_op op_addA (pe_callTy call_listA (by rfl) T.n_list (by decide +kernel) (pa_cons (pv 0) pa_nil)) (pe_op op_mulAll (pe_lst (pa_cons pe_int pa_nil)) (pe_op op_subA (pe_callB call_lenA (by rfl) T.n_len (by decide +kernel) (pa_cons (pv 1) pa_nil)) (pe_callB call_lenA (by rfl) T.n_len (by decide +kernel) (pa_cons (pv 0) pa_nil))))))
      (pss_cons (ps_for PassesOwn.never rfl (pi_enumM (by rfl) T.n_enumerate (pa_cons (pv 1) pa_nil)) (pg_tup rfl (pgs_cons (pg_name (i := 4) sc__added.nd rfl (.inl rfl)) (pgs_cons (pg_name (i := 5) sc__added.nd rfl (.inl rfl)) pgs_nil)))
      (pss_one (ps_augS (pv 3) (pv 4) get_list (pe_op op_mulAll (pv 2) (pv 5)) ip_add set_list)))
      (pss_one (ps_ret (pe_call G__without_end (hr.mono (by decide)) (by rfl) T.g__without_end T.F__without_end.kp T.b__without_end .nil pass0 (pa_cons (pv 3) pa_nil)))))), ?_⟩
  try dsimp only [cxOf, Cx.nox, Cx.wish, Cx.blk]
  refine def_T0 (K := K) (T := T__added) (sb_seq (sb_own (nn_op sr_addN (sn_cb sc_list (sa_cons sn_var sa_nil)) (sn_new (nn_rep (nn_lst (sa_cons sn_int sa_nil)) (sn_op sr_sub (sn_cb sc_len (sa_cons sn_var sa_nil)) (sn_cb sc_len (sa_cons sn_var sa_nil)))))))
      (sb_seq (sb_for (vs := [4, 5]) (si_enum (sa_cons sn_var sa_nil)) (sg_tup (sgs_cons (sg_name (by decide)) (sgs_cons (sg_name (by decide)) sgs_nil)))
      (sb_augSZ sn_var (sn_op sr_mul sn_var sn_var)))
      (sb_retZ (sn_call0 (sa_cons sn_var sa_nil))))) h (fun ds q x h => by have h2 := hlen ds q x h; exact Nat.le_trans (show ds.length ≤ 3 by omega) (by decide)) (fun ds q x h => ?_)
  have hl0 := hlen _ _ _ h
  match ds, hl0, h with
  | [d0, d1, d2], _, h => ?_
  refine to_ss (b := [.val d0, .val d1, .val d2, .no, .no, .no]) rfl ?_
  obtain ⟨a, b, g, ha, hb, rfl, la, lb, hm, hq⟩ := h
  rcases nums_cases ha with rfl | rfl
  all_goals
    rcases nums_cases hb with rfl | rfl
    all_goals
      walk_at "wp"
      refine ⟨Nat.le_of_ble_eq_true rfl, ⟨by simp only [List.length_map]; omega, by simp only [List.length_map]; omega, by simp only [List.length_map]; omega⟩, by simp only [List.length_map, rep_one, List.length_replicate]; omega, ?_⟩
      rw [rep_one, show List.map Dt.int a ++ List.replicate ((List.map Dt.int b).length - (List.map Dt.int a).length : Int).toNat (Dt.int 0) = (a ++ List.replicate (b.length - a.length : Int).toNat 0).map .int by simp]
      refine ⟨fun i ss _ => ∃ x1 x2 row, ss = [_, _, .val (.int g), .own (row.map .int), x1, x2] ∧ row.length = max a.length b.length ∧ ∀ k, Po.co row k = Po.co a k + if k < i then g * Po.co b k else 0, ⟨_, _, _, rfl, by rw [List.length_append, List.length_replicate]; omega, fun k => ?_⟩, fun i d ss t hd hI => ?_, fun ss t hI => ?_⟩
      · rw [if_neg (Nat.not_lt_zero _), Po.co_app]
        split
        · omega
        · rw [Po.co_rep, Po.co_ge (a := a) (by omega)]; rfl
      · obtain ⟨x1, x2, row, rfl, lr, hr⟩ := hI
        obtain ⟨hi, rfl⟩ := enum_intsE hd
        walk_at "wp"
        refine ⟨rfl, i, Po.co row i, rfl, by rw [List.getElem?_map, Po.co_at (by omega)]; rfl, hm i, _, _, row.set i (Po.co row i + g * Po.co b i), by rw [List.map_set], by rw [List.length_set]; exact lr, fun k => ?_⟩
        rw [Po.co_set (by omega), hr k]
        by_cases e : i = k
        · subst e
          rw [if_pos rfl, if_pos (by omega), hr i, if_neg (by omega)]
          omega
        · rw [if_neg e]
          by_cases h1 : k < i
          · rw [if_pos h1, if_pos (by omega)]
          · rw [if_neg h1, if_neg (by omega)]
      · obtain ⟨x1, x2, row, rfl, lr, hr⟩ := hI
        walk_at "wp"
        refine ⟨row, nums_l, by omega, ?_⟩
        rw [show Po.trim row = Po.addC a b g from ?_]
        · exact ⟨nl_tI, hq⟩
        rw [show Po.addC a b g = Po.trim (Po.addC a b g) from (Po.ct_addC).symm]
        refine Po.trim_eq fun k => ?_
        rw [Po.co_addC, hr k, enumE_len, List.length_map]
        split
        · rfl
        · rw [Po.co_ge (a := b) (by omega), Int.mul_zero]
/-! ### less -/
def T_less (B : Addr) : Tp := fun ds q x => match ds with
  | [d, e] => chk2 B "one" "other" d e x fun a b => a.length ≤ 10000 ∧ b.length ≤ 10000 ∧ q (tI (Po.addC a b (-1)))
  | _ => False
theorem less_ok {B : Addr} {d e : Dt} {q : Dt → Prop} {x : Xn → Prop} {a b : List Int} (ha : nums d = some a) (hb : nums e = some b) (ca : Po.Ct a) (cb : Po.Ct b) (la : a.length ≤ 10000) (lb : b.length ≤ 10000) (hq : q (tI (Po.addC a b (-1)))) : T_less B [d, e] q x :=
  chk2_ok (k := fun a b => a.length ≤ 10000 ∧ b.length ≤ 10000 ∧ q (tI (Po.addC a b (-1)))) ha hb ca cb (by omega) (by omega) ⟨la, lb, hq⟩
theorem less_no1 {B : Addr} {d e : Dt} {q : Dt → Prop} {x : Xn → Prop} (hg : goodD d) (hc : isCt d = false) (h : x ⟨B, [("part", .str "one")]⟩) : T_less B [d, e] q x :=
  chk2_1 (k := fun a b => a.length ≤ 10000 ∧ b.length ≤ 10000 ∧ q (tI (Po.addC a b (-1)))) hg hc h
theorem less_no2 {B : Addr} {d e : Dt} {q : Dt → Prop} {x : Xn → Prop} {a : List Int} (ha : nums d = some a) (ca : Po.Ct a) (la : a.length ≤ 100000) (hg : goodD e) (hc : isCt e = false) (h : x ⟨B, [("part", .str "other")]⟩) : T_less B [d, e] q x :=
  chk2_2 (k := fun a b => a.length ≤ 10000 ∧ b.length ≤ 10000 ∧ q (tI (Po.addC a b (-1)))) ha ca la hg hc h
theorem ok_less (T : Txt K mg) : FnOk P w K mg base (L2.CX P w) 5 T.a_less T.d_less ["one", "other"] (spT K (T_less T.c_BadCounts)) := by
  have G__check_counts := ok__check_counts (P := P) (w := w) (base := base) T
  have G__added := ok__added (P := P) (w := w) (base := base) T
  have hlen : ∀ ds q x, (T_less T.c_BadCounts) ds q x → ds.length = 2 := fun ds q x h => by unfold T_less at h; split at h <;> first | rfl | exact h.elim
  refine T.F_less.okX sc_less (fun vs H Q E h => spT_len h hlen) (fun cdv A outer s H vs Q E hr h => ?body)
  refine ⟨_, (pss_cons (ps_expr (pe_call G__check_counts (hr.mono (by decide)) (by rfl) T.g__check_counts T.F__check_counts.kp T.b__check_counts .nil (passes_call (takes_of rfl rfl rfl rfl) fun _ _ _ _ z => z) (pa_cons (pv 0) (pa_cons pe_str pa_nil))))
      (pss_cons (ps_expr (pe_call G__check_counts (hr.mono (by decide)) (by rfl) T.g__check_counts T.F__check_counts.kp T.b__check_counts .nil (passes_call (takes_of rfl rfl rfl rfl) fun _ _ _ _ z => z) (pa_cons (pv 1) (pa_cons pe_str pa_nil))))
      (PSs.nox (pss_one (ps_ret (pe_call G__added (hr.mono (by decide)) (by rfl) T.g__added T.F__added.kp T.b__added .nil pass0 (pa_cons (pv 0) (pa_cons (pv 1) (pa_cons (pe_un un_neg pe_int) pa_nil))))))))), ?_⟩
  try dsimp only [cxOf, Cx.nox, Cx.wish, Cx.blk]
  refine def_T (K := K) (T := (T_less T.c_BadCounts)) (sb_seq (sb_drop (sn_call (sa_cons sn_var (sa_cons sn_str sa_nil))))
      (sb_seq (sb_drop (sn_call (sa_cons sn_var (sa_cons sn_str sa_nil))))
      (sb_ret (sn_call0 (sa_cons sn_var (sa_cons sn_var (sa_cons (sn_un su_neg sn_int) sa_nil))))))) h (fun ds q x h => by have h2 := hlen ds q x h; exact Nat.le_trans (show ds.length ≤ 2 by omega) (by decide)) (fun ds q x h => ?_)
  have hl0 := hlen _ _ _ h
  match ds, hl0, h with
  | [d0, d1], _, h => ?_
  refine to_ss (b := [.val d0, .val d1]) rfl ?_
  obtain ⟨hg, h1, hg2, h2, h3⟩ := h
  walk_at "wp"
  refine ⟨hg, fun c1 => ⟨hg2 c1, fun c2 => ?_, fun c2 => h2 c1 c2⟩, h1⟩
  obtain ⟨a, ha, ca⟩ := isCt_some c1
  obtain ⟨b, hb, cb⟩ := isCt_some c2
  obtain ⟨la, lb, hq⟩ := h3 a b ha hb ca cb
  exact ⟨a, b, _, ha, hb, rfl, la, lb, fun k => .inl (.inl (by decide)), hq⟩
/-! ### times -/
def T_times (B : Addr) : Tp := fun ds q x => match ds with
  | [d, e] => chk2 B "one" "other" d e x fun a b => a.length ≤ 10000 ∧ b.length ≤ 10000 ∧ (∀ i j, CMulA (Po.co a i) (Po.co b j)) ∧ q (tI (Po.mulC a b))
  | _ => False
theorem times_ok {B : Addr} {d e : Dt} {q : Dt → Prop} {x : Xn → Prop} {a b : List Int} (ha : nums d = some a) (hb : nums e = some b) (ca : Po.Ct a) (cb : Po.Ct b) (la : a.length ≤ 10000) (lb : b.length ≤ 10000) (hm : ∀ i j, CMulA (Po.co a i) (Po.co b j)) (hq : q (tI (Po.mulC a b))) : T_times B [d, e] q x :=
  chk2_ok (k := fun a b => a.length ≤ 10000 ∧ b.length ≤ 10000 ∧ (∀ i j, CMulA (Po.co a i) (Po.co b j)) ∧ q (tI (Po.mulC a b))) ha hb ca cb (by omega) (by omega) ⟨la, lb, hm, hq⟩
theorem times_no1 {B : Addr} {d e : Dt} {q : Dt → Prop} {x : Xn → Prop} (hg : goodD d) (hc : isCt d = false) (h : x ⟨B, [("part", .str "one")]⟩) : T_times B [d, e] q x :=
  chk2_1 (k := fun a b => a.length ≤ 10000 ∧ b.length ≤ 10000 ∧ (∀ i j, CMulA (Po.co a i) (Po.co b j)) ∧ q (tI (Po.mulC a b))) hg hc h
theorem times_no2 {B : Addr} {d e : Dt} {q : Dt → Prop} {x : Xn → Prop} {a : List Int} (ha : nums d = some a) (ca : Po.Ct a) (la : a.length ≤ 100000) (hg : goodD e) (hc : isCt e = false) (h : x ⟨B, [("part", .str "other")]⟩) : T_times B [d, e] q x :=
  chk2_2 (k := fun a b => a.length ≤ 10000 ∧ b.length ≤ 10000 ∧ (∀ i j, CMulA (Po.co a i) (Po.co b j)) ∧ q (tI (Po.mulC a b))) ha ca la hg hc h
theorem ok_times (T : Txt K mg) : FnOk P w K mg base (L2.CX P w) 5 T.a_times T.d_times ["one", "other"] (spT K (T_times T.c_BadCounts)) := by
  have G__check_counts := ok__check_counts (P := P) (w := w) (base := base) T
  have G__without_end := ok__without_end (P := P) (w := w) (base := base) T
  have hlen : ∀ ds q x, (T_times T.c_BadCounts) ds q x → ds.length = 2 := fun ds q x h => by unfold T_times at h; split at h <;> first | rfl | exact h.elim
  refine T.F_times.okX sc_times (fun vs H Q E h => spT_len h hlen) (fun cdv A outer s H vs Q E hr h => ?body)
  refine ⟨_, (pss_cons (ps_expr (pe_call G__check_counts (hr.mono (by decide)) (by rfl) T.g__check_counts T.F__check_counts.kp T.b__check_counts .nil (passes_call (takes_of rfl rfl rfl rfl) fun _ _ _ _ z => z) (pa_cons (pv 0) (pa_cons pe_str pa_nil))))
      (pss_cons (ps_expr (pe_call G__check_counts (hr.mono (by decide)) (by rfl) T.g__check_counts T.F__check_counts.kp T.b__check_counts .nil (passes_call (takes_of rfl rfl rfl rfl) fun _ _ _ _ z => z) (pa_cons (pv 1) (pa_cons pe_str pa_nil))))
      (PSs.nox (pss_cons (ps_set (i := 2) sc_times.nd rfl (.inl rfl) (pe_op op_mulAll (pe_lst (pa_cons pe_int pa_nil)) (pe_op op_addA (pe_callB call_lenA (by rfl) T.n_len (by decide +kernel) (pa_cons (pv 0) pa_nil)) (pe_callB call_lenA (by rfl) T.n_len (by decide +kernel) (pa_cons (pv 1) pa_nil)))))
      (pss_cons (ps_for PassesOwn.never rfl (pi_enumM (by rfl) T.n_enumerate (pa_cons (pv 0) pa_nil)) (pg_tup rfl (pgs_cons (pg_name (i := 3) sc_times.nd rfl (.inl rfl)) (pgs_cons (pg_name (i := 4) sc_times.nd rfl (.inl rfl)) pgs_nil)))
      (pss_one (ps_for PassesOwn.never rfl (pi_enumM (by rfl) T.n_enumerate (pa_cons (pv 1) pa_nil)) (pg_tup rfl (pgs_cons (pg_name (i := 5) sc_times.nd rfl (.inl rfl)) (pgs_cons (pg_name (i := 6) sc_times.nd rfl (.inl rfl)) pgs_nil)))
      (pss_one (ps_augS (pv 2) (pe_op op_addA (pv 3) (pv 5)) get_list (pe_op op_mulAll (pv 4) (pv 6)) ip_add set_list)))))
      (pss_one (ps_ret (pe_call G__without_end (hr.mono (by decide)) (by rfl) T.g__without_end T.F__without_end.kp T.b__without_end .nil pass0 (pa_cons (pv 2) pa_nil))))))))), ?_⟩
  try dsimp only [cxOf, Cx.nox, Cx.wish, Cx.blk]
  refine def_T (K := K) (T := (T_times T.c_BadCounts)) (sb_seq (sb_drop (sn_call (sa_cons sn_var (sa_cons sn_str sa_nil))))
      (sb_seq (sb_drop (sn_call (sa_cons sn_var (sa_cons sn_str sa_nil))))
      (sb_seq (sb_own (nn_rep (nn_lst (sa_cons sn_int sa_nil)) (sn_op sr_add (sn_cb sc_len (sa_cons sn_var sa_nil)) (sn_cb sc_len (sa_cons sn_var sa_nil)))))
      (sb_seq (sb_for (vs := [3, 4]) (si_enum (sa_cons sn_var sa_nil)) (sg_tup (sgs_cons (sg_name (by decide)) (sgs_cons (sg_name (by decide)) sgs_nil)))
      (sb_for (vs := [5, 6]) (si_enum (sa_cons sn_var sa_nil)) (sg_tup (sgs_cons (sg_name (by decide)) (sgs_cons (sg_name (by decide)) sgs_nil)))
      (sb_augSZ (sn_op sr_add sn_var sn_var) (sn_op sr_mul sn_var sn_var))))
      (sb_retZ (sn_call0 (sa_cons sn_var sa_nil))))))) h (fun ds q x h => by have h2 := hlen ds q x h; exact Nat.le_trans (show ds.length ≤ 2 by omega) (by decide)) (fun ds q x h => ?_)
  have hl0 := hlen _ _ _ h
  match ds, hl0, h with
  | [d0, d1], _, h => ?_
  refine to_ss (b := [.val d0, .val d1, .no, .no, .no, .no, .no]) rfl ?_
  obtain ⟨hg, h1, hg2, h2, h3⟩ := h
  walk_at "wp"
  refine ⟨hg, fun c1 => ⟨hg2 c1, fun c2 => ?_, fun c2 => h2 c1 c2⟩, h1⟩
  obtain ⟨a, ha, ca⟩ := isCt_some c1
  obtain ⟨b, hb, cb⟩ := isCt_some c2
  obtain ⟨la, lb, hm, hq⟩ := h3 a b ha hb ca cb
  rcases nums_cases ha with rfl | rfl
  all_goals
    rcases nums_cases hb with rfl | rfl
    all_goals
      walk_at "wp"
      refine ⟨Nat.le_of_ble_eq_true rfl, ⟨by simp only [List.length_map]; omega, by simp only [List.length_map]; omega, by simp only [List.length_map]; omega⟩, ?_⟩
      rw [rep_one, show List.replicate (((a.map Dt.int).length : Int) + ((b.map Dt.int).length : Int)).toNat (Dt.int 0) = (List.replicate (a.length + b.length) 0).map .int by simp; rfl]
      refine ⟨fun i ss _ => ∃ x1 x2 x3 x4 row, ss = [_, _, .own (row.map .int), x1, x2, x3, x4] ∧ row.length = a.length + b.length ∧ ∀ k, Po.co row k = Po.cv i (Po.co a) (Po.co b) k, ⟨_, _, _, _, _, rfl, by rw [List.length_replicate], fun k => by rw [Po.co_rep]; rfl⟩, fun i d ss t hd hI => ?_, fun ss t hI => ?_⟩
      · obtain ⟨x1, x2, x3, x4, row, rfl, lr, hr⟩ := hI
        obtain ⟨hi, rfl⟩ := enum_intsE hd
        walk_at "wp"
        refine ⟨rfl, fun j ss _ => ∃ x3 x4 row, ss = [_, _, .own (row.map .int), .val (.int (i : Nat)), .val (.int (Po.co a i)), x3, x4] ∧ row.length = a.length + b.length ∧ ∀ k, Po.co row k = Po.cv i (Po.co a) (Po.co b) k + if i ≤ k ∧ k - i < j then Po.co a i * Po.co b (k - i) else 0, ⟨_, _, row, rfl, lr, fun k => by rw [if_neg (by omega), hr k]; omega⟩, fun j d ss t hd hI => ?_, fun ss t hI => ?_⟩
        · obtain ⟨x3, x4, row, rfl, lr, hr⟩ := hI
          obtain ⟨hj, rfl⟩ := enum_intsE hd
          walk_at "wp"
          refine ⟨rfl, i + j, Po.co row (i + j), by rw [Int.natCast_add], by rw [List.getElem?_map, Po.co_at (by omega)]; rfl, hm i j, _, _, row.set (i + j) (Po.co row (i + j) + Po.co a i * Po.co b j), by rw [List.map_set], by rw [List.length_set]; exact lr, fun k => ?_⟩
          rw [Po.co_set (by omega), hr k, hr (i + j)]
          by_cases e : i + j = k
          · subst e
            rw [if_pos rfl, show i + j - i = j by omega, if_neg (by omega), if_pos (by omega)]
            omega
          · rw [if_neg e]
            by_cases h1 : i ≤ k ∧ k - i < j
            · rw [if_pos h1, if_pos (by omega)]
            · rw [if_neg h1, if_neg (by omega)]
        · obtain ⟨x3, x4, row, rfl, lr, hr⟩ := hI
          refine ⟨_, _, _, _, row, rfl, lr, fun k => ?_⟩
          rw [hr k]
          show _ = Po.cv i (Po.co a) (Po.co b) k + (if i ≤ k then Po.co a i * Po.co b (k - i) else 0)
          by_cases h1 : i ≤ k
          · rw [if_pos h1]
            split
            · rfl
            · rename_i h2
              rw [Po.co_ge (a := b) (by rw [enumE_len, List.length_map] at h2; omega), Int.mul_zero]
          · rw [if_neg h1, if_neg (by omega)]
      · obtain ⟨x1, x2, x3, x4, row, rfl, lr, hr⟩ := hI
        walk_at "wp"
        refine ⟨row, nums_l, by omega, ?_⟩
        rw [show Po.trim row = Po.mulC a b from ?_]
        · exact ⟨nl_tI, hq⟩
        rw [show Po.mulC a b = Po.trim (Po.mulC a b) from (Po.ct_mulC).symm]
        refine Po.trim_eq fun k => ?_
        rw [Po.co_mulC, hr k, enumE_len, List.length_map]
/-! ### items_of -/
def T_items_of (B : Addr) : Tp := fun ds q x => match ds with
  | [.str z] => z.length ≤ 16000000 ∧ q (.lst ((Txt.split z Tx.blank).map .str))
  | [d] => (plainD d = true ∧ isTy d "str" = false) ∧ x ⟨B, [("item", .int 0), ("line", .int 0)]⟩
  | _ => False
theorem ok_items_of (T : Txt K mg) : FnOk P w K mg base (L2.CX P w) 3 T.a_items_of T.d_items_of ["text"] (spT K (T_items_of T.c_BadText)) := by
  have G_BadText___init__ := ok_BadText___init__ (P := P) (w := w) (base := base) T
  have hlen : ∀ ds q x, (T_items_of T.c_BadText) ds q x → ds.length = 1 := fun ds q x h => by unfold T_items_of at h; split at h <;> first | rfl | exact h.elim
  refine T.F_items_of.okX sc_items_of (fun vs H Q E h => spT_len h hlen) (fun cdv A outer s H vs Q E hr h => ?body)
  refine ⟨_, (pss_cons (ps_if (pt_not (pt_val (pe_callB call_isiE (by rfl) T.n_isinstance (by decide +kernel) (pa_cons (pv 0) (pa_cons (pe_bltn (v := .ty "str") (by rfl) T.n_str (by decide +kernel) rfl) pa_nil)))))
      (pss_one (ps_raise rfl (takes_of rfl rfl rfl rfl) (pmk_oex T.E_BadText.oe T.i_BadText T.ti_BadText G_BadText___init__ (hr.mono (by decide)) T.b_BadText___init__ .nil pass0 (by rfl) T.gC_BadText (pa_cons pe_int (pa_cons pe_int pa_nil)))))
      pss_nil)
      (PSs.nox (pss_one (ps_ret (_root_.E.pe_splitE (pv 0) pe_str))))), ?_⟩
  try dsimp only [cxOf, Cx.nox, Cx.wish, Cx.blk]
  refine def_T (K := K) (T := (T_items_of T.c_BadText)) (sb_seq (sb_if (st_not (st_B (sn_cb sc_isi (sa_cons sn_var (sa_cons sn_ty sa_nil)))))
      (sb_raise2 sn_int sn_int)
      sb_next)
      (sb_ret (sn_m1 sm_split sn_var sn_str))) h (fun ds q x h => by have h2 := hlen ds q x h; exact Nat.le_trans (show ds.length ≤ 1 by omega) (by decide)) (fun ds q x h => ?_)
  have hl0 := hlen _ _ _ h
  match ds, hl0, h with
  | [d0], _, h => ?_
  refine to_ss (b := [.val d0]) rfl ?_
  walk_at "w1"
  cases d0 with
  | str z =>
    refine isi_ty (by decide +kernel) rfl (iteF ?_)
    walk_at "wn"
    exact ⟨by decide +kernel, h.1, h.2⟩
  | _ =>
    obtain ⟨⟨h1, h2⟩, h3⟩ := h
    refine isi_ty (by decide +kernel) h1 ?_
    rw [h2]
    refine brT ?_
    walk_at "wn"
    exact h3
/-! ### number_text -/
def T_number_text : Tp := fun ds q x => match ds with
  | [.int n] => (0 ≤ n ∧ n < 10 ^ 60) ∧ q (.str (Tx.num n))
  | _ => False
theorem ok_number_text (T : Txt K mg) : FnOk P w K mg base CX0 1 T.a_number_text T.d_number_text ["number"] (spT K T_number_text) := by
  have hlen : ∀ ds q x, T_number_text ds q x → ds.length = 1 := fun ds q x h => by unfold T_number_text at h; split at h <;> first | rfl | exact h.elim
  refine T.F_number_text.ok sc_number_text (fun vs H Q E h => spT_len h hlen) (fun cdv A outer s H vs Q E hr h => ?body)
  refine ⟨_, (pss_cons (ps_set (i := 1) sc_number_text.nd rfl (.inl rfl) (pe_lst pa_nil))
      (pss_cons (ps_while PassesOwn.never (pt_cmpR op_geA (pv 0) (pe_op op_powA pe_int pe_int) (nomark _))
      (pss_cons (ps_expr (pe_bm PySem.F.plainAttrs_list PySem.F.slot_list_append PySem.F.type_list_append mt_append (pv 1) (pa_cons (_root_.E.pe_zfill (pe_callTy _root_.E.call_strI (by rfl) T.n_str (by decide +kernel) (pa_cons (pe_op op_modA (pv 0) (pe_op op_powA pe_int pe_int)) pa_nil)) pe_int) pa_nil)))
      (pss_one (ps_set (i := 0) sc_number_text.nd rfl (.inl rfl) (pe_op op_divA (pv 0) (pe_op op_powA pe_int pe_int))))))
      (pss_one (ps_ret (pe_op op_addA (pe_callTy _root_.E.call_strI (by rfl) T.n_str (by decide +kernel) (pa_cons (pv 0) pa_nil)) (_root_.E.pe_joinE (K := K) rfl pe_str (pe_revL (pv 1)))))))), ?_⟩
  try dsimp only [cxOf, Cx.nox, Cx.wish, Cx.blk]
  refine def_T0 (K := K) (T := T_number_text) (sb_seq (sb_own (nn_lst sa_nil))
      (sb_seq (sb_while (st_test (sn_op sr_ge sn_var (sn_op sr_pow sn_int sn_int)))
      (sb_seq (sb_append (sn_m1 sm_zfill (sn_cb sc_strI (sa_cons (sn_op sr_mod sn_var (sn_op sr_pow sn_int sn_int)) sa_nil)) sn_int))
      (sb_asg (vs := [0]) (sn_op sr_div sn_var (sn_op sr_pow sn_int sn_int)) (sg_name (by decide)))))
      (sb_retZ (sn_op sr_add (sn_cb sc_strI (sa_cons sn_var sa_nil)) (sn_m1 sm_join sn_str (sn_new (nn_rev sn_var))))))) h (fun ds q x h => by have h2 := hlen ds q x h; exact Nat.le_trans (show ds.length ≤ 1 by omega) (by decide)) (fun ds q x h => ?_)
  have hl0 := hlen _ _ _ h
  match ds, hl0, h with
  | [d0], _, h => ?_
  refine to_ss (b := [.val d0, .no]) rfl ?_
  cases d0 with
  | int n =>
    obtain ⟨⟨h0, h1⟩, hq⟩ := h
    walk_at "w1"
    refine ⟨Nat.le_of_ble_eq_true rfl, ?_⟩
    walk_at "wn"
    refine ⟨fun m s t => s = [.val (.int n), .own []] ∧ t = 0, ⟨0, rfl, rfl⟩, fun m s tt hI => ?_⟩
    obtain ⟨rfl, rfl⟩ := hI
    walk_at "w1"
    refine ⟨⟨by decide, by decide, by decide⟩, ?_⟩
    rw [decide_eq_false (show ¬ (10 : Int) ^ (60 : Int).toNat ≤ n from fun z => absurd h1 (Int.not_lt.mpr z))]
    refine iteF ?_
    walk_at "wn"
    refine ⟨?_, on_some (unS_map []) ⟨Nat.le_of_ble_eq_true rfl, ?_, rfl, ?_⟩⟩
    · have e : (10 : Int) ^ 60 = ((10 ^ 60 : Nat) : Int) := by decide
      rw [e] at h1
      have h2 : n.natAbs < 10 ^ 60 := by omega
      exact Nat.lt_trans h2 (by decide +kernel)
    · have h2 := Tx.num_len h0 (by decide) h1
      have h3 : (Txt.join (Str.ofString "") ([] : List Str)).length = 0 := by decide +kernel
      rw [h3]
      show (Tx.num n).length + 0 ≤ _
      omega
    · have h3 : (Str.ofString (toString n) ++ Txt.join (Str.ofString "") ([] : List Str)) = Tx.num n := TL.ext_tl (by rw [TL.tl_append, show TL.tl (Txt.join (Str.ofString "") ([] : List Str)) = [] by decide +kernel, List.append_nil]; rfl)
      rw [h3]
      exact hq
  | _ => exact h.elim
/-! ### number_in -/
--@ digits:@s
def T_number_in : Tp := fun ds q x => match ds with
  | [.str z] => z.length ≤ 60 ∧ q (if Tx.okN z = true then .int (Tx.numV z) else .non)
  | _ => False
theorem ok_number_in (T : Txt K mg) : FnOk P w K mg base CX0 1 T.a_number_in T.d_number_in ["digits"] (spT K T_number_in) := by
  have hlen : ∀ ds q x, T_number_in ds q x → ds.length = 1 := fun ds q x h => by unfold T_number_in at h; split at h <;> first | rfl | exact h.elim
  refine T.F_number_in.ok sc_number_in (fun vs H Q E h => spT_len h hlen) (fun cdv A outer s H vs Q E hr h => ?body)
  refine ⟨_, (pss_cons (ps_if (PW.pt (pw_or (pt_not (PW.pt (pw_and (pt_val (_root_.E.pe_ascii (pv 0))) (pw_and1 (pt_val (_root_.E.pe_digit (pv 0))))))) (pw_or1 (PW.pt (pw_and (pt_cmpR (op_neD hr.units) (pv 0) pe_str (nomark _)) (pw_and1 (pt_val (_root_.E.pe_starts (pv 0) pe_str))))))))
      (pss_one (ps_ret pe_non))
      pss_nil)
      (pss_cons (ps_set (i := 1) sc_number_in.nd rfl (.inl rfl) (pe_op op_modA (pe_callB call_lenA (by rfl) T.n_len (by decide +kernel) (pa_cons (pv 0) pa_nil)) pe_int))
      (pss_cons (ps_set (i := 2) sc_number_in.nd rfl (.inl rfl) (pe_callTy _root_.E.call_intT (by rfl) T.n_int (by decide +kernel) (pa_cons (pe_op op_addA pe_str (pe_slice sl_str (pv 0) po_none (po_some (pv 1)))) pa_nil)))
      (pss_cons (ps_for PassesOwn.never rfl (pi_range3 rfl T.n_range (pa_cons (pv 1) (pa_cons (pe_callB call_lenA (by rfl) T.n_len (by decide +kernel) (pa_cons (pv 0) pa_nil)) (pa_cons pe_int pa_nil)))) (pg_name (i := 3) sc_number_in.nd rfl (.inl rfl))
      (pss_one (ps_set (i := 2) sc_number_in.nd rfl (.inl rfl) (pe_op op_addA (pe_op op_mulAll (pv 2) (pe_op op_powA pe_int pe_int)) (pe_callTy _root_.E.call_intT (by rfl) T.n_int (by decide +kernel) (pa_cons (pe_slice sl_str (pv 0) (po_some (pv 3)) (po_some (pe_op op_addA (pv 3) pe_int))) pa_nil))))))
      (pss_one (ps_ret (pv 2))))))), ?_⟩
  try dsimp only [cxOf, Cx.nox, Cx.wish, Cx.blk]
  refine def_T0 (K := K) (T := T_number_in) (sb_seq (sb_if (st_or (st_not (st_and (st_B (sn_m0 sm_ascii sn_var)) (st_B (sn_m0 sm_digit sn_var)))) (st_and (st_test (sn_op sr_ne sn_var sn_str)) (st_B (sn_m1 sm_starts sn_var sn_str))))
      (sb_ret sn_non)
      sb_next)
      (sb_seq (sb_asg (vs := [1]) (sn_op sr_mod (sn_cb sc_len (sa_cons sn_var sa_nil)) sn_int) (sg_name (by decide)))
      (sb_seq (sb_asg (vs := [2]) (sn_cb sc_intT (sa_cons (sn_op sr_add sn_str (sn_sl ss_cutS sn_var so_none (so_some sn_var))) sa_nil)) (sg_name (by decide)))
      (sb_seq (sb_for (vs := [3]) (si_rng3 (sa_cons sn_var (sa_cons (sn_cb sc_len (sa_cons sn_var sa_nil)) (sa_cons sn_int sa_nil)))) (sg_name (by decide))
      (sb_asg (vs := [2]) (sn_op sr_add (sn_op sr_mul sn_var (sn_op sr_pow sn_int sn_int)) (sn_cb sc_intT (sa_cons (sn_sl ss_cutS sn_var (so_some sn_var) (so_some (sn_op sr_add sn_var sn_int))) sa_nil))) (sg_name (by decide))))
      (sb_ret sn_var))))) h (fun ds q x h => by have h2 := hlen ds q x h; exact Nat.le_trans (show ds.length ≤ 1 by omega) (by decide)) (fun ds q x h => ?_)
  have hl0 := hlen _ _ _ h
  match ds, hl0, h with
  | [d0], _, h => ?_
  refine to_ss (b := [.val d0, .no, .no, .no]) rfl ?_
  cases d0 with
  | str z =>
    obtain ⟨hl, hq⟩ := h
    walk_at "w1"
    unfold Tx.okN at hq
    cases ha : Txt.isascii z with
    | false =>
      rw [ha] at hq
      refine iteF (iteT (brT ?_))
      walk_at "wn"
      exact hq
    | true =>
      refine iteT ?_
      cases hd : Txt.isdigit z with
      | false =>
        rw [ha, hd] at hq
        refine iteT (brT ?_)
        walk_at "wn"
        exact hq
      | true =>
        refine iteF ?_
        rw [ha, hd] at hq
        obtain ⟨dg, ne⟩ := Tx.dig_of ha hd
        refine on_some (eqD_s (ok_ascii ha) (by decide +kernel)) ?_
        have split : z = Tx.zero ∨ (z ≠ Tx.zero ∧ Txt.startswith z Tx.zero = true) ∨ (z ≠ Tx.zero ∧ Txt.startswith z Tx.zero = false) := by
          by_cases e0 : z = Tx.zero
          · exact .inl e0
          · cases hs : Txt.startswith z Tx.zero with
            | true => exact .inr (.inl ⟨e0, rfl⟩)
            | false => exact .inr (.inr ⟨e0, rfl⟩)
        rcases split with e0 | ⟨e0, hs⟩ | ⟨e0, hs⟩
        case inr.inl =>
          rw [decide_eq_true e0, hs] at hq
          rw [decide_eq_false e0]
          refine iteT ?_
          rw [show Txt.startswith z (Str.ofString "0") = true from hs]
          refine brT ?_
          walk_at "wn"
          exact hq
        case' inl =>
          rw [decide_eq_false (fun z => z e0)] at hq
          rw [decide_eq_true e0]
          refine iteF ?_
        case' inr.inr =>
          rw [decide_eq_true e0, hs] at hq
          rw [decide_eq_false e0]
          refine iteT ?_
          rw [show Txt.startswith z (Str.ofString "0") = false from hs]
        all_goals
          have hq : q (.int (Tx.numV z)) := hq
          refine brF ?_
          walk_at "wn"
          refine ⟨by omega, by decide, ?_⟩
          walk_at "wn"
          by_cases h6 : z.length = 60
          · have m : ((z.length : Nat) : Int).fmod 60 = 0 := by rw [h6]; decide
            rw [m, Tx.cut_zero]
            refine ⟨by omega, by decide +kernel, by decide +kernel, on_some Tx.int_only ?_⟩
            walk_at "wn"
            refine ⟨by omega, 1, by rw [h6]; exact Tx.rg60, fun i ss t => ∃ x3, ss = [.val (.str z), .val (.int 0), .val (.int (if i = 0 then 0 else Tx.numV z)), x3] ∧ t = 0, ⟨_, rfl, rfl⟩, fun i d ss tt hd hI => ?_, fun ss tt hI => ?_⟩
            · obtain ⟨x3, rfl, rfl⟩ := hI
              obtain ⟨hi, rfl⟩ := rangeC_get hd
              have i0 : i = 0 := by omega
              subst i0
              walk_at "w1"
              rw [if_pos rfl]
              refine ⟨⟨by decide, by decide, by decide⟩, .inl (.inl ⟨by decide, by decide⟩), by omega, ?_⟩
              rw [Tx.cut_60 (a := 0 + ((0 : Nat) : Int) * 60) (b := 0 + ((0 : Nat) : Int) * 60 + 60) h6 rfl rfl]
              refine ⟨by omega, on_some (Tx.int_all dg ne (by omega)) ⟨.val (.int (0 + ((0 : Nat) : Int) * 60)), by rw [if_neg (by decide), Int.zero_mul, Int.zero_add], rfl⟩⟩
            · obtain ⟨x3, rfl, rfl⟩ := hI
              rw [rangeC_len]
              walk_at "wn"
              exact hq
          · have m : ((z.length : Nat) : Int).fmod 60 = z.length := by
              rw [Int.fmod_eq_emod_of_nonneg _ (by decide)]
              omega
            rw [m, Tx.cut_all rfl]
            have hz : (Str.ofString "0").length = 1 := Tx.zero_len
            refine ⟨by omega, by omega, by rw [Tx.len_app]; omega, on_some (Tx.int_zero dg (by omega)) ?_⟩
            walk_at "wn"
            obtain ⟨s1, s2⟩ := Tx.rg_none z.length (by omega)
            refine ⟨by omega, 0, ⟨by decide, by decide, s1, s2⟩, fun i ss t => i = 0 ∧ ∃ x3, ss = [.val (.str z), .val (.int z.length), .val (.int (Tx.numV z)), x3] ∧ t = 0, ⟨rfl, _, rfl, rfl⟩, fun i d ss tt hd hI => ?_, fun ss tt hI => ?_⟩
            · obtain ⟨hi, _⟩ := rangeC_get hd
              omega
            · obtain ⟨_, x3, rfl, rfl⟩ := hI
              walk_at "wn"
              exact hq
  | _ => exact h.elim
/-! ### count_in -/
--@ item:@s
def T_count_in : Tp := fun ds q x => match ds with
  | [.str z] => z.length ≤ 90000 ∧ q (match Tx.ctIn z with | some n => .int n | none => .non)
  | _ => False
theorem ok_count_in (T : Txt K mg) : FnOk P w K mg base CX0 2 T.a_count_in T.d_count_in ["item"] (spT K T_count_in) := by
  have G_number_in := ok_number_in (P := P) (w := w) (base := base) T
  have hlen : ∀ ds q x, T_count_in ds q x → ds.length = 1 := fun ds q x h => by unfold T_count_in at h; split at h <;> first | rfl | exact h.elim
  refine T.F_count_in.ok sc_count_in (fun vs H Q E h => spT_len h hlen) (fun cdv A outer s H vs Q E hr h => ?body)
  refine ⟨_, (pss_cons (ps_if (pt_cmpR op_gtA (pe_callB call_lenA (by rfl) T.n_len (by decide +kernel) (pa_cons (pv 0) pa_nil)) (_root_.E.pe_gint rfl T.v_MOST_DIGITS) (nomark _))
      (pss_one (ps_ret pe_non))
      pss_nil)
      (pss_one (ps_ret (pe_call G_number_in (hr.mono (by decide)) (by rfl) T.g_number_in T.F_number_in.kp T.b_number_in .nil pass0 (pa_cons (pv 0) pa_nil))))), ?_⟩
  try dsimp only [cxOf, Cx.nox, Cx.wish, Cx.blk]
  refine def_T0 (K := K) (T := T_count_in) (sb_seq (sb_if (st_test (sn_op sr_gt (sn_cb sc_len (sa_cons sn_var sa_nil)) sn_int))
      (sb_ret sn_non)
      sb_next)
      (sb_ret (sn_call0 (sa_cons sn_var sa_nil)))) h (fun ds q x h => by have h2 := hlen ds q x h; exact Nat.le_trans (show ds.length ≤ 1 by omega) (by decide)) (fun ds q x h => ?_)
  have hl0 := hlen _ _ _ h
  match ds, hl0, h with
  | [d0], _, h => ?_
  refine to_ss (b := [.val d0]) rfl ?_
  cases d0 with
  | str z =>
    obtain ⟨hl, hq⟩ := h
    walk_at "w1"
    refine ⟨by omega, ?_⟩
    unfold Tx.ctIn at hq
    by_cases h6 : 60 < z.length
    · rw [if_pos h6] at hq
      rw [decide_eq_true (show (60 : Int) < (z.length : Nat) by omega)]
      refine brT ?_
      walk_at "wn"
      exact hq
    · rw [if_neg h6] at hq
      rw [decide_eq_false (show ¬ (60 : Int) < (z.length : Nat) by omega)]
      refine brF ?_
      walk_at "wn"
      refine ⟨by omega, ?_⟩
      cases e : Tx.okN z with
      | true => rw [e, if_pos rfl] at hq; rw [if_pos rfl]; exact hq
      | false => rw [e, if_neg (by decide)] at hq; rw [if_neg (by decide)]; exact hq
  | _ => exact h.elim
/-! ### Store.__init__ -/
/-- a store's fields -/
def storeF (ns : List Int) : List (Str × Dt) := [("counts", tI ns), ("is_endless", .bl (decide (1 < (ns.length : Int)))), ("many", .int ns.sum)]
/-- the counts of a store, of any length -/
def storeB (d : Dt) : Bool := match nums d with
  | some ns => decide (Po.Ct ns) && ns.all fun n => decide (0 ≤ n)
  | none => false
def T_Store___init__ (B N : Addr) : Tpi := fun ds q x => match ds with
  | [d] => goodD d ∧ (∀ ns : List Int, nums d = some ns → storeB d = true → (ns.length ≤ 41 → q (storeF ns)) ∧ (41 < ns.length → x ⟨N, [("most", .int 40), ("what", .str "trees")]⟩)) ∧ (storeB d = false → x ⟨B, [("part", .str "counts")]⟩)
  | _ => False
theorem nlF_store {ns : List Int} : nlF (storeF ns) = true := by
  have h1 : nl (tI ns) = true := (nlA_ints : nlA (ns.map Dt.int) = true)
  show (nl (tI ns) && (nl (.bl _) && (nl (.int _) && true))) = true
  rw [h1]; rfl
theorem store_ok {B N : Addr} {d : Dt} {q : List (Str × Dt) → Prop} {x : Xn → Prop} {ns : List Int} (h : nums d = some ns) (hc : Po.Ct ns) (hl : ns.length ≤ 41) (hp : ∀ n ∈ ns, 0 ≤ n) (hq : q (storeF ns)) : T_Store___init__ B N [d] q x := by
  have hb : storeB d = true := by
    unfold storeB
    rw [h]
    simp only [Bool.and_eq_true, decide_eq_true_eq, List.all_eq_true]
    exact ⟨hc, hp⟩
  refine ⟨good_ints h (by omega), fun ms h2 _ => ?_, fun z => by rw [hb] at z; cases z⟩
  rw [h] at h2; cases h2
  exact ⟨fun _ => hq, fun z => by omega⟩
theorem ok_Store___init__ (T : Txt K mg) : FnOk P w K mg base (L2.CX P w) 4 T.a_Store___init__ T.d_Store___init__ ["self", "counts"] (spI K T.c_Store (T_Store___init__ T.c_BadStore T.c_TooMany)) := by
  have G_BadStore___init__ := ok_BadStore___init__ (P := P) (w := w) (base := base) T
  have G_TooMany___init__ := ok_TooMany___init__ (P := P) (w := w) (base := base) T
  have G_is_counts := ok_is_counts (P := P) (w := w) (base := base) T
  have hlen : ∀ ds q x, (T_Store___init__ T.c_BadStore T.c_TooMany) ds q x → ds.length + 1 = 2 := fun ds q x h => by unfold T_Store___init__ at h; split at h <;> first | rfl | exact h.elim
  refine T.F_Store___init__.okX sc_Store___init__ (fun vs H Q E h => spI_len h hlen) (fun cdv A outer s H vs Q E hr h => ?body)
  refine ⟨_, (pss_cons (ps_if (PW.pt (pw_or (pt_not (pt_val (pe_call G_is_counts (hr.mono (by decide)) (by rfl) T.g_is_counts T.F_is_counts.kp T.b_is_counts .nil pass0 (pa_cons (pv 1) pa_nil)))) (pw_or1 (pt_not (pt_val (pe_callB (cr_all rfl) (by rfl) T.n_all (by decide +kernel) (pa_cons (pe_lc (own := [("count", 2)]) rfl sc_Store___init__.nd (pi_seqM (pv 1)) (blkOk_by (own := [("count", 2)]) (N := N_Store___init__) (sc := defScope s_Store___init__) (by decide +kernel)) (fun _ _ _ _ _ => (pg_name (i := 2) sc_Store___init__.nd rfl (.inl rfl))) (fun _ _ _ _ _ => pts_nil) (fun _ _ _ _ _ => (pe_cmpR op_geA (pv 2) pe_int (nomark _)))) pa_nil)))))))
      (pss_one (ps_raise rfl (takes_of rfl rfl rfl rfl) (pmk_oex T.E_BadStore.oe T.i_BadStore T.ti_BadStore G_BadStore___init__ (hr.mono (by decide)) T.b_BadStore___init__ .nil pass0 (by rfl) T.gC_BadStore (pa_cons pe_str pa_nil))))
      pss_nil)
      (pss_cons (ps_if (pt_cmpR op_gtA (pe_callB call_lenA (by rfl) T.n_len (by decide +kernel) (pa_cons (pv 1) pa_nil)) (pe_op op_addA (_root_.E.pe_gint rfl T.v_MOST_TREES) pe_int) (nomark _))
      (pss_one (ps_raise rfl (takes_of rfl rfl rfl rfl) (pmk_oex T.E_TooMany.oe T.i_TooMany T.ti_TooMany G_TooMany___init__ (hr.mono (by decide)) T.b_TooMany___init__ .nil pass0 (by rfl) T.gC_TooMany (pa_cons pe_str (pa_cons (_root_.E.pe_gint rfl T.v_MOST_TREES) pa_nil)))))
      pss_nil)
      (PSs.nox (pss_cons (ps_fld (pv 0) (pe_callTy call_tupleA (by rfl) T.n_tuple (by decide +kernel) (pa_cons (pv 1) pa_nil)) rfl)
      (pss_cons (ps_fld (pv 0) (pe_cmpR op_gtA (pe_callB call_lenA (by rfl) T.n_len (by decide +kernel) (pa_cons (pv 1) pa_nil)) pe_int (nomark _)) rfl)
      (pss_one (ps_fld (pv 0) (pe_callB (_root_.E.cr_sumA rfl) (by rfl) T.n_sum (by decide +kernel) (pa_cons (pv 1) pa_nil)) rfl))))))), ?_⟩
  try dsimp only [cxOf, Cx.nox, Cx.wish, Cx.blk]
  refine def_I (K := K) (T := (T_Store___init__ T.c_BadStore T.c_TooMany)) (sb_seq (sb_if (st_or (st_not (st_B (sn_call0 (sa_cons sn_var sa_nil)))) (st_not (st_B (sn_cb sc_all (sa_cons (sn_new (nn_lc (si_seq sn_var) (sg_name (by decide)) st_yes (sn_op sr_ge sn_var sn_int))) sa_nil)))))
      (sb_raise sn_str)
      sb_next)
      (sb_seq (sb_if (st_test (sn_op sr_gt (sn_cb sc_len (sa_cons sn_var sa_nil)) (sn_op sr_add sn_int sn_int)))
      (sb_raise2 sn_str sn_int)
      sb_next)
      (sb_seq (sb_setF T.K_Store T.na_Store_counts (sn_cb sc_tuple (sa_cons sn_var sa_nil)))
      (sb_seq (sb_setF T.K_Store T.na_Store_is_endless (sn_op sr_gt (sn_cb sc_len (sa_cons sn_var sa_nil)) sn_int))
      (sb_setF T.K_Store T.na_Store_many (sn_cb sc_sum (sa_cons sn_var sa_nil))))))) h (fun ds q x h => by have h2 := hlen ds q x h; exact Nat.le_trans (show ds.length ≤ 1 by omega) (by decide)) (fun ds q x h => ?_)
  have hl0 := hlen _ _ _ h
  match ds, hl0, h with
  | [d0], _, h => ?_
  refine to_ss (b := [.slf T.c_Store [], .val d0, .no]) rfl ?_
  obtain ⟨hg, hok, hx⟩ := h
  have fin : ∀ b, b = storeB d0 → True := fun _ _ => trivial
  walk_at "w1"
  refine ⟨hg, ?_⟩
  cases hct : isCt d0 with
  | false =>
    have e : storeB d0 = false := by
      unfold isCt at hct
      unfold storeB
      cases hn : nums d0 with
      | none => rfl
      | some ns => rw [hn] at hct; dsimp only at hct ⊢; rw [hct]; rfl
    refine iteT (brT ?_)
    walk_at "wn"
    exact hx e
  | true =>
    obtain ⟨ns, e, c⟩ := isCt_some hct
    have hlen : ns.length ≤ 100000 := by
      have := hg.2
      rcases two_of e with rfl | rfl
      · have := (this _ (.inl rfl)).1; rwa [List.length_map] at this
      · have := (this _ (.inr rfl)).1; rwa [List.length_map] at this
    have eB : storeB d0 = ns.all fun n => decide (0 ≤ n) := by
      unfold storeB; rw [e]; dsimp only; rw [decide_eq_true c, Bool.true_and]
    have bl : (ns.map Dt.int).map (fun d => match d with | .int j => Dt.bl (decide (0 ≤ j)) | d => d) = (ns.map fun j => decide (0 ≤ j)).map .bl := by
      rw [List.map_map, List.map_map]; rfl
    have al : (ns.map fun j => decide (0 ≤ j)).all id = ns.all fun n => decide (0 ≤ n) := by
      rw [List.all_map]; rfl
    refine iteF ?_
    rcases two_of e with rfl | rfl
    all_goals
      refine lc_map' (ds := ns.map Dt.int) (fun d => match d with | .int j => Dt.bl (decide (0 ≤ j)) | d => d) (fun k hk => hk) (by rw [List.length_map]; omega) (fun d k hd hk => ?_) ?_
      · obtain ⟨j, _, rfl⟩ := List.mem_map.mp hd
        walk_at "wp"
        exact hk
      · refine on_some (unB_of bl) ?_
        rw [al, ← eB]
        cases hB : storeB _ with
        | false =>
          refine brT ?_
          walk_at "wn"
          exact hx hB
        | true =>
          obtain ⟨hq1, hq2⟩ := hok ns e hB
          refine brF ?_
          walk_at "wn"
          by_cases l : ns.length ≤ 41
          · have hq := hq1 l
            rw [decide_eq_false (show ¬ (40 + 1 : Int) < ((ns.map Dt.int).length : Nat) by rw [List.length_map]; omega)]
            refine brF ?_
            walk_at "wn"
            refine ⟨⟨rfl, Nat.le_of_ble_eq_true rfl⟩, ?_⟩
            walk_at "wn"
            refine ⟨⟨rfl, Nat.le_of_ble_eq_true rfl⟩, ?_⟩
            walk_at "wn"
            refine on_some (unI_map ns) ?_
            refine ⟨⟨rfl, Nat.le_of_ble_eq_true rfl⟩, ?_⟩
            rw [List.length_map]
            exact ⟨_, rfl, hq⟩
          · rw [decide_eq_true (show (40 + 1 : Int) < ((ns.map Dt.int).length : Nat) by rw [List.length_map]; omega)]
            refine brT ?_
            walk_at "wn"
            exact hq2 (by omega)
/-! ### Store.read -/
/-- a count of a store, read at its place -/
def okT (i : Nat) (z : Str) : Bool := decide (i < 41) && match Tx.ctIn z with
  | some c => decide ((if i = 40 then 1 else 0) ≤ c)
  | none => false
def badT : Nat → List Str → Option Nat
  | _, [] => none
  | i, z :: r => if okT i z = true then badT (i + 1) r else some i
def rdT (items : List Str) : Nat ⊕ List Int := if items.head? = some (Str.ofString "-") then (if 1 < items.length then .inl 1 else .inr []) else match badT 0 items with
  | some i => .inl i
  | none => if Po.lastC (items.map Tx.ctV) = 0 then .inl (items.length - 1) else .inr (items.map Tx.ctV)
def T_Store_read (B C : Addr) : Tp := fun ds q x => match ds with
  | [.str z] => z.length ≤ 16000000 ∧ (∀ y ∈ Txt.split z Tx.blank, y.length ≤ 90000 ∧ PyData.strOk y = true) ∧ (match rdT (Txt.split z Tx.blank) with
    | .inl i => x ⟨B, [("item", .int (i : Nat)), ("line", .int 0)]⟩
    | .inr ns => q (.obj C (storeF ns)))
  | [d] => (plainD d = true ∧ isTy d "str" = false) ∧ x ⟨B, [("item", .int 0), ("line", .int 0)]⟩
  | _ => False
theorem badT_all : ∀ (items : List Str) (i : Nat), badT i items = none → ∀ (j : Nat) (y : Str), items[j]? = some y → okT (i + j) y = true
  | [], i, _, j, y, h => by simp at h
  | z :: r, i, hb, j, y, h => by
    have hb : (if okT i z = true then badT (i + 1) r else some i) = none := hb
    by_cases ho : okT i z = true
    · rw [if_pos ho] at hb
      match j with
      | 0 =>
        have e : z = y := by simpa using h
        subst e
        exact ho
      | j + 1 =>
        have := badT_all r (i + 1) hb j y (by simpa using h)
        rw [show i + (j + 1) = i + 1 + j by omega]
        exact this
    · rw [if_neg ho] at hb
      cases hb
theorem okT_of {i : Nat} {y : Str} (h : okT i y = true) : ∃ c, Tx.ctIn y = some c ∧ Tx.ctV y = c ∧ 0 ≤ c ∧ c < 10 ^ 60 ∧ i < 41 := by
  unfold okT at h
  rw [Bool.and_eq_true] at h
  obtain ⟨h1, h2⟩ := h
  cases e : Tx.ctIn y with
  | none => rw [e] at h2; cases h2
  | some c => exact ⟨c, rfl, by unfold Tx.ctV; rw [e]; rfl, (Tx.ctIn_back e).2.1, Tx.ctIn_lt e, of_decide_eq_true h1⟩
theorem badT_store {items : List Str} (hb : badT 0 items = none) (hz : ¬ Po.lastC (items.map Tx.ctV) = 0) : Po.Ct (items.map Tx.ctV) ∧ (items.map Tx.ctV).length ≤ 41 ∧ ∀ n ∈ items.map Tx.ctV, 0 ≤ n ∧ n < 10 ^ 60 := by
  have all : ∀ (j : Nat) (y : Str), items[j]? = some y → ∃ c, Tx.ctIn y = some c ∧ Tx.ctV y = c ∧ 0 ≤ c ∧ c < 10 ^ 60 ∧ j < 41 := fun j y h => by
    have := okT_of (badT_all items 0 hb j y h)
    rwa [Nat.zero_add] at this
  refine ⟨Po.ct_of_last fun _ => hz, ?_, fun n hn => ?_⟩
  · rw [List.length_map]
    by_cases h0 : items.length = 0
    · omega
    · obtain ⟨_, _, _, _, _, h⟩ := all (items.length - 1) _ (List.getElem?_eq_getElem (by omega))
      omega
  · obtain ⟨y, hy, rfl⟩ := List.mem_map.mp hn
    obtain ⟨j, hj⟩ := List.getElem?_of_mem hy
    obtain ⟨c, _, e, h1, h2, _⟩ := all j y hj
    rw [e]; exact ⟨h1, h2⟩
theorem ok_Store_read (T : Txt K mg) : FnOk P w K mg base (L2.CX P w) 6 T.a_Store_read T.d_Store_read ["text"] (spT K (T_Store_read T.c_BadText T.c_Store)) := by
  have G_items_of := ok_items_of (P := P) (w := w) (base := base) T
  have G_Store___init__ := ok_Store___init__ (P := P) (w := w) (base := base) T
  have G_count_in := ok_count_in (P := P) (w := w) (base := base) T
  have G_BadText___init__ := ok_BadText___init__ (P := P) (w := w) (base := base) T
  have G_is_within := ok_is_within (P := P) (w := w) (base := base) T
  have hlen : ∀ ds q x, (T_Store_read T.c_BadText T.c_Store) ds q x → ds.length = 1 := fun ds q x h => by unfold T_Store_read at h; split at h <;> first | rfl | exact h.elim
  refine T.F_Store_read.okX sc_Store_read (fun vs H Q E h => spT_len h hlen) (fun cdv A outer s H vs Q E hr h => ?body)
  refine ⟨_, (pss_cons (ps_set (i := 1) sc_Store_read.nd rfl (.inl rfl) (pe_call G_items_of (hr.mono (by decide)) (by rfl) T.g_items_of T.F_items_of.kp T.b_items_of .nil (passes_call (takes_of rfl rfl rfl rfl) fun _ _ _ _ z => z) (pa_cons (pv 0) pa_nil)))
      (pss_cons (ps_if (pt_cmpR (op_eqD hr.units) (pe_ix ix_seq (pv 1) pe_int (fun _ _ => rfl)) pe_str (nomark _))
      (pss_cons (ps_if (pt_cmpR op_gtA (pe_callB call_lenA (by rfl) T.n_len (by decide +kernel) (pa_cons (pv 1) pa_nil)) pe_int (nomark _))
      (pss_one (ps_raise rfl (takes_of rfl rfl rfl rfl) (pmk_oex T.E_BadText.oe T.i_BadText T.ti_BadText G_BadText___init__ (hr.mono (by decide)) T.b_BadText___init__ .nil pass0 (by rfl) T.gC_BadText (pa_cons pe_int (pa_cons pe_int pa_nil)))))
      pss_nil)
      (pss_one (ps_ret (pe_make T.M_Store G_Store___init__ (hr.mono (by decide)) (by rfl) T.gC_Store T.b_Store___init__ .nil (passes_call (takes_of rfl rfl rfl rfl) fun _ _ _ _ z => z) (pa_cons (pe_tup pa_nil) pa_nil)))))
      pss_nil)
      (pss_cons (ps_set (i := 2) sc_Store_read.nd rfl (.inl rfl) (pe_lst pa_nil))
      (pss_cons (ps_for (passes_of rfl) rfl (pi_enumM (by rfl) T.n_enumerate (pa_cons (pv 1) pa_nil)) (pg_tup rfl (pgs_cons (pg_name (i := 3) sc_Store_read.nd rfl (.inl rfl)) (pgs_cons (pg_name (i := 4) sc_Store_read.nd rfl (.inl rfl)) pgs_nil)))
      (pss_cons (ps_set (i := 5) sc_Store_read.nd rfl (.inl rfl) (pe_call G_count_in (hr.mono (by decide)) (by rfl) T.g_count_in T.F_count_in.kp T.b_count_in .nil pass0 (pa_cons (pv 4) pa_nil)))
      (pss_cons (ps_set (i := 6) sc_Store_read.nd rfl (.inl rfl) (pe_ifExp (pt_cmpR (op_eqD hr.units) (pv 3) (_root_.E.pe_gint rfl T.v_MOST_TREES) (nomark _)) pe_int pe_int))
      (pss_cons (ps_if (PW.pt (pw_or (pt_cmpR op_gtA (pv 3) (_root_.E.pe_gint rfl T.v_MOST_TREES) (nomark _)) (pw_or1 (pt_not (pt_val (pe_call G_is_within (hr.mono (by decide)) (by rfl) T.g_is_within T.F_is_within.kp T.b_is_within .nil pass0 (pa_cons (pv 5) (pa_cons (pv 6) (pa_cons pe_non pa_nil)))))))))
      (pss_one (ps_raise rfl (takes_of rfl rfl rfl rfl) (pmk_oex T.E_BadText.oe T.i_BadText T.ti_BadText G_BadText___init__ (hr.mono (by decide)) T.b_BadText___init__ .nil pass0 (by rfl) T.gC_BadText (pa_cons pe_int (pa_cons (pv 3) pa_nil)))))
      pss_nil)
      (PSs.nox (pss_one (ps_expr (pe_bm PySem.F.plainAttrs_list PySem.F.slot_list_append PySem.F.type_list_append mt_append (pv 2) (pa_cons (pv 5) pa_nil)))))))))
      (pss_cons (ps_if (pt_cmpR (op_eqD hr.units) (pe_ix ix_seq (pv 2) (pe_un un_neg pe_int) (fun _ _ => rfl)) pe_int (nomark _))
      (pss_one (ps_raise rfl (takes_of rfl rfl rfl rfl) (pmk_oex T.E_BadText.oe T.i_BadText T.ti_BadText G_BadText___init__ (hr.mono (by decide)) T.b_BadText___init__ .nil pass0 (by rfl) T.gC_BadText (pa_cons pe_int (pa_cons (pe_op op_subA (pe_callB call_lenA (by rfl) T.n_len (by decide +kernel) (pa_cons (pv 2) pa_nil)) pe_int) pa_nil)))))
      pss_nil)
      (pss_one (ps_ret (pe_make T.M_Store G_Store___init__ (hr.mono (by decide)) (by rfl) T.gC_Store T.b_Store___init__ .nil (passes_call (takes_of rfl rfl rfl rfl) fun _ _ _ _ z => z) (pa_cons (pv 2) pa_nil))))))))), ?_⟩
  try dsimp only [cxOf, Cx.nox, Cx.wish, Cx.blk]
  refine def_T (K := K) (T := (T_Store_read T.c_BadText T.c_Store)) (sb_seq (sb_asg (vs := [1]) (sn_call (sa_cons sn_var sa_nil)) (sg_name (by decide)))
      (sb_seq (sb_if (st_test (sn_op sr_eq (sn_op sr_ix sn_var sn_int) sn_str))
      (sb_seq (sb_if (st_test (sn_op sr_gt (sn_cb sc_len (sa_cons sn_var sa_nil)) sn_int))
      (sb_raise2 sn_int sn_int)
      sb_next)
      (sb_ret (sn_make (sa_cons (sn_tup sa_nil) sa_nil))))
      sb_next)
      (sb_seq (sb_own (nn_lst sa_nil))
      (sb_seq (sb_for (vs := [3, 4]) (si_enum (sa_cons sn_var sa_nil)) (sg_tup (sgs_cons (sg_name (by decide)) (sgs_cons (sg_name (by decide)) sgs_nil)))
      (sb_seq (sb_asg (vs := [5]) (sn_call0 (sa_cons sn_var sa_nil)) (sg_name (by decide)))
      (sb_seq (sb_asg (vs := [6]) (sn_if (st_test (sn_op sr_eq sn_var sn_int)) sn_int sn_int) (sg_name (by decide)))
      (sb_seq (sb_if (st_or (st_test (sn_op sr_gt sn_var sn_int)) (st_not (st_B (sn_call0 (sa_cons sn_var (sa_cons sn_var (sa_cons sn_non sa_nil)))))))
      (sb_raise2 sn_int sn_var)
      sb_next)
      (sb_append sn_var)))))
      (sb_seq (sb_ifZ (st_test (sn_op sr_eq (sn_op sr_ix sn_var (sn_un su_neg sn_int)) sn_int))
      (sb_frz (i := 2) (sb_raise2 sn_int (sn_op sr_sub (sn_cb sc_len (sa_cons sn_var sa_nil)) sn_int)))
      sb_next)
      (sb_retZ (sn_make (sa_cons sn_var sa_nil)))))))) h (fun ds q x h => by have h2 := hlen ds q x h; exact Nat.le_trans (show ds.length ≤ 1 by omega) (by decide)) (fun ds q x h => ?_)
  have hl0 := hlen _ _ _ h
  match ds, hl0, h with
  | [d0], _, h => ?_
  refine to_ss (b := [.val d0, .no, .no, .no, .no, .no, .no]) rfl ?_
  cases d0 with
  | str z =>
    obtain ⟨hl, hle, hq⟩ := h
    walk_at "w1"
    refine ⟨hl, ?_⟩
    walk_at "wn"
    obtain ⟨items, hit⟩ : ∃ items, items = Txt.split z Tx.blank := ⟨_, rfl⟩
    have hne : items ≠ [] := hit ▸ Tx.split_ne z
    rw [← hit] at hq hle ⊢
    clear hit
    obtain ⟨y0, r0, rfl⟩ : ∃ y r, items = y :: r := by
      cases items with
      | nil => exact absurd rfl hne
      | cons y r => exact ⟨y, r, rfl⟩
    have sd : PyData.strOk (Str.ofString "-") = true := by decide +kernel
    refine on_some (a := .str y0) (atD_nat (i := 0) (by rfl)) ?_
    refine on_some (eqD_s (hle y0 List.mem_cons_self).2 sd) ?_
    by_cases h0 : y0 = Str.ofString "-"
    · have e0 : rdT (y0 :: r0) = if 1 < (y0 :: r0).length then .inl 1 else .inr [] := by unfold rdT; rw [if_pos (by rw [h0]; rfl)]
      rw [e0] at hq
      rw [decide_eq_true h0]
      refine brT ?_
      walk_at "wn"
      rw [List.length_map]
      by_cases h1 : 1 < (y0 :: r0).length
      · rw [if_pos h1] at hq
        rw [decide_eq_true (show (1 : Int) < ((y0 :: r0).length : Nat) by omega)]
        refine brT ?_
        walk_at "wn"
        exact hq
      · rw [if_neg h1] at hq
        rw [decide_eq_false (show ¬ (1 : Int) < ((y0 :: r0).length : Nat) by omega)]
        refine brF ?_
        walk_at "wn"
        exact ⟨Nat.le_of_ble_eq_true rfl, store_ok (ns := []) rfl rfl (by decide) (fun n hn => by cases hn) hq⟩
    · have e0 : rdT (y0 :: r0) = match badT 0 (y0 :: r0) with
          | some i => .inl i
          | none => if Po.lastC ((y0 :: r0).map Tx.ctV) = 0 then .inl ((y0 :: r0).length - 1) else .inr ((y0 :: r0).map Tx.ctV) := by unfold rdT; rw [if_neg (show ¬ (y0 :: r0).head? = some (Str.ofString "-") from fun z => h0 (Option.some.inj z))]
      rw [e0] at hq
      rw [decide_eq_false h0]
      refine brF ?_
      clear e0 h0
      generalize hI : y0 :: r0 = items at *
      walk_at "wn"
      refine ⟨Nat.le_of_ble_eq_true rfl, ?_⟩
      walk_at "wn"
      refine ⟨fun i ss t => ∃ x3 x4 x5 x6, ss = [.val (.str z), .val (.lst (items.map .str)), .own (((items.take i).map Tx.ctV).map .int), x3, x4, x5, x6] ∧ t = 0 ∧ badT 0 items = badT i (items.drop i) ∧ i ≤ 41, ⟨.no, .no, .no, .no, by rw [List.take_zero]; rfl, rfl, by rw [List.drop_zero], by decide⟩, fun i d ss tt hd hI => ?_, fun ss tt hI => ?_⟩
      · obtain ⟨x3, x4, x5, x6, rfl, rfl, hb, h6⟩ := hI
        obtain ⟨e, he, rfl⟩ := enumE_at hd
        rw [List.getElem?_map] at he
        obtain ⟨y, hy, rfl⟩ := Option.map_eq_some_iff.mp he
        have hil : i < items.length := (List.getElem?_eq_some_iff.mp hy).1
        have hmem : y ∈ items := List.mem_of_getElem? hy
        have edrop : items.drop i = y :: items.drop (i + 1) := by
          rw [List.drop_eq_getElem_cons hil]
          congr 1
          exact (List.getElem?_eq_some_iff.mp hy).2
        rw [edrop] at hb
        walk_at "w1"
        refine ⟨rfl, (hle y hmem).1, ?_⟩
        walk_at "wn"
        refine on_some eqD_int ?_
        have hx : badT 0 items = some i → x ⟨T.c_BadText, [("item", .int (i : Nat)), ("line", .int 0)]⟩ := fun z => by
          rw [z] at hq
          exact hq
        by_cases h05 : i = 40
        case' pos =>
          have hk : okT i y = (decide (i < 41) && match Tx.ctIn y with | some c => decide (1 ≤ c) | none => false) := by unfold okT; rw [if_pos h05]
          rw [decide_eq_true (show ((i : Nat) : Int) = 40 by omega)]
          refine iteT ?_
        case' neg =>
          have hk : okT i y = (decide (i < 41) && match Tx.ctIn y with | some c => decide (0 ≤ c) | none => false) := by unfold okT; rw [if_neg h05]
          rw [decide_eq_false (show ¬ ((i : Nat) : Int) = 40 by omega)]
          refine iteF ?_
        all_goals
          walk_at "wn"
          have hx2 : okT i y = false → x ⟨T.c_BadText, [("item", .int (i : Nat)), ("line", .int 0)]⟩ := fun z => hx (by rw [hb]; unfold badT; rw [z]; rfl)
          by_cases h66 : i < 41
          · rw [decide_eq_true h66, Bool.true_and] at hk
            rw [decide_eq_false (show ¬ (40 : Int) < ((i : Nat) : Int) by omega)]
            refine iteF ?_
            cases hc : Tx.ctIn y with
            | none =>
              rw [hc] at hk
              refine ⟨rfl, _, _, rfl, rfl, ?_⟩
              refine brT ?_
              walk_at "wn"
              exact hx2 hk
            | some c =>
              rw [hc] at hk
              refine ⟨rfl, _, _, rfl, rfl, ?_⟩
              dsimp only
              have hw : ∀ L : Int, okT i y = decide (L ≤ c) → within (.int c) (some L) none = okT i y := fun L z => by
                rw [z]; simp [within]
              rw [hw _ hk]
              cases ho : okT i y with
              | false =>
                refine brT ?_
                walk_at "wn"
                exact hx2 ho
              | true =>
                refine brF ?_
                walk_at "wn"
                have et : items.take (i + 1) = items.take i ++ [y] := by rw [List.take_succ, hy]; rfl
                have ec : Tx.ctV y = c := by unfold Tx.ctV; rw [hc]; rfl
                have eo : ((items.take i).map Tx.ctV).map Dt.int ++ [.int c] = ((items.take (i + 1)).map Tx.ctV).map Dt.int := by
                  rw [et, List.map_append, List.map_append, List.map_singleton, List.map_singleton, ec]
                have e1 : badT 0 items = badT (i + 1) (items.drop (i + 1)) := by
                  rw [hb]
                  show (if okT i y = true then _ else _) = _
                  rw [if_pos ho]
                rw [eo]
                exact ⟨by rw [List.length_map, List.length_map, List.length_take]; omega, _, _, _, _, rfl, rfl, e1, by omega⟩
          · rw [decide_eq_false h66, Bool.false_and] at hk
            rw [decide_eq_true (show (40 : Int) < ((i : Nat) : Int) by omega)]
            refine iteT (brT ?_)
            walk_at "wn"
            exact hx2 hk
      · obtain ⟨x3, x4, x5, x6, rfl, rfl, hb, h6⟩ := hI
        rw [enumE_len, List.length_map] at hb h6 ⊢
        rw [List.drop_length, List.take_length] at *
        have hb0 : badT 0 items = none := hb
        rw [hb0] at hq
        walk_at "wn"
        have hlt : ((items.map Tx.ctV).map Dt.int).length = items.length := by rw [List.length_map, List.length_map]
        have hm : items.map Tx.ctV ≠ [] := fun z => hne (List.map_eq_nil_iff.mp z)
        have hpos : 0 < items.length := List.length_pos_iff.mpr hne
        refine on_some (atD_lastI hm) ?_
        refine on_some eqD_int ?_
        show wBr (decide (Po.lastC (items.map Tx.ctV) = 0)) _ _ _ _ _
        by_cases hz : Po.lastC (items.map Tx.ctV) = 0
        · dsimp only at hq
          rw [if_pos hz] at hq
          rw [decide_eq_true hz]
          refine brT ?_
          walk_at "wn"
          rw [hlt]
          have ei : ((items.length : Nat) : Int) - 1 = ((items.length - 1 : Nat) : Int) := by omega
          rw [ei]
          exact hq
        · dsimp only at hq
          rw [if_neg hz] at hq
          rw [decide_eq_false hz]
          refine brF ?_
          walk_at "wn"
          obtain ⟨c1, c2, c3⟩ := badT_store hb0 hz
          exact store_ok (ns := items.map Tx.ctV) nums_l c1 c2 (fun n hn => (c3 n hn).1) ⟨nlF_store, hq⟩
  | _ =>
    obtain ⟨⟨h1, h2⟩, h3⟩ := h
    walk_at "w1"
    exact ⟨⟨h1, h2⟩, h3⟩
/-! ### check_store -/
def T_check_store (C : Addr) : Tp := fun ds q _ => match ds with
  | [d, n] => ∃ fs, d = .obj C fs ∧ q .non
  | _ => False
theorem ok_check_store (T : Txt K mg) : FnOk P w K mg base (L2.CX P w) 3 T.a_check_store T.d_check_store ["store", "name"] (spT K (T_check_store T.c_Store)) := by
  have G_BadStore___init__ := ok_BadStore___init__ (P := P) (w := w) (base := base) T
  have hlen : ∀ ds q x, (T_check_store T.c_Store) ds q x → ds.length = 2 := fun ds q x h => by unfold T_check_store at h; split at h <;> first | rfl | exact h.elim
  refine T.F_check_store.okX sc_check_store (fun vs H Q E h => spT_len h hlen) (fun cdv A outer s H vs Q E hr h => ?body)
  refine ⟨_, (pss_one (ps_if (pt_not (pt_val (pe_callB call_isiE (by rfl) T.n_isinstance (by decide +kernel) (pa_cons (pv 0) (pa_cons (C8.pe_gc (v := .ref T.c_Store) rfl ⟨_, T.gC_Store, rfl⟩) pa_nil)))))
      (pss_one (ps_raise rfl (takes_of rfl rfl rfl rfl) (pmk_oex T.E_BadStore.oe T.i_BadStore T.ti_BadStore G_BadStore___init__ (hr.mono (by decide)) T.b_BadStore___init__ .nil pass0 (by rfl) T.gC_BadStore (pa_cons (pv 1) pa_nil))))
      pss_nil)), ?_⟩
  try dsimp only [cxOf, Cx.nox, Cx.wish, Cx.blk]
  refine def_T (K := K) (T := (T_check_store T.c_Store)) (sb_if (st_not (st_B (sn_cb sc_isi (sa_cons sn_var (sa_cons sn_cls sa_nil)))))
      (sb_raise sn_var)
      sb_next) h (fun ds q x h => by have h2 := hlen ds q x h; exact Nat.le_trans (show ds.length ≤ 2 by omega) (by decide)) (fun ds q x h => ?_)
  have hl0 := hlen _ _ _ h
  match ds, hl0, h with
  | [d0, d1], _, h => ?_
  refine to_ss (b := [.val d0, .val d1]) rfl ?_
  obtain ⟨fs, rfl, hq⟩ := h
  walk_at "w1"
  refine isi_obj T.O_Store.obj T.k_Store_Store ?_
  exact brF hq
/-! ### Store.__str__ -/
--@ self:Store
def storeT (ns : List Int) : Str := if ns = [] then Str.ofString "-" else Txt.join Tx.blank (ns.map Tx.num)
def T_Store___str__ (C : Addr) : Tp := fun ds q _ => match ds with
  | [d] => ∃ (fs : List (Str × Dt)) (a : List Int), d = .obj C fs ∧ fs.lookup ("counts" : Str) = some (tI a) ∧ (a.length ≤ 41 ∧ ∀ n ∈ a, 0 ≤ n ∧ n < 10 ^ 60) ∧ q (.str (storeT a))
  | _ => False
theorem ok_Store___str__ (T : Txt K mg) : FnOk P w K mg base CX0 2 T.a_Store___str__ T.d_Store___str__ ["self"] (spT K (T_Store___str__ T.c_Store)) := by
  have G_number_text := ok_number_text (P := P) (w := w) (base := base) T
  have hlen : ∀ ds q x, (T_Store___str__ T.c_Store) ds q x → ds.length = 1 := fun ds q x h => by unfold T_Store___str__ at h; split at h <;> first | rfl | exact h.elim
  refine T.F_Store___str__.ok sc_Store___str__ (fun vs H Q E h => spT_len h hlen) (fun cdv A outer s H vs Q E hr h => ?body)
  refine ⟨_, (pss_cons (ps_if (pt_cmpR (op_eqD hr.units) (pe_callB call_lenA (by rfl) T.n_len (by decide +kernel) (pa_cons (pe_fld (pv 0) rfl) pa_nil)) pe_int (nomark _))
      (pss_one (ps_ret pe_str))
      pss_nil)
      (pss_one (ps_ret (_root_.E.pe_joinE (K := K) rfl pe_str (pe_lc (own := [("count", 1)]) rfl sc_Store___str__.nd (pi_seqM (pe_fld (pv 0) rfl)) (blkOk_by (own := [("count", 1)]) (N := N_Store___str__) (sc := defScope s_Store___str__) (by decide +kernel)) (fun _ _ _ _ _ => (pg_name (i := 1) sc_Store___str__.nd rfl (.inl rfl))) (fun _ _ _ _ _ => pts_nil) (fun _ _ _ _ _ => (pe_call G_number_text (hr.mono (by decide)) (by rfl) T.g_number_text T.F_number_text.kp T.b_number_text .nil pass0 (pa_cons (pv 1) pa_nil)))))))), ?_⟩
  try dsimp only [cxOf, Cx.nox, Cx.wish, Cx.blk]
  refine def_T0 (K := K) (T := (T_Store___str__ T.c_Store)) (sb_seq (sb_if (st_test (sn_op sr_eq (sn_cb sc_len (sa_cons (sn_fld T.K_Store T.na_Store_counts sn_var) sa_nil)) sn_int))
      (sb_ret sn_str)
      sb_next)
      (sb_ret (sn_m1 sm_join sn_str (sn_new (nn_lc (si_seq (sn_fld T.K_Store T.na_Store_counts sn_var)) (sg_name (by decide)) st_yes (sn_call0 (sa_cons sn_var sa_nil))))))) h (fun ds q x h => by have h2 := hlen ds q x h; exact Nat.le_trans (show ds.length ≤ 1 by omega) (by decide)) (fun ds q x h => ?_)
  have hl0 := hlen _ _ _ h
  match ds, hl0, h with
  | [d0], _, h => ?_
  refine to_ss (b := [.val d0, .no]) rfl ?_
  obtain ⟨fs, a, rfl, h1, ⟨hl, hc⟩, hq⟩ := h
  walk_at "w1"
  refine ⟨rfl, on_some h1 ?_⟩
  walk_at "w1"
  rw [List.length_map]
  refine on_some eqD_int ?_
  by_cases h0 : a = []
  · subst h0
    refine brT ?_
    walk_at "wn"
    exact hq
  · have hn : a.length ≠ 0 := fun z => h0 (List.length_eq_zero_iff.mp z)
    rw [decide_eq_false (show ¬ ((a.length : Nat) : Int) = 0 by omega)]
    refine brF ?_
    walk_at "wn"
    have el : (a.map Dt.int).map (fun d => match d with | .int j => Dt.str (Tx.num j) | d => d) = (a.map Tx.num).map .str := by
      rw [List.map_map, List.map_map]; rfl
    refine lc_map' (ds := a.map Dt.int) (fun d => match d with | .int j => Dt.str (Tx.num j) | d => d) (fun k hk => ⟨rfl, on_some h1 hk⟩) (by rw [List.length_map]; omega) (fun d k hd hk => ?_) ?_
    · obtain ⟨j, hj, rfl⟩ := List.mem_map.mp hd
      walk_at "w1"
      exact ⟨hc j hj, hk⟩
    · rw [el]
      refine on_some (unS_map _) ⟨?_, ?_⟩
      · have h2 : ((a.map Tx.num).map (·.length)).sum ≤ 60 * a.length := by
          clear hq h1 hl el hn h0
          induction a with
          | nil => decide
          | cons n r ih =>
            have := ih fun m hm => hc m (List.mem_cons_of_mem _ hm)
            have := Tx.num_len (n := n) (k := 60) (hc n List.mem_cons_self).1 (by decide) (hc n List.mem_cons_self).2
            simp only [List.map_cons, List.sum_cons, List.length_cons]
            omega
        have h3 : (Str.ofString " ").length = 1 := by decide +kernel
        rw [h3, List.length_map]
        omega
      · unfold storeT at hq
        rw [if_neg h0] at hq
        exact hq
/-! ### Store.__eq__ -/
--@ self:Store other:Store
def T_Store___eq__ (C : Addr) : Tp := fun ds q _ => match ds with
  | [d, e] => ∃ (fs gs : List (Str × Dt)) (a b : List Int), d = .obj C fs ∧ e = .obj C gs ∧ fs.lookup ("counts" : Str) = some (tI a) ∧ gs.lookup ("counts" : Str) = some (tI b) ∧ q (.bl (decide (a = b)))
  | _ => False
theorem ok_Store___eq__ (T : Txt K mg) : FnOk P w K mg base CX0 1 T.a_Store___eq__ T.d_Store___eq__ ["self", "other"] (spT K (T_Store___eq__ T.c_Store)) := by
  have hlen : ∀ ds q x, (T_Store___eq__ T.c_Store) ds q x → ds.length = 2 := fun ds q x h => by unfold T_Store___eq__ at h; split at h <;> first | rfl | exact h.elim
  refine T.F_Store___eq__.ok sc_Store___eq__ (fun vs H Q E h => spT_len h hlen) (fun cdv A outer s H vs Q E hr h => ?body)
  refine ⟨_, (pss_one (ps_ret (pe_and (pe_callB call_isiE (by rfl) T.n_isinstance (by decide +kernel) (pa_cons (pv 1) (pa_cons (C8.pe_gc (v := .ref T.c_Store) rfl ⟨_, T.gC_Store, rfl⟩) pa_nil))) (pe_one (pe_cmpR (op_eqD hr.units) (pe_fld (pv 0) rfl) (pe_fld (pv 1) rfl) (nomark _)))))), ?_⟩
  try dsimp only [cxOf, Cx.nox, Cx.wish, Cx.blk]
  refine def_T0 (K := K) (T := (T_Store___eq__ T.c_Store)) (sb_ret (sn_andV (sn_cb sc_isi (sa_cons sn_var (sa_cons sn_cls sa_nil))) (sn_op sr_eq (sn_fld T.K_Store T.na_Store_counts sn_var) (sn_fld T.K_Store T.na_Store_counts sn_var)))) h (fun ds q x h => by have h2 := hlen ds q x h; exact Nat.le_trans (show ds.length ≤ 2 by omega) (by decide)) (fun ds q x h => ?_)
  have hl0 := hlen _ _ _ h
  match ds, hl0, h with
  | [d0, d1], _, h => ?_
  refine to_ss (b := [.val d0, .val d1]) rfl ?_
  obtain ⟨fs, gs, a, b, rfl, rfl, h1, h2, hq⟩ := h
  walk_at "w1"
  refine isi_obj T.O_Store.obj T.k_Store_Store ?_
  exact iteT ⟨rfl, on_some h1 ⟨rfl, on_some h2 (on_some eqD_tI hq)⟩⟩
/-! ### _are_rule_counts -/
/-- the counts of a rule -/
def ruleB (ns : List Int) : Bool := decide (3 ≤ ns.length ∧ ns.length ≤ 6) && (ns.all fun n => decide (0 ≤ n ∧ n ≤ 3)) && decide (0 < Po.co ns 0) && decide (0 < Po.lastC ns)
def isRb (d : Dt) : Bool := match nums d with
  | some ns => ruleB ns
  | none => false
def T__are_rule_counts : Tp := fun ds q x => match ds with
  | [d] => goodD d ∧ q (.bl (isRb d))
  | _ => False
theorem ok__are_rule_counts (T : Txt K mg) : FnOk P w K mg base CX0 3 T.a__are_rule_counts T.d__are_rule_counts ["value"] (spT K T__are_rule_counts) := by
  have G_is_numbers := ok_is_numbers (P := P) (w := w) (base := base) T
  have hlen : ∀ ds q x, T__are_rule_counts ds q x → ds.length = 1 := fun ds q x h => by unfold T__are_rule_counts at h; split at h <;> first | rfl | exact h.elim
  refine T.F__are_rule_counts.ok sc__are_rule_counts (fun vs H Q E h => spT_len h hlen) (fun cdv A outer s H vs Q E hr h => ?body)
  refine ⟨_, (pss_cons (ps_if (PW.pt (pw_or (pt_not (pt_val (pe_call G_is_numbers (hr.mono (by decide)) (by rfl) T.g_is_numbers T.F_is_numbers.kp T.b_is_numbers .nil pass0 (pa_cons (pv 0) pa_nil)))) (pw_or1 (pt_not (pt_chain op_leA op_leA (_root_.E.pe_gint rfl T.v_LEAST_COUNTS) (pe_callB call_lenA (by rfl) T.n_len (by decide +kernel) (pa_cons (pv 0) pa_nil)) (_root_.E.pe_gint rfl T.v_MOST_COUNTS))))))
      (pss_one (ps_ret pe_bl))
      pss_nil)
      (pss_one (ps_ret (pe_and (pe_callB (cr_all rfl) (by rfl) T.n_all (by decide +kernel) (pa_cons (pe_lc (own := [("count", 1)]) rfl sc__are_rule_counts.nd (pi_seqM (pv 0)) (blkOk_by (own := [("count", 1)]) (N := N__are_rule_counts) (sc := defScope s__are_rule_counts) (by decide +kernel)) (fun _ _ _ _ _ => (pg_name (i := 1) sc__are_rule_counts.nd rfl (.inl rfl))) (fun _ _ _ _ _ => pts_nil) (fun _ _ _ _ _ => (pe_chain op_leA op_leA pe_int (pv 1) (_root_.E.pe_gint rfl T.v_MOST_SORTS)))) pa_nil)) (pe_and (pe_cmpR op_gtA (pe_ix ix_seq (pv 0) pe_int (fun _ _ => rfl)) pe_int (nomark _)) (pe_one (pe_cmpR op_gtA (pe_ix ix_seq (pv 0) (pe_un un_neg pe_int) (fun _ _ => rfl)) pe_int (nomark _)))))))), ?_⟩
  try dsimp only [cxOf, Cx.nox, Cx.wish, Cx.blk]
  refine def_T0 (K := K) (T := T__are_rule_counts) (sb_seq (sb_if (st_or (st_not (st_B (sn_call0 (sa_cons sn_var sa_nil)))) (st_not (st_test (sn_chain sr_le sr_le sn_int (sn_cb sc_len (sa_cons sn_var sa_nil)) sn_int))))
      (sb_ret sn_bl)
      sb_next)
      (sb_ret (sn_andV (sn_cb sc_all (sa_cons (sn_new (nn_lc (si_seq sn_var) (sg_name (by decide)) st_yes (sn_chain sr_le sr_le sn_int sn_var sn_int))) sa_nil)) (sn_andV (sn_op sr_gt (sn_op sr_ix sn_var sn_int) sn_int) (sn_op sr_gt (sn_op sr_ix sn_var (sn_un su_neg sn_int)) sn_int))))) h (fun ds q x h => by have h2 := hlen ds q x h; exact Nat.le_trans (show ds.length ≤ 1 by omega) (by decide)) (fun ds q x h => ?_)
  have hl0 := hlen _ _ _ h
  match ds, hl0, h with
  | [d0], _, h => ?_
  refine to_ss (b := [.val d0, .no]) rfl ?_
  obtain ⟨hg, hq⟩ := h
  walk_at "w1"
  refine ⟨hg, ?_⟩
  cases e : nums d0 with
  | none =>
    have e1 : isRb d0 = false := by unfold isRb; rw [e]
    rw [e1] at hq
    exact iteT (brT (by walk_at "wn"; exact hq))
  | some ns =>
    have e1 : isRb d0 = ruleB ns := by unfold isRb; rw [e]
    rw [e1] at hq
    have hlen : ns.length ≤ 100000 := by
      have := hg.2
      rcases two_of e with rfl | rfl
      · have := (this _ (.inl rfl)).1; rwa [List.length_map] at this
      · have := (this _ (.inr rfl)).1; rwa [List.length_map] at this
    have bl : (ns.map Dt.int).map (fun d => match d with | .int j => Dt.bl (decide (0 ≤ j ∧ j ≤ 3)) | d => d) = (ns.map fun j => decide (0 ≤ j ∧ j ≤ 3)).map .bl := by
      rw [List.map_map, List.map_map]; rfl
    have al : (ns.map fun j => decide (0 ≤ j ∧ j ≤ 3)).all id = ns.all fun j => decide (0 ≤ j ∧ j ≤ 3) := by
      rw [List.all_map]; rfl
    have no : ¬ (3 ≤ ns.length ∧ ns.length ≤ 6) → ruleB ns = false := fun z => by unfold ruleB; rw [decide_eq_false z]; rfl
    rcases two_of e with rfl | rfl
    all_goals
      walk_at "w1"
      refine iteF ?_
      rw [List.length_map]
      by_cases l3 : (3 : Int) ≤ ns.length
      · rw [decide_eq_true l3]
        refine iteT ?_
        by_cases l6 : (ns.length : Int) ≤ 6
        · rw [decide_eq_true l6]
          refine brF ?_
          have ne : ns ≠ [] := fun z => by rw [z] at l3; simp at l3
          unfold ruleB at hq
          rw [decide_eq_true (show 3 ≤ ns.length ∧ ns.length ≤ 6 by omega), Bool.true_and] at hq
          walk_at "wn"
          refine lc_map' (ds := ns.map Dt.int) (fun d => match d with | .int j => Dt.bl (decide (0 ≤ j ∧ j ≤ 3)) | d => d) (fun k hk => hk) (by rw [List.length_map]; omega) (fun d k hd hk => ?_) ?_
          · obtain ⟨j, hj, rfl⟩ := List.mem_map.mp hd
            show (if decide (0 ≤ j) = true then k (.bl (decide (j ≤ 3))) 0 else k (.bl false) 0)
            by_cases z : 0 ≤ j
            · rw [decide_eq_true z]
              refine iteT ?_
              have e3 : decide (0 ≤ j ∧ j ≤ 3) = decide (j ≤ 3) := by rw [decide_eq_decide]; omega
              rw [← e3]
              exact hk
            · rw [decide_eq_false z]
              refine iteF ?_
              have e3 : decide (0 ≤ j ∧ j ≤ 3) = false := decide_eq_false (by omega)
              rw [← e3]
              exact hk
          · refine on_some (unB_of bl) ?_
            rw [al]
            cases ha : (ns.all fun j => decide (0 ≤ j ∧ j ≤ 3)) with
            | false =>
              rw [ha] at hq
              exact iteF hq
            | true =>
              rw [ha, Bool.true_and] at hq
              refine iteT ?_
              refine on_some (atD_ints (i := 0) (by omega)) ?_
              show (if decide (0 < Po.co ns 0) = true then _ else _)
              cases h0 : decide (0 < Po.co ns 0) with
              | false =>
                rw [h0] at hq
                exact iteF hq
              | true =>
                rw [h0, Bool.true_and] at hq
                refine iteT ?_
                refine on_some (atD_lastI ne) ?_
                show q (.bl (decide (0 < Po.co ns (ns.length - 1))))
                exact hq
        · rw [decide_eq_false l6]
          rw [no (by omega)] at hq
          exact brT (by walk_at "wn"; exact hq)
      · rw [decide_eq_false l3]
        rw [no (by omega)] at hq
        exact iteF (brT (by walk_at "wn"; exact hq))
/-! ### Rule.__init__ -/
def row1 (i n : Nat) : List Dt := (List.range n).map fun k => .tup [.int (i : Nat), .int (0 + (k : Nat))]
/-- the knots of the first i counts -/
def knotsTo (ns : List Int) : Nat → List Dt
  | 0 => []
  | i + 1 => knotsTo ns i ++ row1 i (Po.co ns i).toNat
theorem knots_len {ns : List Int} (h : ∀ i, Po.co ns i ≤ 3) : ∀ i, (knotsTo ns i).length ≤ 3 * i
  | 0 => by simp [knotsTo]
  | i + 1 => by
    have h1 := knots_len h i
    have h2 := h i
    rw [knotsTo, List.length_append, row1, List.length_map, List.length_range]
    omega
def ruleF (ns : List Int) : List (Str × Dt) := [("counts", tI ns), ("knots", .tup (knotsTo ns ns.length)), ("top", .int ((ns.length : Int) - 1)), ("stepped", tI (Po.addC ns [0, 1] (-1)))]
def T_Rule___init__ (B : Addr) : Tpi := fun ds q x => match ds with
  | [d] => goodD d ∧ (∀ ns : List Int, nums d = some ns → ruleB ns = true → q (ruleF ns)) ∧ (isRb d = false → x ⟨B, [("part", .str "counts")]⟩)
  | _ => False
theorem rule_ok {B : Addr} {d : Dt} {q : List (Str × Dt) → Prop} {x : Xn → Prop} {ns : List Int} (h : nums d = some ns) (hr : ruleB ns = true) (hq : q (ruleF ns)) : T_Rule___init__ B [d] q x := by
  have l6 : ns.length ≤ 6 := by
    unfold ruleB at hr
    simp only [Bool.and_eq_true, decide_eq_true_eq] at hr
    exact hr.1.1.1.2
  refine ⟨good_ints h (by omega), fun ms h2 _ => ?_, fun h3 => ?_⟩
  · rw [h] at h2; cases h2; exact hq
  · unfold isRb at h3; rw [h] at h3; dsimp only at h3; rw [hr] at h3; cases h3
theorem rule_no {B : Addr} {d : Dt} {q : List (Str × Dt) → Prop} {x : Xn → Prop} (hg : goodD d) (hr : isRb d = false) (hx : x ⟨B, [("part", .str "counts")]⟩) : T_Rule___init__ B [d] q x := by
  refine ⟨hg, fun ms h2 h3 => ?_, fun _ => hx⟩
  unfold isRb at hr
  rw [h2] at hr
  dsimp only at hr
  rw [h3] at hr
  cases hr
theorem nlA_row1 {i n : Nat} : nlA (row1 i n) = true := nlA_all fun d hd => by
  obtain ⟨k, _, rfl⟩ := List.mem_map.mp hd
  rfl
theorem nlA_app2 : ∀ {a b : List Dt}, nlA a = true → nlA b = true → nlA (a ++ b) = true
  | [], _, _, h => h
  | d :: a, b, h1, h2 => by
    have h1 : (nl d && nlA a) = true := h1
    rw [Bool.and_eq_true] at h1
    show (nl d && nlA (a ++ b)) = true
    rw [h1.1, nlA_app2 h1.2 h2]; rfl
theorem nlA_knots (ns : List Int) : ∀ i, nlA (knotsTo ns i) = true
  | 0 => rfl
  | i + 1 => nlA_app2 (nlA_knots ns i) nlA_row1
theorem nlF_rule {ns : List Int} : nlF (ruleF ns) = true := by
  have h1 : ∀ ms : List Int, nl (tI ms) = true := fun ms => (nlA_ints : nlA (ms.map Dt.int) = true)
  have h2 : nl (.tup (knotsTo ns ns.length)) = true := nlA_knots ns _
  show (nl (tI ns) && (nl (.tup (knotsTo ns ns.length)) && (nl (.int _) && (nl (tI _) && true)))) = true
  rw [h1, h1, h2]; rfl
theorem rule_co {ns : List Int} (h : ruleB ns = true) (i : Nat) : 0 ≤ Po.co ns i ∧ Po.co ns i ≤ 3 := by
  unfold ruleB at h
  simp only [Bool.and_eq_true, decide_eq_true_eq, List.all_eq_true] at h
  by_cases hi : i < ns.length
  · exact h.1.1.2 _ (List.mem_of_getElem? (Po.co_at hi))
  · rw [Po.co_ge (by omega)]; decide
theorem rule_len {ns : List Int} (h : ruleB ns = true) : 3 ≤ ns.length ∧ ns.length ≤ 6 ∧ 0 < Po.lastC ns := by
  unfold ruleB at h
  simp only [Bool.and_eq_true, decide_eq_true_eq] at h
  exact ⟨h.1.1.1.1, h.1.1.1.2, h.2⟩
theorem ok_Rule___init__ (T : Txt K mg) : FnOk P w K mg base (L2.CX P w) 6 T.a_Rule___init__ T.d_Rule___init__ ["self", "counts"] (spI K T.c_Rule (T_Rule___init__ T.c_BadRule)) := by
  have G_less := ok_less (P := P) (w := w) (base := base) T
  have G__are_rule_counts := ok__are_rule_counts (P := P) (w := w) (base := base) T
  have G_BadRule___init__ := ok_BadRule___init__ (P := P) (w := w) (base := base) T
  have hlen : ∀ ds q x, (T_Rule___init__ T.c_BadRule) ds q x → ds.length + 1 = 2 := fun ds q x h => by unfold T_Rule___init__ at h; split at h <;> first | rfl | exact h.elim
  refine T.F_Rule___init__.okX sc_Rule___init__ (fun vs H Q E h => spI_len h hlen) (fun cdv A outer s H vs Q E hr h => ?body)
  refine ⟨_, (pss_cons (ps_if (pt_not (pt_val (pe_call G__are_rule_counts (hr.mono (by decide)) (by rfl) T.g__are_rule_counts T.F__are_rule_counts.kp T.b__are_rule_counts .nil pass0 (pa_cons (pv 1) pa_nil))))
      (pss_one (ps_raise rfl (takes_of rfl rfl rfl rfl) (pmk_oex T.E_BadRule.oe T.i_BadRule T.ti_BadRule G_BadRule___init__ (hr.mono (by decide)) T.b_BadRule___init__ .nil pass0 (by rfl) T.gC_BadRule (pa_cons pe_str pa_nil))))
      pss_nil)
      (pss_cons (ps_fld (pv 0) (pe_callTy call_tupleA (by rfl) T.n_tuple (by decide +kernel) (pa_cons (pv 1) pa_nil)) rfl)
      (pss_cons (ps_fld (pv 0) (pe_callTy call_tupleA (by rfl) T.n_tuple (by decide +kernel) (pa_cons (pe_lc2 (own := [("parts", 2), ("many", 3), ("index", 4)]) (vs1 := [4]) rfl sc_Rule___init__.nd (pi_enumM (by rfl) T.n_enumerate (pa_cons (pv 1) pa_nil)) (blkOk_by (own := [("parts", 2), ("many", 3), ("index", 4)]) (N := N_Rule___init__) (sc := defScope s_Rule___init__) (by decide +kernel)) (by decide) (fun _ _ _ _ _ => (_root_.E.pg_tupK (K := K) (n := 2) rfl rfl (pgs_cons (pg_name (i := 2) sc_Rule___init__.nd rfl (.inl rfl)) (pgs_cons (pg_name (i := 3) sc_Rule___init__.nd rfl (.inl rfl)) pgs_nil)))) (fun _ _ _ _ _ => pts_nil) (fun _ _ _ _ _ => (pi_range1 rfl T.n_range (pa_cons (pv 3) pa_nil))) (fun _ _ _ _ _ => (pg_name (i := 4) sc_Rule___init__.nd rfl (.inl rfl))) (fun _ _ _ _ _ => pts_nil) (fun _ _ _ _ _ => (pe_tup (pa_cons (pv 2) (pa_cons (pv 4) pa_nil))))) pa_nil)) rfl)
      (pss_cons (ps_fld (pv 0) (pe_op op_subA (pe_callB call_lenA (by rfl) T.n_len (by decide +kernel) (pa_cons (pv 1) pa_nil)) pe_int) rfl)
      (pss_one (ps_fld (pv 0) (pe_call G_less (hr.mono (by decide)) (by rfl) T.g_less T.F_less.kp T.b_less .nil (passes_call (takes_of rfl rfl rfl rfl) fun _ _ _ _ z => z) (pa_cons (pv 1) (pa_cons (pe_tup (pa_cons pe_int (pa_cons pe_int pa_nil))) pa_nil))) rfl)))))), ?_⟩
  try dsimp only [cxOf, Cx.nox, Cx.wish, Cx.blk]
  refine def_I (K := K) (T := (T_Rule___init__ T.c_BadRule)) (sb_seq (sb_if (st_not (st_B (sn_call0 (sa_cons sn_var sa_nil))))
      (sb_raise sn_str)
      sb_next)
      (sb_seq (sb_setF T.K_Rule T.na_Rule_counts (sn_cb sc_tuple (sa_cons sn_var sa_nil)))
      (sb_seq (sb_setF T.K_Rule T.na_Rule_knots (sn_cb sc_tuple (sa_cons (sn_new (nn_lc2 (si_enum (sa_cons sn_var sa_nil)) (sg_tup (sgs_cons (sg_name (by decide)) (sgs_cons (sg_name (by decide)) sgs_nil))) st_yes (si_rng1 (sa_cons sn_var sa_nil)) (sg_name (by decide)) st_yes (sn_tup (sa_cons sn_var (sa_cons sn_var sa_nil))))) sa_nil)))
      (sb_seq (sb_setF T.K_Rule T.na_Rule_top (sn_op sr_sub (sn_cb sc_len (sa_cons sn_var sa_nil)) sn_int))
      (sb_setF T.K_Rule T.na_Rule_stepped (sn_call (sa_cons sn_var (sa_cons (sn_tup (sa_cons sn_int (sa_cons sn_int sa_nil))) sa_nil)))))))) h (fun ds q x h => by have h2 := hlen ds q x h; exact Nat.le_trans (show ds.length ≤ 1 by omega) (by decide)) (fun ds q x h => ?_)
  have hl0 := hlen _ _ _ h
  match ds, hl0, h with
  | [d0], _, h => ?_
  refine to_ss (b := [.slf T.c_Rule [], .val d0, .no, .no, .no]) rfl ?_
  obtain ⟨hg, hq0, hx⟩ := h
  walk_at "w1"
  refine ⟨hg, ?_⟩
  cases hb : isRb d0 with
  | false =>
    refine brT ?_
    walk_at "wn"
    exact hx hb
  | true =>
    obtain ⟨ns, e, hr'⟩ : ∃ ns, nums d0 = some ns ∧ ruleB ns = true := by
      unfold isRb at hb
      cases e : nums d0 with
      | none => rw [e] at hb; cases hb
      | some ns => rw [e] at hb; exact ⟨ns, rfl, hb⟩
    have hq := hq0 ns e hr'
    clear hq0 hx hb hg
    have co := rule_co hr'
    obtain ⟨l3, l6, lp⟩ := rule_len hr'
    have ct : Po.Ct ns := Po.ct_of_last fun _ => by unfold Po.lastC at lp; omega
    refine brF ?_
    rcases two_of e with rfl | rfl
    all_goals
      walk_at "wn"
      refine ⟨⟨rfl, Nat.le_of_ble_eq_true rfl⟩, ?_⟩
      walk_at "wn"
      unfold wLc2
      walk_at "w1"
      refine ⟨fun i acc t => acc = knotsTo ns i ∧ t = 0, ⟨rfl, rfl⟩, fun i d acc tt hd hI => ?_, fun acc tt hI => ?_⟩
      · obtain ⟨rfl, rfl⟩ := hI
        obtain ⟨hi, rfl⟩ := enum_intsE hd
        walk_at "w1"
        refine ⟨rfl, iteT ?_⟩
        refine ⟨⟨by have := co i; omega, by have := co i; omega⟩, fun j acc t => acc = knotsTo ns i ++ row1 i j ∧ t = 0 ∧ j ≤ 3, ⟨by simp [row1], rfl, by decide⟩, fun j e acc tt he hJ => ?_, fun acc tt hJ => ?_⟩
        · obtain ⟨rfl, rfl, hj⟩ := hJ
          obtain ⟨hj2, rfl⟩ := rangeE_get he
          walk_at "w1"
          have := co i
          have := knots_len (fun i => (co i).2) i
          refine iteT ⟨Nat.le_of_ble_eq_true rfl, ?_, ?_, rfl, by omega⟩
          · rw [List.length_append, row1, List.length_map, List.length_range]; omega
          · rw [List.append_assoc]
            refine congrArg _ ?_
            unfold row1
            rw [List.range_succ, List.map_append]
            rfl
        · obtain ⟨rfl, rfl, hj⟩ := hJ
          rw [rangeE_len]
          exact ⟨rfl, rfl⟩
      · obtain ⟨rfl, rfl⟩ := hI
        rw [enumE_len, List.length_map]
        refine ⟨⟨rfl, Nat.le_of_ble_eq_true rfl⟩, ?_⟩
        walk_at "wn"
        refine ⟨⟨rfl, Nat.le_of_ble_eq_true rfl⟩, ?_⟩
        walk_at "wn"
        refine ⟨Nat.le_of_ble_eq_true rfl, less_ok (b := [0, 1]) e rfl ct (by decide) (by omega) (by decide) ?_⟩
        rw [List.length_map]
        exact ⟨⟨rfl, Nat.le_of_ble_eq_true rfl⟩, _, rfl, hq⟩
/-! ### Rule.read -/
/-- a count of a rule, read at its place -/
def okR (i : Nat) (z : Str) : Bool := decide (i < 6) && match Tx.ctIn z with
  | some c => decide ((if i = 0 ∨ i = 5 then 1 else 0) ≤ c ∧ c ≤ 3)
  | none => false
/-- the first place that cannot stand -/
def badR : Nat → List Str → Option Nat
  | _, [] => none
  | i, z :: r => if okR i z = true then badR (i + 1) r else some i
theorem badR_all : ∀ (items : List Str) (i : Nat), badR i items = none → ∀ (j : Nat) (y : Str), items[j]? = some y → okR (i + j) y = true
  | [], i, _, j, y, h => by simp at h
  | z :: r, i, hb, j, y, h => by
    have hb : (if okR i z = true then badR (i + 1) r else some i) = none := hb
    by_cases ho : okR i z = true
    · rw [if_pos ho] at hb
      match j with
      | 0 =>
        have e : z = y := by simpa using h
        subst e
        exact ho
      | j + 1 =>
        have := badR_all r (i + 1) hb j y (by simpa using h)
        rw [show i + (j + 1) = i + 1 + j by omega]
        exact this
    · rw [if_neg ho] at hb
      cases hb
theorem okR_of {i : Nat} {y : Str} (h : okR i y = true) : (if i = 0 ∨ i = 5 then 1 else 0) ≤ Tx.ctV y ∧ Tx.ctV y ≤ 3 := by
  unfold okR at h
  unfold Tx.ctV
  rw [Bool.and_eq_true] at h
  have h2 := h.2
  cases e : Tx.ctIn y with
  | none => rw [e] at h2; cases h2
  | some c => rw [e] at h2; exact of_decide_eq_true h2
theorem badR_rule {items : List Str} (hb : badR 0 items = none) (l3 : 3 ≤ items.length) (l6 : items.length ≤ 6) (hz : ¬ Po.lastC (items.map Tx.ctV) = 0) : ruleB (items.map Tx.ctV) = true := by
  have all : ∀ (j : Nat) (y : Str), items[j]? = some y → (if j = 0 ∨ j = 5 then 1 else 0) ≤ Tx.ctV y ∧ Tx.ctV y ≤ 3 := fun j y h => by
    have := okR_of (badR_all items 0 hb j y h)
    rw [Nat.zero_add] at this
    exact this
  have co : ∀ j, j < items.length → ∃ y, items[j]? = some y ∧ Po.co (items.map Tx.ctV) j = Tx.ctV y := fun j hj => by
    obtain ⟨y, hy⟩ : ∃ y, items[j]? = some y := ⟨_, List.getElem?_eq_getElem hj⟩
    refine ⟨y, hy, ?_⟩
    unfold Po.co
    rw [List.getD_eq_getElem?_getD, List.getElem?_map, hy]
    rfl
  unfold ruleB
  simp only [Bool.and_eq_true, decide_eq_true_eq, List.all_eq_true, List.length_map]
  refine ⟨⟨⟨⟨l3, l6⟩, fun n hn => ?_⟩, ?_⟩, ?_⟩
  · obtain ⟨y, hy, rfl⟩ := List.mem_map.mp hn
    obtain ⟨j, hj⟩ := List.getElem?_of_mem hy
    have := all j y hj
    refine ⟨?_, this.2⟩
    have h1 := this.1
    split at h1 <;> omega
  · obtain ⟨y, hy, e⟩ := co 0 (by omega)
    rw [e]
    have := (all 0 y hy).1
    rw [if_pos (.inl rfl)] at this
    omega
  · unfold Po.lastC at hz ⊢
    rw [List.length_map] at hz ⊢
    obtain ⟨y, hy, e⟩ := co (items.length - 1) (by omega)
    rw [e] at hz ⊢
    have h1 := (all _ y hy).1
    split at h1 <;> omega
def rdR (items : List Str) : Nat ⊕ List Int := match badR 0 items with
  | some i => .inl i
  | none => if items.length < 3 then .inl items.length else if Po.lastC (items.map Tx.ctV) = 0 then .inl (items.length - 1) else .inr (items.map Tx.ctV)
def T_Rule_read (B C : Addr) : Tp := fun ds q x => match ds with
  | [.str z] => z.length ≤ 16000000 ∧ (∀ y ∈ Txt.split z Tx.blank, y.length ≤ 90000) ∧ (match rdR (Txt.split z Tx.blank) with
    | .inl i => x ⟨B, [("item", .int (i : Nat)), ("line", .int 0)]⟩
    | .inr ns => q (.obj C (ruleF ns)))
  | [d] => (plainD d = true ∧ isTy d "str" = false) ∧ x ⟨B, [("item", .int 0), ("line", .int 0)]⟩
  | _ => False
theorem ok_Rule_read (T : Txt K mg) : FnOk P w K mg base (L2.CX P w) 8 T.a_Rule_read T.d_Rule_read ["text"] (spT K (T_Rule_read T.c_BadText T.c_Rule)) := by
  have G_items_of := ok_items_of (P := P) (w := w) (base := base) T
  have G_Rule___init__ := ok_Rule___init__ (P := P) (w := w) (base := base) T
  have G_count_in := ok_count_in (P := P) (w := w) (base := base) T
  have G_BadText___init__ := ok_BadText___init__ (P := P) (w := w) (base := base) T
  have G_is_within := ok_is_within (P := P) (w := w) (base := base) T
  have hlen : ∀ ds q x, (T_Rule_read T.c_BadText T.c_Rule) ds q x → ds.length = 1 := fun ds q x h => by unfold T_Rule_read at h; split at h <;> first | rfl | exact h.elim
  refine T.F_Rule_read.okX sc_Rule_read (fun vs H Q E h => spT_len h hlen) (fun cdv A outer s H vs Q E hr h => ?body)
  refine ⟨_, (pss_cons (ps_set (i := 1) sc_Rule_read.nd rfl (.inl rfl) (pe_call G_items_of (hr.mono (by decide)) (by rfl) T.g_items_of T.F_items_of.kp T.b_items_of .nil (passes_call (takes_of rfl rfl rfl rfl) fun _ _ _ _ z => z) (pa_cons (pv 0) pa_nil)))
      (pss_cons (ps_set (i := 2) sc_Rule_read.nd rfl (.inl rfl) (pe_lst pa_nil))
      (pss_cons (ps_for (passes_of rfl) rfl (pi_enumM (by rfl) T.n_enumerate (pa_cons (pv 1) pa_nil)) (pg_tup rfl (pgs_cons (pg_name (i := 3) sc_Rule_read.nd rfl (.inl rfl)) (pgs_cons (pg_name (i := 4) sc_Rule_read.nd rfl (.inl rfl)) pgs_nil)))
      (pss_cons (ps_set (i := 5) sc_Rule_read.nd rfl (.inl rfl) (pe_call G_count_in (hr.mono (by decide)) (by rfl) T.g_count_in T.F_count_in.kp T.b_count_in .nil pass0 (pa_cons (pv 4) pa_nil)))
      (pss_cons (ps_set (i := 6) sc_Rule_read.nd rfl (.inl rfl) (pe_ifExp (pt_cmpR op_in_seq (pv 3) (pe_tup (pa_cons pe_int (pa_cons (pe_op op_subA (_root_.E.pe_gint rfl T.v_MOST_COUNTS) pe_int) pa_nil))) (by rfl)) pe_int pe_int))
      (pss_cons (ps_if (PW.pt (pw_or (pt_cmpR op_geA (pv 3) (_root_.E.pe_gint rfl T.v_MOST_COUNTS) (nomark _)) (pw_or1 (pt_not (pt_val (pe_call G_is_within (hr.mono (by decide)) (by rfl) T.g_is_within T.F_is_within.kp T.b_is_within .nil pass0 (pa_cons (pv 5) (pa_cons (pv 6) (pa_cons (_root_.E.pe_gint rfl T.v_MOST_SORTS) pa_nil)))))))))
      (pss_one (ps_raise rfl (takes_of rfl rfl rfl rfl) (pmk_oex T.E_BadText.oe T.i_BadText T.ti_BadText G_BadText___init__ (hr.mono (by decide)) T.b_BadText___init__ .nil pass0 (by rfl) T.gC_BadText (pa_cons pe_int (pa_cons (pv 3) pa_nil)))))
      pss_nil)
      (PSs.nox (pss_one (ps_expr (pe_bm PySem.F.plainAttrs_list PySem.F.slot_list_append PySem.F.type_list_append mt_append (pv 2) (pa_cons (pv 5) pa_nil)))))))))
      (pss_cons (ps_if (pt_cmpR op_ltA (pe_callB call_lenA (by rfl) T.n_len (by decide +kernel) (pa_cons (pv 2) pa_nil)) (_root_.E.pe_gint rfl T.v_LEAST_COUNTS) (nomark _))
      (pss_one (ps_raise rfl (takes_of rfl rfl rfl rfl) (pmk_oex T.E_BadText.oe T.i_BadText T.ti_BadText G_BadText___init__ (hr.mono (by decide)) T.b_BadText___init__ .nil pass0 (by rfl) T.gC_BadText (pa_cons pe_int (pa_cons (pe_callB call_lenA (by rfl) T.n_len (by decide +kernel) (pa_cons (pv 2) pa_nil)) pa_nil)))))
      pss_nil)
      (pss_cons (ps_if (pt_cmpR (op_eqD hr.units) (pe_ix ix_seq (pv 2) (pe_un un_neg pe_int) (fun _ _ => rfl)) pe_int (nomark _))
      (pss_one (ps_raise rfl (takes_of rfl rfl rfl rfl) (pmk_oex T.E_BadText.oe T.i_BadText T.ti_BadText G_BadText___init__ (hr.mono (by decide)) T.b_BadText___init__ .nil pass0 (by rfl) T.gC_BadText (pa_cons pe_int (pa_cons (pe_op op_subA (pe_callB call_lenA (by rfl) T.n_len (by decide +kernel) (pa_cons (pv 2) pa_nil)) pe_int) pa_nil)))))
      pss_nil)
      (pss_one (ps_ret (pe_make T.M_Rule G_Rule___init__ (hr.mono (by decide)) (by rfl) T.gC_Rule T.b_Rule___init__ .nil (passes_call (takes_of rfl rfl rfl rfl) fun _ _ _ _ z => z) (pa_cons (pv 2) pa_nil))))))))), ?_⟩
  try dsimp only [cxOf, Cx.nox, Cx.wish, Cx.blk]
  refine def_T (K := K) (T := (T_Rule_read T.c_BadText T.c_Rule)) (sb_seq (sb_asg (vs := [1]) (sn_call (sa_cons sn_var sa_nil)) (sg_name (by decide)))
      (sb_seq (sb_own (nn_lst sa_nil))
      (sb_seq (sb_for (vs := [3, 4]) (si_enum (sa_cons sn_var sa_nil)) (sg_tup (sgs_cons (sg_name (by decide)) (sgs_cons (sg_name (by decide)) sgs_nil)))
      (sb_seq (sb_asg (vs := [5]) (sn_call0 (sa_cons sn_var sa_nil)) (sg_name (by decide)))
      (sb_seq (sb_asg (vs := [6]) (sn_if (st_test (sn_op sr_inI sn_var (sn_tup (sa_cons sn_int (sa_cons (sn_op sr_sub sn_int sn_int) sa_nil))))) sn_int sn_int) (sg_name (by decide)))
      (sb_seq (sb_if (st_or (st_test (sn_op sr_ge sn_var sn_int)) (st_not (st_B (sn_call0 (sa_cons sn_var (sa_cons sn_var (sa_cons sn_int sa_nil)))))))
      (sb_raise2 sn_int sn_var)
      sb_next)
      (sb_append sn_var)))))
      (sb_seq (sb_ifZ (st_test (sn_op sr_lt (sn_cb sc_len (sa_cons sn_var sa_nil)) sn_int))
      (sb_frz (i := 2) (sb_raise2 sn_int (sn_cb sc_len (sa_cons sn_var sa_nil))))
      sb_next)
      (sb_seq (sb_ifZ (st_test (sn_op sr_eq (sn_op sr_ix sn_var (sn_un su_neg sn_int)) sn_int))
      (sb_frz (i := 2) (sb_raise2 sn_int (sn_op sr_sub (sn_cb sc_len (sa_cons sn_var sa_nil)) sn_int)))
      sb_next)
      (sb_retZ (sn_make (sa_cons sn_var sa_nil)))))))) h (fun ds q x h => by have h2 := hlen ds q x h; exact Nat.le_trans (show ds.length ≤ 1 by omega) (by decide)) (fun ds q x h => ?_)
  have hl0 := hlen _ _ _ h
  match ds, hl0, h with
  | [d0], _, h => ?_
  refine to_ss (b := [.val d0, .no, .no, .no, .no, .no, .no]) rfl ?_
  cases d0 with
  | str z =>
    obtain ⟨hl, hle, hq⟩ := h
    walk_at "w1"
    refine ⟨hl, ?_⟩
    walk_at "wn"
    refine ⟨Nat.le_of_ble_eq_true rfl, ?_⟩
    walk_at "wn"
    obtain ⟨items, hit⟩ : ∃ items, items = Txt.split z Tx.blank := ⟨_, rfl⟩
    have hne : items ≠ [] := hit ▸ Tx.split_ne z
    rw [← hit] at hq hle ⊢
    clear hit
    refine ⟨fun i ss t => ∃ x3 x4 x5 x6, ss = [.val (.str z), .val (.lst (items.map .str)), .own (((items.take i).map Tx.ctV).map .int), x3, x4, x5, x6] ∧ t = 0 ∧ badR 0 items = badR i (items.drop i) ∧ i ≤ 6, ⟨.no, .no, .no, .no, by rw [List.take_zero]; rfl, rfl, by rw [List.drop_zero], by decide⟩, fun i d ss tt hd hI => ?_, fun ss tt hI => ?_⟩
    · obtain ⟨x3, x4, x5, x6, rfl, rfl, hb, h6⟩ := hI
      obtain ⟨e, he, rfl⟩ := enumE_at hd
      rw [List.getElem?_map] at he
      obtain ⟨y, hy, rfl⟩ := Option.map_eq_some_iff.mp he
      have hil : i < items.length := (List.getElem?_eq_some_iff.mp hy).1
      have hmem : y ∈ items := List.mem_of_getElem? hy
      have edrop : items.drop i = y :: items.drop (i + 1) := by
        rw [List.drop_eq_getElem_cons hil]
        congr 1
        exact (List.getElem?_eq_some_iff.mp hy).2
      rw [edrop] at hb
      walk_at "w1"
      refine ⟨rfl, hle y hmem, ?_⟩
      walk_at "wn"
      refine ⟨Nat.le_of_ble_eq_true rfl, on_some rfl ?_⟩
      have hx : badR 0 items = some i → x ⟨T.c_BadText, [("item", .int (i : Nat)), ("line", .int 0)]⟩ := fun z => by
        unfold rdR at hq
        rw [z] at hq
        exact hq
      by_cases h05 : i = 0 ∨ i = 5
      case' pos =>
        have hk : okR i y = (decide (i < 6) && match Tx.ctIn y with | some c => decide (1 ≤ c ∧ c ≤ 3) | none => false) := by unfold okR; rw [if_pos h05]
        rw [decide_eq_true (show ((i : Nat) : Int) ∈ [(0 : Int), 6 - 1] by rcases h05 with z | z <;> subst z <;> decide)]
        refine iteT ?_
      case' neg =>
        have hk : okR i y = (decide (i < 6) && match Tx.ctIn y with | some c => decide (0 ≤ c ∧ c ≤ 3) | none => false) := by unfold okR; rw [if_neg h05]
        rw [decide_eq_false (show ¬ ((i : Nat) : Int) ∈ [(0 : Int), 6 - 1] by simp only [List.mem_cons, List.mem_nil_iff, or_false]; omega)]
        refine iteF ?_
      all_goals
        walk_at "wn"
        have hx2 : okR i y = false → x ⟨T.c_BadText, [("item", .int (i : Nat)), ("line", .int 0)]⟩ := fun z => hx (by rw [hb]; unfold badR; rw [z]; rfl)
        by_cases h66 : i < 6
        · rw [decide_eq_true h66, Bool.true_and] at hk
          rw [decide_eq_false (show ¬ (6 : Int) ≤ ((i : Nat) : Int) by omega)]
          refine iteF ?_
          cases hc : Tx.ctIn y with
          | none =>
            rw [hc] at hk
            refine ⟨rfl, _, _, rfl, rfl, ?_⟩
            refine brT ?_
            walk_at "wn"
            exact hx2 hk
          | some c =>
            rw [hc] at hk
            refine ⟨rfl, _, _, rfl, rfl, ?_⟩
            dsimp only
            have hw : ∀ L : Int, okR i y = decide (L ≤ c ∧ c ≤ 3) → within (.int c) (some L) (some 3) = okR i y := fun L z => by
              rw [z, Bool.decide_and]; rfl
            rw [hw _ hk]
            cases ho : okR i y with
            | false =>
              refine brT ?_
              walk_at "wn"
              exact hx2 ho
            | true =>
              refine brF ?_
              walk_at "wn"
              have et : items.take (i + 1) = items.take i ++ [y] := by rw [List.take_succ, hy]; rfl
              have ec : Tx.ctV y = c := by unfold Tx.ctV; rw [hc]; rfl
              have eo : ((items.take i).map Tx.ctV).map Dt.int ++ [.int c] = ((items.take (i + 1)).map Tx.ctV).map Dt.int := by
                rw [et, List.map_append, List.map_append, List.map_singleton, List.map_singleton, ec]
              have e1 : badR 0 items = badR (i + 1) (items.drop (i + 1)) := by
                rw [hb]
                show (if okR i y = true then _ else _) = _
                rw [if_pos ho]
              rw [eo]
              exact ⟨by rw [List.length_map, List.length_map, List.length_take]; omega, _, _, _, _, rfl, rfl, e1, by omega⟩
        · rw [decide_eq_false h66, Bool.false_and] at hk
          rw [decide_eq_true (show (6 : Int) ≤ ((i : Nat) : Int) by omega)]
          refine iteT (brT ?_)
          walk_at "wn"
          exact hx2 hk
    · obtain ⟨x3, x4, x5, x6, rfl, rfl, hb, h6⟩ := hI
      rw [enumE_len, List.length_map] at hb h6 ⊢
      rw [List.drop_length, List.take_length] at *
      have hb0 : badR 0 items = none := hb
      have eq0 : rdR items = if items.length < 3 then .inl items.length else if Po.lastC (items.map Tx.ctV) = 0 then .inl (items.length - 1) else .inr (items.map Tx.ctV) := by
        unfold rdR
        rw [hb0]
      rw [eq0] at hq
      walk_at "wn"
      rw [List.length_map, List.length_map]
      have hlt : ((items.map Tx.ctV).map Dt.int).length = items.length := by rw [List.length_map, List.length_map]
      by_cases l3 : items.length < 3
      · rw [if_pos l3] at hq
        rw [decide_eq_true (show ((items.length : Nat) : Int) < 3 by omega)]
        refine brT ?_
        walk_at "wn"
        rw [hlt]
        exact hq
      · rw [if_neg l3] at hq
        rw [decide_eq_false (show ¬ ((items.length : Nat) : Int) < 3 by omega)]
        refine brF ?_
        walk_at "wn"
        have hm : items.map Tx.ctV ≠ [] := fun z => hne (List.map_eq_nil_iff.mp z)
        refine on_some (atD_lastI hm) ?_
        refine on_some eqD_int ?_
        show wBr (decide (Po.lastC (items.map Tx.ctV) = 0)) _ _ _ _ _
        by_cases hz : Po.lastC (items.map Tx.ctV) = 0
        · rw [if_pos hz] at hq
          rw [decide_eq_true hz]
          refine brT ?_
          walk_at "wn"
          rw [hlt]
          have ei : ((items.length : Nat) : Int) - 1 = ((items.length - 1 : Nat) : Int) := by omega
          rw [ei]
          exact hq
        · rw [if_neg hz] at hq
          rw [decide_eq_false hz]
          refine brF ?_
          walk_at "wn"
          refine rule_ok (ns := items.map Tx.ctV) nums_l (badR_rule hb0 (by omega) h6 hz) ?_
          exact ⟨nlF_rule, hq⟩
  | _ =>
    obtain ⟨⟨h1, h2⟩, h3⟩ := h
    walk_at "w1"
    exact ⟨⟨h1, h2⟩, h3⟩
/-! ### Rule.__str__ -/
--@ self:Rule
/-- numbers, told with blanks between -/
def numsT (ns : List Int) : Str := Txt.join Tx.blank (ns.map Tx.num)
theorem nums_len {a : List Int} (hc : ∀ n ∈ a, 0 ≤ n ∧ n ≤ 3) (hl : a.length ≤ 6) : ((a.map Tx.num).map (·.length)).sum + (a.map Tx.num).length * (Str.ofString " ").length ≤ 16777216 := by
  have h2 : ((a.map Tx.num).map (·.length)).sum ≤ 6 * a.length := by
    clear hl
    induction a with
    | nil => decide
    | cons n r ih =>
      have := ih fun m hm => hc m (List.mem_cons_of_mem _ hm)
      have := Tx.num_len (n := n) (k := 1) (hc n List.mem_cons_self).1 (by decide) (by have := (hc n List.mem_cons_self).2; omega)
      simp only [List.map_cons, List.sum_cons, List.length_cons]
      omega
  have h3 : (Str.ofString " ").length = 1 := by decide +kernel
  rw [h3, List.length_map]
  omega
def T_Rule___str__ (C : Addr) : Tp := fun ds q _ => match ds with
  | [d] => ∃ (fs : List (Str × Dt)) (a : List Int), d = .obj C fs ∧ fs.lookup ("counts" : Str) = some (tI a) ∧ (a.length ≤ 6 ∧ ∀ n ∈ a, 0 ≤ n ∧ n ≤ 3) ∧ q (.str (numsT a))
  | _ => False
theorem ok_Rule___str__ (T : Txt K mg) : FnOk P w K mg base CX0 1 T.a_Rule___str__ T.d_Rule___str__ ["self"] (spT K (T_Rule___str__ T.c_Rule)) := by
  have hlen : ∀ ds q x, (T_Rule___str__ T.c_Rule) ds q x → ds.length = 1 := fun ds q x h => by unfold T_Rule___str__ at h; split at h <;> first | rfl | exact h.elim
  refine T.F_Rule___str__.ok sc_Rule___str__ (fun vs H Q E h => spT_len h hlen) (fun cdv A outer s H vs Q E hr h => ?body)
  refine ⟨_, (pss_one (ps_ret (_root_.E.pe_joinE (K := K) rfl pe_str (pe_lc (own := [("count", 1)]) rfl sc_Rule___str__.nd (pi_seqM (pe_fld (pv 0) rfl)) (blkOk_by (own := [("count", 1)]) (N := N_Rule___str__) (sc := defScope s_Rule___str__) (by decide +kernel)) (fun _ _ _ _ _ => (pg_name (i := 1) sc_Rule___str__.nd rfl (.inl rfl))) (fun _ _ _ _ _ => pts_nil) (fun _ _ _ _ _ => (pe_callTy _root_.E.call_strI (by rfl) T.n_str (by decide +kernel) (pa_cons (pv 1) pa_nil))))))), ?_⟩
  try dsimp only [cxOf, Cx.nox, Cx.wish, Cx.blk]
  refine def_T0 (K := K) (T := (T_Rule___str__ T.c_Rule)) (sb_ret (sn_m1 sm_join sn_str (sn_new (nn_lc (si_seq (sn_fld T.K_Rule T.na_Rule_counts sn_var)) (sg_name (by decide)) st_yes (sn_cb sc_strI (sa_cons sn_var sa_nil)))))) h (fun ds q x h => by have h2 := hlen ds q x h; exact Nat.le_trans (show ds.length ≤ 1 by omega) (by decide)) (fun ds q x h => ?_)
  have hl0 := hlen _ _ _ h
  match ds, hl0, h with
  | [d0], _, h => ?_
  refine to_ss (b := [.val d0, .no]) rfl ?_
  obtain ⟨fs, a, rfl, h1, ⟨hl, hc⟩, hq⟩ := h
  walk_at "w1"
  have el : (a.map Dt.int).map (fun d => match d with | .int j => Dt.str (Tx.num j) | d => d) = (a.map Tx.num).map .str := by
    rw [List.map_map, List.map_map]; rfl
  refine lc_map' (ds := a.map Dt.int) (fun d => match d with | .int j => Dt.str (Tx.num j) | d => d) (fun k hk => ⟨rfl, on_some h1 hk⟩) (by rw [List.length_map]; omega) (fun d k hd hk => ?_) ?_
  · obtain ⟨j, hj, rfl⟩ := List.mem_map.mp hd
    have := hc j hj
    walk_at "w1"
    exact ⟨by
      have e : j.natAbs ≤ 3 := by omega
      exact Nat.lt_of_le_of_lt e (by decide +kernel), hk⟩
  · rw [el]
    exact on_some (unS_map _) ⟨nums_len hc hl, hq⟩
/-! ### Rule.__eq__ -/
--@ self:Rule other:Rule
def T_Rule___eq__ (C : Addr) : Tp := fun ds q _ => match ds with
  | [d, e] => ∃ (fs : List (Str × Dt)) (a : List Int), d = .obj C fs ∧ fs.lookup ("counts" : Str) = some (tI a) ∧ ((∃ (gs : List (Str × Dt)) (b : List Int), e = .obj C gs ∧ gs.lookup ("counts" : Str) = some (tI b) ∧ q (.bl (decide (a = b)))) ∨ ((∃ ds, e = .tup ds) ∨ ∃ z, e = .str z) ∧ q (.bl false))
  | _ => False
theorem ok_Rule___eq__ (T : Txt K mg) : FnOk P w K mg base CX0 1 T.a_Rule___eq__ T.d_Rule___eq__ ["self", "other"] (spT K (T_Rule___eq__ T.c_Rule)) := by
  have hlen : ∀ ds q x, (T_Rule___eq__ T.c_Rule) ds q x → ds.length = 2 := fun ds q x h => by unfold T_Rule___eq__ at h; split at h <;> first | rfl | exact h.elim
  refine T.F_Rule___eq__.ok sc_Rule___eq__ (fun vs H Q E h => spT_len h hlen) (fun cdv A outer s H vs Q E hr h => ?body)
  refine ⟨_, (pss_one (ps_ret (pe_and (pe_callB call_isiE (by rfl) T.n_isinstance (by decide +kernel) (pa_cons (pv 1) (pa_cons (C8.pe_gc (v := .ref T.c_Rule) rfl ⟨_, T.gC_Rule, rfl⟩) pa_nil))) (pe_one (pe_cmpR (op_eqD hr.units) (pe_fld (pv 0) rfl) (pe_fld (pv 1) rfl) (nomark _)))))), ?_⟩
  try dsimp only [cxOf, Cx.nox, Cx.wish, Cx.blk]
  refine def_T0 (K := K) (T := (T_Rule___eq__ T.c_Rule)) (sb_ret (sn_andV (sn_cb sc_isi (sa_cons sn_var (sa_cons sn_cls sa_nil))) (sn_op sr_eq (sn_fld T.K_Rule T.na_Rule_counts sn_var) (sn_fld T.K_Rule T.na_Rule_counts sn_var)))) h (fun ds q x h => by have h2 := hlen ds q x h; exact Nat.le_trans (show ds.length ≤ 2 by omega) (by decide)) (fun ds q x h => ?_)
  have hl0 := hlen _ _ _ h
  match ds, hl0, h with
  | [d0, d1], _, h => ?_
  refine to_ss (b := [.val d0, .val d1]) rfl ?_
  obtain ⟨fs, a, rfl, h1, ⟨gs, b, rfl, h2, hq⟩ | ⟨⟨ds, rfl⟩ | ⟨z, rfl⟩, hq⟩⟩ := h
  · walk_at "w1"
    refine isi_obj T.O_Rule.obj T.k_Rule_Rule ?_
    exact iteT ⟨rfl, on_some h1 ⟨rfl, on_some h2 (on_some eqD_tI hq)⟩⟩
  · walk_at "w1"
    exact isi_mk _ _ false rfl rfl T.kt_tuple_Rule (fun _ _ z => (by cases z)) (fun _ _ z => (by cases z)) (iteF hq)
  · walk_at "w1"
    exact isi_mk _ _ false rfl rfl T.kt_str_Rule (fun _ _ z => (by cases z)) (fun _ _ z => (by cases z)) (iteF hq)
/-! ### _law_pen -/
theorem ok__law_pen (T : Txt K mg) : FnOk P w K mg base CX0 1 T.a__law_pen T.d__law_pen ["script"] (spN K Tpen) := by
  have hlen : ∀ ds q, Tpen ds q → ds.length = 1 := fun ds q h => by unfold Tpen at h; split at h <;> first | rfl | exact h.elim
  refine T.F__law_pen.ok sc__law_pen (fun vs H Q E h => spN_len h hlen) (fun cdv A outer s H vs Q E hr h => ?body)
  refine ⟨_, (pss_one (ps_ret (pe_lst (pa_cons (pe_lc (own := [("cell", 1)]) rfl sc__law_pen.nd (pi_seqM (pe_slice sl_anyA (pv 0) po_none (po_some pe_int))) (blkOk_by (own := [("cell", 1)]) (N := N__law_pen) (sc := defScope s__law_pen) (by decide +kernel)) (fun _ _ _ _ _ => (pg_name (i := 1) sc__law_pen.nd rfl (.inl rfl))) (fun _ _ _ _ _ => pts_nil) (fun _ _ _ _ _ => (pe_callTy call_intA (by rfl) T.n_int (by decide +kernel) (pa_cons (pv 1) pa_nil)))) (pa_cons pe_int (pa_cons pe_int pa_nil)))))), ?_⟩
  try dsimp only [cxOf, Cx.nox, Cx.wish, Cx.blk]
  refine def_N (K := K) (T := Tpen) (nn_lst (sa_cons (sn_new (nn_lc (si_seq (sn_sl ss_cut sn_var so_none (so_some sn_int))) (sg_name (by decide)) st_yes (sn_cb sc_int (sa_cons sn_var sa_nil)))) (sa_cons sn_int (sa_cons sn_int sa_nil)))) h (fun ds q h => by have h2 := hlen ds q h; exact Nat.le_trans (show ds.length ≤ 1 by omega) (by decide)) (fun ds q h => ?_)
  have hl0 := hlen _ _ h
  match ds, hl0, h with
  | [d0], _, h => ?_
  refine to_ssN (b := [.val d0, .no]) rfl ?_
  obtain ⟨ns, rfl, hl, hq⟩ := h
  walk_at "wp"
  have ec : cutE (ns.map .int) none (some 60) = (ns.take 60).map .int := by
    unfold cutE
    rw [HT.sIx_none, show (60 : Int) = ((60 : Nat) : Int) from rfl, HT.sIx_nat, List.length_map, List.drop_zero, Nat.sub_zero, ← List.map_take]
    by_cases h : 60 ≤ ns.length
    · rw [Nat.min_eq_left h]
    · rw [Nat.min_eq_right (by omega), List.take_length, List.take_of_length_le (by omega)]
  refine lc_map' (ds := (ns.take 60).map .int) id (fun k hk => ?_) (by rw [List.length_map, List.length_take]; omega) (fun d k hd hk => ?_) ?_
  · walk_at "wp"
    rw [ec]
    exact hk
  · obtain ⟨i, _, rfl⟩ := List.mem_map.mp hd
    exact hk
  · rw [List.map_id]
    exact ⟨Nat.le_of_ble_eq_true rfl, hq⟩
/-! ### _law_draw -/
def pInt (m : Int) : V → Hp → Prop := fun v _ => ∃ i : Int, v = .int i ∧ 0 ≤ i ∧ i < m
def R__law_draw (K : PySem.W.Frag) : List Ty → (V → Hp → Prop) → Prop := fun Ts P => ∃ m, Ts = [TD K (.int m)] ∧ 0 < m ∧ m < 1000000000000000000000000000000 ∧ P = pInt m
theorem ok0__law_draw (T : Txt K mg) : FnOk P w K mg base CX0 1 T.a__law_draw T.d__law_draw ["pen", "many"] (spPen K 1 (R__law_draw K)) := by
  skip
  refine T.F__law_draw.ok sc__law_draw (fun vs H Q E h => ?len) (fun cdv A outer s H vs Q E hr h => ?body)
  case len => exact spPen_len h (by rintro _ _ ⟨_, rfl, _⟩; rfl)
  case body =>
    obtain ⟨F, p, c, cells, t, r, ws, Ts, P, rfl, e, hF, hH, hc, ht0, htn, hr0, hv, ⟨m, rfl, hm0, hm1, rfl⟩, hQ⟩ := h
    have s := S.startP (N := N__law_draw) [some (TX (.ref p)), some (TD K (.int m)), none, none, none, none, none] e hF hH hc hv
    have hmd : ∀ i, CDivA i m := fun i => cdiv_of (b := 100) (by omega) (by omega) (by decide) (by decide)
    have hml := hc.2
    refine ⟨_, (pss_cons (ps_if (pt_cmpR op_gtA (pe_ix ix_seq (pv 0) pe_int (fun _ _ => rfl)) pe_int (nomark _))
      (pss_cons (ps_set (i := 2) sc__law_draw.nd rfl (.inl rfl) (pe_op op_modA (pe_callTy call_intA (by rfl) T.n_int (by decide +kernel) (pa_cons (pe_ix ix_seq (pv 0) pe_int (fun _ _ => rfl)) pa_nil)) (pv 1)))
      (pss_cons (ps_asg (pe_op op_divA (pe_callTy call_intA (by rfl) T.n_int (by decide +kernel) (pa_cons (pe_ix ix_seq (pv 0) pe_int (fun _ _ => rfl)) pa_nil)) (pv 1)) (pg_sub (pv 0) pe_int set_list))
      (pss_one (ps_ret (pv 2)))))
      pss_nil)
      (pss_cons (ps_set (i := 3) sc__law_draw.nd rfl (.inl rfl) (pe_ix ix_seq (pv 0) pe_int (fun _ _ => rfl)))
      (pss_cons (ps_asg (pe_op op_addA (pv 3) pe_int) (pg_sub (pv 0) pe_int set_list))
      (pss_cons (ps_set (i := 4) sc__law_draw.nd rfl (.inl rfl) (pe_op op_addA (pe_op op_mulAll pe_int (pv 3)) pe_int))
      (pss_cons (ps_if (pt_cmpR (op_neD hr.units) (pe_ix ix_seq (pv 0) pe_int (fun _ _ => rfl)) (pe_lst pa_nil) (nomark _))
      (pss_one (ps_set (i := 4) sc__law_draw.nd rfl (.inl rfl) (pe_ix ix_seq (pe_ix ix_seq (pv 0) pe_int (fun _ _ => rfl)) (pe_op op_modA (pe_callTy call_intA (by rfl) T.n_int (by decide +kernel) (pa_cons (pv 3) pa_nil)) (pe_callB call_lenA (by rfl) T.n_len (by decide +kernel) (pa_cons (pe_ix ix_seq (pv 0) pe_int (fun _ _ => rfl)) pa_nil))) (fun _ _ => rfl))))
      pss_nil)
      (pss_cons (ps_if (PW.pt (pw_and (pt_cmpR op_ltA (pv 3) (pe_callB call_lenA (by rfl) T.n_len (by decide +kernel) (pa_cons (pe_ix ix_seq (pv 0) pe_int (fun _ _ => rfl)) pa_nil)) (nomark _)) (pw_and1 (pt_cmpR op_geA (pe_callB call_absA (by rfl) T.n_abs (by decide +kernel) (pa_cons (pv 4) pa_nil)) (pe_op op_powA pe_int pe_int) (nomark _)))))
      (pss_cons (ps_set (i := 5) sc__law_draw.nd rfl (.inl rfl) (pe_op op_addA (pe_op op_mulAll pe_int (pe_op op_subA (pe_callB call_absA (by rfl) T.n_abs (by decide +kernel) (pa_cons (pv 4) pa_nil)) (pe_op op_powA pe_int pe_int))) (pe_callTy call_intA (by rfl) T.n_int (by decide +kernel) (pa_cons (pe_cmpR op_ltA (pv 4) pe_int (nomark _)) pa_nil))))
      (pss_cons (ps_asg (pe_op op_divA (pe_callTy call_intA (by rfl) T.n_int (by decide +kernel) (pa_cons (pv 5) pa_nil)) (pv 1)) (pg_sub (pv 0) pe_int set_list))
      (pss_one (ps_ret (pe_op op_modA (pe_callTy call_intA (by rfl) T.n_int (by decide +kernel) (pa_cons (pv 5) pa_nil)) (pv 1))))))
      pss_nil)
      (pss_cons (ps_set (i := 6) sc__law_draw.nd rfl (.inl rfl) (pe_op op_modA (pe_callTy call_intA (by rfl) T.n_int (by decide +kernel) (pa_cons (pe_op op_powA (pe_op op_addA (pe_op op_addA (pe_op op_modA (pe_callTy call_intA (by rfl) T.n_int (by decide +kernel) (pa_cons (pv 4) pa_nil)) pe_int) (pe_op op_mulAll pe_int (pv 3))) pe_int) pe_int) pa_nil)) pe_int))
      (pss_cons (ps_set (i := 6) sc__law_draw.nd rfl (.inl rfl) (pe_op op_modA (pe_callTy call_intA (by rfl) T.n_int (by decide +kernel) (pa_cons (pe_op op_powA (pe_op op_addA (pe_op op_addA (pe_op op_mulAll (pv 6) (pe_op op_addA (pe_op op_mulAll pe_int (pv 3)) pe_int)) (pe_op op_mulAll (pe_op op_mulAll pe_int (pv 3)) (pv 3))) pe_int) pe_int) pa_nil)) pe_int))
      (pss_one (ps_ret (pe_op op_modA (pe_callTy call_intA (by rfl) T.n_int (by decide +kernel) (pa_cons (pe_op op_divA (pv 6) pe_int) pa_nil)) (pv 1)))))))))))), ?_⟩
    try dsimp only [cxOf, Cx.nox, Cx.wish, Cx.blk]
    have back : ∀ (t' r' i : Int) (F2 H2 : Hp) (σ : L2.St) (ss : List Sl) (W : List Fact), S [p] W F H F2 H2 σ ss [(p, penO c t' r')] → 0 ≤ t' → t' ≤ t + 1 → 0 ≤ r' → 0 ≤ i → i < m → Q (.int i) H2 := fun t' r' i F2 H2 σ ss W s a1 a2 a3 a4 a5 =>
      hQ _ F2 H2 t' r' s.gr (s.mem (k := 0) rfl).1 (s.mem (k := 0) rfl).2.1 a1 a2 a3 ⟨i, rfl, a4, a5⟩
    walk_at "q"
    refine s_if (b := decide (0 < r)) s ?_ (fun hb H s => ?_) (fun hb H s => s_next ?_)
    · have E := s.lookL (K := K) (i := 0) (k := 0) s.envH rfl rfl
      exact et_test (ev_op (ev_op (ev_var E rfl) ev_int (rv_ixX (T3 := TD K (.int r)) rfl (fun _ _ => .int _))) ev_int rv_gt)
    · walk_at "q"
      have m0 : 0 ≤ r.fmod m ∧ r.fmod m < m := by
        rw [Int.fmod_eq_emod_of_nonneg _ (by omega)]
        exact ⟨Int.emod_nonneg _ (by omega), Int.emod_lt_of_pos _ hm0⟩
      refine s_asgI (K := K) (n := r.fmod m) s ?_ fun H s => ?_
      · have E := s.lookL (K := K) (i := 0) (k := 0) s.envH rfl rfl
        exact ev_op (ev_cb (ea_cons (ev_op (ev_var E rfl) ev_int (rv_ixX (T3 := TD K (.int r)) rfl (fun _ _ => .int _))) ea_nil) rc_int) (ev_var E rfl) (rv_mod (by omega))
      walk_at "q"
      refine s_setI (K := K) (i := 0) (k := 0) (j := 2) (n := r.fdiv m) s rfl rfl ?_ (fun H' e' => ev_int) (by show 2 < 3; decide) fun H s => ?_
      · have E := s.lookL (K := K) (i := 0) (k := 0) s.envH rfl rfl
        exact ev_op (ev_cb (ea_cons (ev_op (ev_var E rfl) ev_int (rv_ixX (T3 := TD K (.int r)) rfl (fun _ _ => .int _))) ea_nil) rc_int) (ev_var E rfl) (rv_divW (hmd _))
      dsimp only
      refine s_retR (m := m) s ?_ fun i F H h0 h1 s => ?_
      · exact ev_weak (T := TD K (.int (r.fmod m))) (ev_var s.env rfl) fun v F' _ hv => ⟨_, dp_int hv, m0.1, m0.2⟩
      · exact back t (r.fdiv m) i F H _ _ _ s ht0 (by omega) (by rw [Int.fdiv_eq_ediv_of_nonneg r (by omega)]; exact Int.ediv_nonneg hr0 (by omega)) h0 h1
    walk_at "q"
    refine s_asgI (K := K) (n := t) s ?_ fun H s => ?_
    · have E := s.lookL (K := K) (i := 0) (k := 0) s.envH rfl rfl
      exact ev_op (ev_var E rfl) ev_int (rv_ixX rfl (fun _ _ => .int _))
    walk_at "q"
    refine s_setI (K := K) (i := 0) (k := 0) (j := 1) (n := t + 1) s rfl rfl (ev_op (ev_var s.envH rfl) ev_int rv_add) (fun H' e' => ev_int) (by show 1 < 3; decide) fun H s => ?_
    walk_at "q"
    refine s_asgZ (K := K) s (ez_of (ev_op (ev_op (ev_int (K := K)) (ev_var s.env rfl) (rv_mulB (.inl (.inl (by constructor <;> omega))))) ev_int rv_add)) fun x F2 H s => ?_
    have s : S [p] [fCell K c cells] F _ F2 H _ [some (TX (.ref p)), some (TD K (.int m)), none, some (TD K (.int t)), some (TD K (.int x)), none, none] [(p, penO c (t + 1) r)] := s
    walk_at "q"
    apply join (fun σ H2 => ∃ (x : Int) (F2 : Hp), S [p] [fCell K c cells] F _ F2 H2 σ [some (TX (.ref p)), some (TD K (.int m)), none, some (TD K (.int t)), some (TD K (.int x)), none, none] [(p, penO c (t + 1) r)])
    · intro fin
      have hcl := s.mrk _ List.mem_cons_self
      have E := s.lookL (K := K) (i := 0) (k := 0) s.envH rfl rfl
      refine s_if (b := !decide (cells = [])) s ?_ (fun hb H s => ?_) (fun hb H s => s_next ?_)
      · rw [← eqv_lstI]
        exact et_test (ev_op (ev_op (ev_var E rfl) ev_int (rv_ixX (T3 := TD K (lstI cells)) rfl fun F' e' => .lst (same_l (s.fh.trans e') hcl.1) (dpAll_ints cells))) (ev_lst (ds := []) ea_nil (by decide)) (rv_ne sh_lstI sh_nilL))
      · have hne : cells ≠ [] := of_decide_eq_false (by simpa using hb)
        have hl0 : 0 < cells.length := List.length_pos_iff.mpr hne
        have hbd := fmod_bd (x := t) (m := (cells.length : Int)) (by omega)
        have eN : t.fmod (cells.length : Int) = ((t.fmod (cells.length : Int)).toNat : Int) := by omega
        have hx : atI cells (t.fmod (cells.length : Int)) = some (Po.co cells (t.fmod (cells.length : Int)).toNat) := by
          rw [eN]
          exact atI_nat (Po.co_at (by omega))
        have hcl := s.mrk _ List.mem_cons_self
        have E := s.lookL (K := K) (i := 0) (k := 0) s.envH rfl rfl
        refine s_asgI (K := K) (n := Po.co cells (t.fmod (cells.length : Int)).toNat) s ?_ fun H s => ?_
        · have hcd : ∀ F', Same H F' → Dp K F' (.ref c) (lstI cells) := fun F' e' => .lst (same_l (s.fh.trans e') hcl.1) (dpAll_ints cells)
          have h1 : Ev (tOp (rIx K) (tVar 0) (tC (.int 0))) _ H (TD K (lstI cells)) := ev_op (ev_var E rfl) ev_int (rv_ixX rfl hcd)
          exact ev_op h1 (ev_op (ev_cb (ea_cons (ev_var E rfl) ea_nil) rc_int) (ev_cb (ea_cons h1 ea_nil) (rc_len (.l cells))) (rv_mod (by omega))) (rv_ix (.l cells) hx)
        · exact fin _ _ ⟨_, _, s⟩
      · exact fin _ _ ⟨_, _, s⟩
    rintro σ H ⟨x, F2, s⟩
    walk_at "q"
    refine s_if (b := decide (t < (cells.length : Int)) && decide ((10 : Int) ^ (18 : Int).toNat ≤ (if x < 0 then -x else x))) s ?_ (fun hb H s => ?_) (fun hb H s => s_next ?_)
    · have hcl := s.mrk _ List.mem_cons_self
      have E := s.lookL (K := K) (i := 0) (k := 0) s.envH rfl rfl
      have hcd : ∀ F', Same H F' → Dp K F' (.ref c) (lstI cells) := fun F' e' => .lst (same_l (s.fh.trans e') hcl.1) (dpAll_ints cells)
      have h1 : Ev (tOp (rIx K) (tVar 0) (tC (.int 0))) _ H (TD K (lstI cells)) := ev_op (ev_var E rfl) ev_int (rv_ixX rfl hcd)
      refine et_and (et_test (ev_op (ev_var E rfl) (ev_cb (ea_cons h1 ea_nil) (rc_len (.l cells))) rv_lt)) fun _ => ?_
      exact et_test (ev_op (ev_cb (ea_cons (ev_var E rfl) ea_nil) rc_abs) (ev_op ev_int ev_int (rv_pow ⟨by decide, by decide, by decide⟩)) rv_ge)
    · rw [Bool.and_eq_true, decide_eq_true_eq, decide_eq_true_eq] at hb
      have hnn : 0 ≤ 2 * ((if x < 0 then -x else x) - (10 : Int) ^ (18 : Int).toNat) + (if decide (x < 0) = true then 1 else 0) := by
        have : 0 ≤ (if x < 0 then -x else x) - (10 : Int) ^ (18 : Int).toNat := by omega
        have : (0 : Int) ≤ (if decide (x < 0) = true then 1 else 0) := by split <;> omega
        omega
      generalize hg : 2 * ((if x < 0 then -x else x) - (10 : Int) ^ (18 : Int).toNat) + (if decide (x < 0) = true then 1 else 0) = g at hnn
      walk_at "q"
      refine s_asgI (K := K) (n := g) s ?_ fun H s => ?_
      · have E := s.envH
        rw [← hg]
        exact ev_op (ev_op ev_int (ev_op (ev_cb (ea_cons (ev_var E rfl) ea_nil) rc_abs) (ev_op ev_int ev_int (rv_pow ⟨by decide, by decide, by decide⟩)) rv_sub) (rv_mulB (.inl (.inl (by constructor <;> omega))))) (ev_cb (ea_cons (ev_op (ev_var E rfl) ev_int rv_lt) ea_nil) rc_intb) rv_add
      walk_at "q"
      refine s_setI (K := K) (i := 0) (k := 0) (j := 2) (n := g.fdiv m) s rfl rfl (ev_op (ev_cb (ea_cons (ev_var s.envH rfl) ea_nil) rc_int) (ev_var s.envH rfl) (rv_divW (hmd _))) (fun H' e' => ev_int) (by show 2 < 3; decide) fun H s => ?_
      dsimp only
      refine s_retR (m := m) s ?_ fun i F H h0 h1 s => ?_
      · exact er_mod (ez_of (ev_cb (ea_cons (ev_var s.env rfl) ea_nil) rc_int)) (ev_var s.env rfl) hm0
      · exact back (t + 1) (g.fdiv m) i F H _ _ _ s (by omega) (by omega) (by rw [Int.fdiv_eq_ediv_of_nonneg g (by omega)]; exact Int.ediv_nonneg hnn (by omega)) h0 h1
    walk_at "q"
    have htB : -1000001 < t ∧ t < 1000001 := by omega
    refine s_asgR (K := K) s (er_mod (ez_int (ez_pow (B := 4000000000000) (eb_add (K := K) (B := 3000000000000) (C := 1000000) (eb_add (K := K) (B := 2147483648) (C := 2000000000000) (eb_r (er_mod (ez_int (ez_var s.env rfl)) (ev_int (K := K)) (by decide)) (by decide) (by decide)) (eb_mul (K := K) (B := 1000000) (C := 1000001) (eb_of (ev_int (K := K)) (by decide)) (eb_of (ev_var s.env rfl) htB) (by decide) (by decide)) (by decide)) (eb_of (ev_int (K := K)) (by decide)) (by decide)) (ev_int (K := K)) (by decide) (by decide))) (ev_int (K := K)) (by decide)) fun y F2 H y0 y1 s => ?_
    walk_at "q"
    have hyB : -2147483648 < y ∧ y < 2147483648 := by omega
    refine s_asgR (K := K) s (er_mod (ez_int (ez_pow (B := 8000000000000000000) (eb_add (K := K) (B := 4000000000000000000) (C := 1000000) (eb_add (K := K) (B := 50000000000000000) (C := 3000000000000000000)
        (eb_mul (K := K) (B := 2147483648) (C := 20000000) (eb_of (ev_var s.env rfl) hyB) (eb_add (K := K) (B := 10000000) (C := 1000000) (eb_mul (K := K) (B := 3) (C := 1000001) (eb_of (ev_int (K := K)) (by decide)) (eb_of (ev_var s.env rfl) htB) (by decide) (by decide)) (eb_of (ev_int (K := K)) (by decide)) (by decide)) (by decide) (by decide))
        (eb_mul (K := K) (B := 2000000000000) (C := 1000001) (eb_mul (K := K) (B := 1000000) (C := 1000001) (eb_of (ev_int (K := K)) (by decide)) (eb_of (ev_var s.env rfl) htB) (by decide) (by decide)) (eb_of (ev_var s.env rfl) htB) (by decide) (by decide)) (by decide)) (eb_of (ev_int (K := K)) (by decide)) (by decide)) (ev_int (K := K)) (by decide) (by decide))) (ev_int (K := K)) (by decide)) fun z F2 H z0 z1 s => ?_
    dsimp only
    refine s_retR (m := m) s (er_mod (ez_int (ez_div (ez_var s.env rfl) (ev_int (K := K)) (by decide))) (ev_var s.env rfl) hm0) fun i F H h0 h1 s => ?_
    exact back (t + 1) r i F H _ _ _ s (by omega) (by omega) hr0 h0 h1
theorem ok__law_draw (T : Txt K mg) : FnOk P w K mg base CX0 1 T.a__law_draw T.d__law_draw ["pen", "many"] (spM K Tdraw) := (ok0__law_draw T).imp fun vs H Q E h => draw_spM (fun m h0 h1 => ⟨m, rfl, h0, h1, rfl⟩) h
/-! ### _law_pick -/
theorem ok__law_pick (T : Txt K mg) : FnOk P w K mg base CX0 2 T.a__law_pick T.d__law_pick ["pen", "some"] (spM K Tpick) := by
  have G__law_draw := ok__law_draw (P := P) (w := w) (base := base) T
  have hlen : ∀ ds t q x, Tpick ds t q x → ds.length + 1 = 2 := fun ds t q x h => by unfold Tpick at h; split at h <;> first | rfl | exact h.elim
  refine T.F__law_pick.ok sc__law_pick (fun vs H Q E h => spM_len h hlen) (fun cdv A outer s H vs Q E hr h => ?body)
  refine ⟨_, (pss_one (ps_ret (pe_ix ix_seq (pv 1) (pe_call G__law_draw (hr.mono (by decide)) (by rfl) T.g__law_draw T.F__law_draw.kp T.b__law_draw .nil pass0 (pa_cons (pv 0) (pa_cons (pe_callB call_lenA (by rfl) T.n_len (by decide +kernel) (pa_cons (pv 1) pa_nil)) pa_nil))) (fun _ _ => rfl)))), ?_⟩
  try dsimp only [cxOf, Cx.nox, Cx.wish, Cx.blk]
  refine def_M0 (K := K) (T := Tpick) (sb_ret (sn_op sr_ix sn_var (sn_callM0 (sa_cons (sn_cb sc_len (sa_cons sn_var sa_nil)) sa_nil)))) h (fun ds t q x h => by have h2 := hlen ds t q x h; exact Nat.le_trans (show ds.length ≤ 1 by omega) (by decide)) (fun ds t q x h => ?_)
  have hl0 := hlen _ _ _ _ h
  match ds, hl0, h with
  | [d0], _, h => ?_
  refine to_ss (b := [.pen, .val d0]) rfl ?_
  have h : seqD d0 fun es => (es ≠ [] ∧ es.length ≤ 10000 ∧ 0 ≤ t ∧ t + 1 ≤ 1000000) ∧ ∀ e ∈ es, q e (t + 1) := h
  have go : ∀ es : List Dt, (es ≠ [] ∧ es.length ≤ 10000 ∧ 0 ≤ t ∧ t + 1 ≤ 1000000) → (∀ e ∈ es, q e (t + 1)) → ∀ r : Int, 0 ≤ r → r < (es.length : Int) → onO (atD es r) fun z => q z (t + 1) := fun es h1 h2 r r0 r1 => by
    obtain ⟨n, rfl⟩ : ∃ n : Nat, r = n := ⟨r.toNat, by rw [Int.toNat_of_nonneg r0]⟩
    have hn : n < es.length := by omega
    exact on_some (atD_nat (List.getElem?_eq_getElem hn)) (h2 _ (List.getElem_mem hn))
  cases d0 with
  | lst es =>
    have hl := List.length_pos_iff.mpr h.1.1
    walk_at "wp"
    exact ⟨⟨by omega, by have := h.1.2.1; omega, h.1.2.2.1, h.1.2.2.2⟩, fun r r0 r1 => go es h.1 h.2 r r0 r1⟩
  | tup es =>
    have hl := List.length_pos_iff.mpr h.1.1
    walk_at "wp"
    exact ⟨⟨by omega, by have := h.1.2.1; omega, h.1.2.2.1, h.1.2.2.2⟩, fun r r0 r1 => go es h.1 h.2 r r0 r1⟩
  | _ => exact h.elim
/-! ### _law_rule -/
/-- numbers that are among some -/
def smallB (ns : List Int) : Bool := ns.all fun n => decide (0 ≤ n ∧ n ≤ 3)
def T__law_rule : Tpm := fun ds t q _ => match ds with
  | [] => (0 ≤ t ∧ t + 10 ≤ 1000000) ∧ ∀ r t', ruleB r = true → t ≤ t' → t' ≤ t + 10 → q (lI r) t'
  | _ => False
theorem ok__law_rule (T : Txt K mg) : FnOk P w K mg base CX0 3 T.a__law_rule T.d__law_rule ["pen"] (spM K T__law_rule) := by
  have G__law_pick := ok__law_pick (P := P) (w := w) (base := base) T
  have hlen : ∀ ds t q x, T__law_rule ds t q x → ds.length + 1 = 1 := fun ds t q x h => by unfold T__law_rule at h; split at h <;> first | rfl | exact h.elim
  refine T.F__law_rule.ok sc__law_rule (fun vs H Q E h => spM_len h hlen) (fun cdv A outer s H vs Q E hr h => ?body)
  refine ⟨_, (pss_cons (ps_setLc (i := 1) (own := [("spot", 2)]) rfl sc__law_rule.nd rfl rfl (sw_true rfl rfl rfl (by decide +kernel)) (pi_range1 rfl T.n_range (pa_cons (pe_op op_addA pe_int (pe_call G__law_pick (hr.mono (by decide)) (by rfl) T.g__law_pick T.F__law_pick.kp T.b__law_pick .nil pass0 (pa_cons (pv 0) (pa_cons (pe_lst (pa_cons pe_int (pa_cons pe_int (pa_cons pe_int (pa_cons pe_int (pa_cons pe_int pa_nil)))))) pa_nil)))) pa_nil)) (blkOk_by (own := [("spot", 2)]) (N := N__law_rule) (sc := defScope s__law_rule) (by decide +kernel)) (fun _ _ _ _ _ => (pg_name (i := 2) sc__law_rule.nd rfl (.inl rfl))) (fun _ _ _ _ _ => pts_nil) (fun _ _ _ _ _ => (pe_call G__law_pick (hr.mono (by decide)) (by rfl) T.g__law_pick T.F__law_pick.kp T.b__law_pick .nil pass0 (pa_cons (pv 0) (pa_cons (pe_lst (pa_cons pe_int (pa_cons pe_int (pa_cons pe_int (pa_cons pe_int (pa_cons pe_int pa_nil)))))) pa_nil)))))
      (pss_one (ps_ret (pe_op op_addA (pe_op op_addA (pe_lst (pa_cons (pe_call G__law_pick (hr.mono (by decide)) (by rfl) T.g__law_pick T.F__law_pick.kp T.b__law_pick .nil pass0 (pa_cons (pv 0) (pa_cons (pe_lst (pa_cons pe_int (pa_cons pe_int (pa_cons pe_int (pa_cons pe_int pa_nil))))) pa_nil))) pa_nil)) (pv 1)) (pe_lst (pa_cons (pe_call G__law_pick (hr.mono (by decide)) (by rfl) T.g__law_pick T.F__law_pick.kp T.b__law_pick .nil pass0 (pa_cons (pv 0) (pa_cons (pe_lst (pa_cons pe_int (pa_cons pe_int (pa_cons pe_int (pa_cons pe_int pa_nil))))) pa_nil))) pa_nil)))))), ?_⟩
  try dsimp only [cxOf, Cx.nox, Cx.wish, Cx.blk]
  refine def_M0 (K := K) (T := T__law_rule) (sb_seq (sb_asg (vs := [1]) (sn_new (nn_lc (si_rng1 (sa_cons (sn_op sr_add sn_int (sn_callM0 (sa_cons (sn_new (nn_lst (sa_cons sn_int (sa_cons sn_int (sa_cons sn_int (sa_cons sn_int (sa_cons sn_int sa_nil))))))) sa_nil))) sa_nil)) (sg_name (by decide)) st_yes (sn_callM0 (sa_cons (sn_new (nn_lst (sa_cons sn_int (sa_cons sn_int (sa_cons sn_int (sa_cons sn_int (sa_cons sn_int sa_nil))))))) sa_nil)))) (sg_name (by decide)))
      (sb_ret (sn_op sr_add (sn_op sr_add (sn_new (nn_lst (sa_cons (sn_callM0 (sa_cons (sn_new (nn_lst (sa_cons sn_int (sa_cons sn_int (sa_cons sn_int (sa_cons sn_int sa_nil)))))) sa_nil)) sa_nil))) sn_var) (sn_new (nn_lst (sa_cons (sn_callM0 (sa_cons (sn_new (nn_lst (sa_cons sn_int (sa_cons sn_int (sa_cons sn_int (sa_cons sn_int sa_nil)))))) sa_nil)) sa_nil)))))) h (fun ds t q x h => by have h2 := hlen ds t q x h; exact Nat.le_trans (show ds.length ≤ 0 by omega) (by decide)) (fun ds t q x h => ?_)
  have hl0 := hlen _ _ _ _ h
  match ds, hl0, h with
  | [], _, h => ?_
  refine to_ss (b := [.pen, .no, .no]) rfl ?_
  obtain ⟨⟨t0, tl⟩, hq⟩ := h
  walk_at "w1"
  refine ⟨Nat.le_of_ble_eq_true rfl, ⟨by simp, by simp, t0, by omega⟩, fun e he => ?_⟩
  obtain ⟨mo, rfl, m0, m1⟩ : ∃ n : Int, e = .int n ∧ 0 ≤ n ∧ n ≤ 3 := by
    simp only [List.mem_cons, List.mem_nil_iff, or_false] at he
    rcases he with rfl | rfl | rfl | rfl | rfl
    all_goals exact ⟨_, rfl, by decide, by decide⟩
  walk_at "wn"
  refine ⟨⟨by omega, by omega⟩, by rw [rangeE_len]; omega, fun i acc tt => ∃ ns : List Int, acc = ns.map .int ∧ ns.length = i ∧ (∀ n ∈ ns, 0 ≤ n ∧ n ≤ 3) ∧ tt = t + 1 + i, ⟨[], rfl, rfl, (fun _ z => by cases z), (Int.add_zero _).symm⟩, fun i d acc tt hd hI _ => ?_, fun acc tt hI => ?_⟩
  · obtain ⟨ns, rfl, hl, hns, rfl⟩ := hI
    obtain ⟨hin, rfl⟩ := rangeE_get hd
    refine iteT ⟨Nat.le_of_ble_eq_true rfl, ⟨by simp, by simp, by omega, by omega⟩, fun e he => ?_⟩
    obtain ⟨y, rfl, y0, y1⟩ : ∃ n : Int, e = .int n ∧ 0 ≤ n ∧ n ≤ 3 := by
      simp only [List.mem_cons, List.mem_nil_iff, or_false] at he
      rcases he with rfl | rfl | rfl | rfl | rfl
      all_goals exact ⟨_, rfl, by decide, by decide⟩
    refine ⟨ns ++ [y], by rw [List.map_append]; rfl, by rw [List.length_append, List.length_singleton, hl], fun z hz => ?_, by rw [Int.natCast_add]; omega⟩
    rcases List.mem_append.mp hz with hz | hz
    · exact hns z hz
    · have : z = y := by simpa using hz
      omega
  · obtain ⟨ns, rfl, hl, hns, rfl⟩ := hI
    rw [rangeE_len] at hl ⊢
    refine ⟨Nat.le_of_ble_eq_true rfl, ⟨by simp, by simp, by omega, by omega⟩, fun e he => ?_⟩
    obtain ⟨a, rfl, a0, a1⟩ : ∃ n : Int, e = .int n ∧ 1 ≤ n ∧ n ≤ 3 := by
      simp only [List.mem_cons, List.mem_nil_iff, or_false] at he
      rcases he with rfl | rfl | rfl | rfl
      all_goals exact ⟨_, rfl, by decide, by decide⟩
    refine ⟨Nat.le_of_ble_eq_true rfl, by rw [List.length_map]; omega, Nat.le_of_ble_eq_true rfl, ⟨by simp, by simp, by omega, by omega⟩, fun e he => ?_⟩
    obtain ⟨b, rfl, b0, b1⟩ : ∃ n : Int, e = .int n ∧ 1 ≤ n ∧ n ≤ 3 := by
      simp only [List.mem_cons, List.mem_nil_iff, or_false] at he
      rcases he with rfl | rfl | rfl | rfl
      all_goals exact ⟨_, rfl, by decide, by decide⟩
    have ea : [Dt.int a] ++ ns.map Dt.int ++ [Dt.int b] = ([a] ++ ns ++ [b]).map .int := by rw [List.map_append, List.map_append]; rfl
    rw [ea]
    refine ⟨Nat.le_of_ble_eq_true rfl, by rw [List.length_append, List.length_map]; show 1 + _ + 1 ≤ _; omega, hq _ _ ?_ (by omega) (by omega)⟩
    unfold ruleB
    simp only [Bool.and_eq_true, decide_eq_true_eq, List.all_eq_true, List.length_append, List.length_singleton]
    refine ⟨⟨⟨by omega, fun z hz => ?_⟩, by rw [List.append_assoc, List.singleton_append, Po.co_zero]; omega⟩, ?_⟩
    · rcases List.mem_append.mp hz with hz | hz
      · rcases List.mem_append.mp hz with hz | hz
        · have : z = a := by simpa using hz
          omega
        · exact hns z hz
      · have : z = b := by simpa using hz
        omega
    · unfold Po.lastC
      rw [List.length_append, List.length_singleton, Nat.add_sub_cancel, Po.co_app, if_neg (by omega), Nat.sub_self, Po.co_zero]
      omega
/-! ### _law_knots -/
def T__law_knots : Tp := fun ds q _ => match ds with
  | [d] => ∃ ns : List Int, nums d = some ns ∧ ruleB ns = true ∧ q (.lst (knotsTo ns ns.length))
  | _ => False
theorem ok__law_knots (T : Txt K mg) : FnOk P w K mg base CX0 1 T.a__law_knots T.d__law_knots ["counts"] (spT K T__law_knots) := by
  have hlen : ∀ ds q x, T__law_knots ds q x → ds.length = 1 := fun ds q x h => by unfold T__law_knots at h; split at h <;> first | rfl | exact h.elim
  refine T.F__law_knots.ok sc__law_knots (fun vs H Q E h => spT_len h hlen) (fun cdv A outer s H vs Q E hr h => ?body)
  refine ⟨_, (pss_cons (ps_set (i := 1) sc__law_knots.nd rfl (.inl rfl) (pe_lst pa_nil))
      (pss_cons (ps_for PassesOwn.never rfl (pi_enumM (by rfl) T.n_enumerate (pa_cons (pv 0) pa_nil)) (pg_tup rfl (pgs_cons (pg_name (i := 2) sc__law_knots.nd rfl (.inr rfl)) (pgs_cons (pg_name (i := 3) sc__law_knots.nd rfl (.inl rfl)) pgs_nil)))
      (pss_one (ps_expr (pe_bm PySem.F.plainAttrs_list PySem.F.slot_list_extend PySem.F.type_list_extend mt_extend (pv 1) (pa_cons (pe_lc (own := [("sort", 4)]) rfl sc__law_knots.nd (pi_range1 rfl T.n_range (pa_cons (pv 3) pa_nil)) (blkOk_by (own := [("sort", 4)]) (N := N__law_knots) (sc := defScope s__law_knots) (by decide +kernel)) (fun _ _ _ _ _ => (pg_name (i := 4) sc__law_knots.nd rfl (.inl rfl))) (fun _ _ _ _ _ => pts_nil) (fun _ _ _ _ _ => (pe_tup (pa_cons (pv 2) (pa_cons (pv 4) pa_nil))))) pa_nil)))))
      (pss_one (ps_ret (pv 1))))), ?_⟩
  try dsimp only [cxOf, Cx.nox, Cx.wish, Cx.blk]
  refine def_T0 (K := K) (T := T__law_knots) (sb_seq (sb_own (nn_lst sa_nil))
      (sb_seq (sb_for (vs := [2, 3]) (si_enum (sa_cons sn_var sa_nil)) (sg_tup (sgs_cons (sg_name (by decide)) (sgs_cons (sg_name (by decide)) sgs_nil)))
      (sb_extend (nn_lc (si_rng1 (sa_cons sn_var sa_nil)) (sg_name (by decide)) st_yes (sn_tup (sa_cons sn_var (sa_cons sn_var sa_nil))))))
      sb_retO)) h (fun ds q x h => by have h2 := hlen ds q x h; exact Nat.le_trans (show ds.length ≤ 1 by omega) (by decide)) (fun ds q x h => ?_)
  have hl0 := hlen _ _ _ h
  match ds, hl0, h with
  | [d0], _, h => ?_
  refine to_ss (b := [.val d0, .no, .no, .no, .no]) rfl ?_
  obtain ⟨ns, e, hr', hq⟩ := h
  have co := rule_co hr'
  obtain ⟨l3, l6, lp⟩ := rule_len hr'
  rcases two_of e with rfl | rfl
  case' inl => let DD : List Int → Dt := lI
  case' inr => let DD : List Int → Dt := tI
  all_goals
    walk_at "w1"
    refine ⟨Nat.le_of_ble_eq_true rfl, ?_⟩
    walk_at "wn"
    refine ⟨fun i ss t => ∃ x2 x3 x4, ss = [.val (DD ns), .own (knotsTo ns i), x2, x3, x4] ∧ t = 0, ⟨_, _, _, rfl, rfl⟩, fun i d ss tt hd hI => ?_, fun ss tt hI => ?_⟩
    · obtain ⟨x2, x3, x4, rfl, rfl⟩ := hI
      obtain ⟨hi, rfl⟩ := enum_intsE hd
      have ci := co i
      walk_at "w1"
      refine ⟨rfl, ?_⟩
      refine ⟨⟨by omega, by omega⟩, ?_⟩
      have kl := knots_len (fun i => (co i).2) i
      refine ⟨by rw [rangeE_len]; omega, fun j acc t => acc = row1 i j ∧ t = 0 ∧ j ≤ 3, ⟨by simp [row1], rfl, by decide⟩, fun j d acc tt hd2 hJ _ => ?_, fun acc tt hJ => ?_⟩
      · obtain ⟨rfl, rfl, hj⟩ := hJ
        obtain ⟨hj2, rfl⟩ := rangeE_get hd2
        walk_at "w1"
        refine iteT ⟨Nat.le_of_ble_eq_true rfl, ?_, rfl, by omega⟩
        unfold row1
        rw [List.range_succ, List.map_append]
        rfl
      · obtain ⟨rfl, rfl, hj⟩ := hJ
        rw [rangeE_len]
        have rl : (row1 i (Po.co ns i).toNat).length ≤ 3 := by rw [row1, List.length_map, List.length_range]; omega
        exact ⟨by omega, _, _, _, rfl, rfl⟩
    · obtain ⟨x2, x3, x4, rfl, rfl⟩ := hI
      rw [enumE_len, List.length_map]
      walk_at "wn"
      exact hq
/-! ### _law_store -/
def T__law_store : Tpm := fun ds t q _ => match ds with
  | [d] => d = .int 12 ∧ (0 ≤ t ∧ t + 20 ≤ 1000000) ∧ ∀ s t', s.length ≤ 13 → (∀ n ∈ s, 0 ≤ n ∧ n ≤ 2) → t ≤ t' → t' ≤ t + 15 → q (lI s) t'
  | _ => False
theorem ok__law_store (T : Txt K mg) : FnOk P w K mg base CX0 3 T.a__law_store T.d__law_store ["pen", "most"] (spM K T__law_store) := by
  have G__law_pick := ok__law_pick (P := P) (w := w) (base := base) T
  have G__law_draw := ok__law_draw (P := P) (w := w) (base := base) T
  have hlen : ∀ ds t q x, T__law_store ds t q x → ds.length + 1 = 2 := fun ds t q x h => by unfold T__law_store at h; split at h <;> first | rfl | exact h.elim
  refine T.F__law_store.ok sc__law_store (fun vs H Q E h => spM_len h hlen) (fun cdv A outer s H vs Q E hr h => ?body)
  refine ⟨_, (pss_cons (ps_setLc (i := 2) (own := [("spot", 3)]) rfl sc__law_store.nd rfl rfl (sw_true rfl rfl rfl (by decide +kernel)) (pi_range1 rfl T.n_range (pa_cons (pe_call G__law_draw (hr.mono (by decide)) (by rfl) T.g__law_draw T.F__law_draw.kp T.b__law_draw .nil pass0 (pa_cons (pv 0) (pa_cons (pe_op op_addA (pv 1) pe_int) pa_nil))) pa_nil)) (blkOk_by (own := [("spot", 3)]) (N := N__law_store) (sc := defScope s__law_store) (by decide +kernel)) (fun _ _ _ _ _ => (pg_name (i := 3) sc__law_store.nd rfl (.inl rfl))) (fun _ _ _ _ _ => pts_nil) (fun _ _ _ _ _ => (pe_call G__law_pick (hr.mono (by decide)) (by rfl) T.g__law_pick T.F__law_pick.kp T.b__law_pick .nil pass0 (pa_cons (pv 0) (pa_cons (pe_lst (pa_cons pe_int (pa_cons pe_int (pa_cons pe_int (pa_cons pe_int (pa_cons pe_int pa_nil)))))) pa_nil)))))
      (pss_one (ps_ret (pe_ifExp (pt_cmpR op_gtA (pe_call G__law_draw (hr.mono (by decide)) (by rfl) T.g__law_draw T.F__law_draw.kp T.b__law_draw .nil pass0 (pa_cons (pv 0) (pa_cons pe_int pa_nil))) pe_int (nomark _)) (pe_op op_addA (pv 2) (pe_lst (pa_cons (pe_call G__law_pick (hr.mono (by decide)) (by rfl) T.g__law_pick T.F__law_pick.kp T.b__law_pick .nil pass0 (pa_cons (pv 0) (pa_cons (pe_lst (pa_cons pe_int (pa_cons pe_int (pa_cons pe_int pa_nil)))) pa_nil))) pa_nil))) (pe_lst pa_nil))))), ?_⟩
  try dsimp only [cxOf, Cx.nox, Cx.wish, Cx.blk]
  refine def_M0 (K := K) (T := T__law_store) (sb_seq (sb_asg (vs := [2]) (sn_new (nn_lc (si_rng1 (sa_cons (sn_callM0 (sa_cons (sn_op sr_add sn_var sn_int) sa_nil)) sa_nil)) (sg_name (by decide)) st_yes (sn_callM0 (sa_cons (sn_new (nn_lst (sa_cons sn_int (sa_cons sn_int (sa_cons sn_int (sa_cons sn_int (sa_cons sn_int sa_nil))))))) sa_nil)))) (sg_name (by decide)))
      (sb_ret (sn_if (st_test (sn_op sr_gt (sn_callM0 (sa_cons sn_int sa_nil)) sn_int)) (sn_op sr_add sn_var (sn_new (nn_lst (sa_cons (sn_callM0 (sa_cons (sn_new (nn_lst (sa_cons sn_int (sa_cons sn_int (sa_cons sn_int sa_nil))))) sa_nil)) sa_nil)))) (sn_new (nn_lst sa_nil))))) h (fun ds t q x h => by have h2 := hlen ds t q x h; exact Nat.le_trans (show ds.length ≤ 1 by omega) (by decide)) (fun ds t q x h => ?_)
  have hl0 := hlen _ _ _ _ h
  match ds, hl0, h with
  | [d0], _, h => ?_
  refine to_ss (b := [.pen, .val d0, .no, .no]) rfl ?_
  obtain ⟨rfl, ⟨t0, tl⟩, hq⟩ := h
  walk_at "w1"
  unfold wLc
  walk_at "w1"
  refine ⟨⟨by decide, by decide, by omega, by omega⟩, fun m m0 m1 => ?_⟩
  walk_at "w1"
  refine ⟨⟨by omega, by omega⟩, by rw [rangeE_len]; omega, fun i acc tt => ∃ ns : List Int, acc = ns.map .int ∧ ns.length = i ∧ (∀ n ∈ ns, 0 ≤ n ∧ n ≤ 2) ∧ tt = t + 1 + i, ⟨[], rfl, rfl, (fun _ z => by cases z), (Int.add_zero _).symm⟩, fun i d acc tt hd hI _ => ?_, fun acc tt hI => ?_⟩
  · obtain ⟨ns, rfl, hl, hns, rfl⟩ := hI
    obtain ⟨hin, rfl⟩ := rangeE_get hd
    refine iteT ⟨Nat.le_of_ble_eq_true rfl, ⟨by simp, by simp, by omega, by omega⟩, fun e he => ?_⟩
    obtain ⟨y, rfl, y0, y1⟩ : ∃ n : Int, e = .int n ∧ 0 ≤ n ∧ n ≤ 2 := by
      simp only [List.mem_cons, List.mem_nil_iff, or_false] at he
      rcases he with rfl | rfl | rfl | rfl | rfl
      all_goals exact ⟨_, rfl, by decide, by decide⟩
    refine ⟨ns ++ [y], by rw [List.map_append]; rfl, by rw [List.length_append, List.length_singleton, hl], fun z hz => ?_, by rw [Int.natCast_add]; omega⟩
    rcases List.mem_append.mp hz with hz | hz
    · exact hns z hz
    · have : z = y := by simpa using hz
      omega
  · obtain ⟨ns, rfl, hl, hns, rfl⟩ := hI
    rw [rangeE_len] at hl ⊢
    walk_at "wn"
    refine ⟨⟨by decide, by decide, by omega, by omega⟩, fun w w0 w1 => ?_⟩
    walk_at "w1"
    by_cases h0 : 0 < w
    · rw [decide_eq_true h0]
      refine iteT ⟨Nat.le_of_ble_eq_true rfl, ⟨by simp, by simp, by omega, by omega⟩, fun e he => ?_⟩
      obtain ⟨b, rfl, b0, b1⟩ : ∃ n : Int, e = .int n ∧ 0 ≤ n ∧ n ≤ 2 := by
        simp only [List.mem_cons, List.mem_nil_iff, or_false] at he
        rcases he with rfl | rfl | rfl
        all_goals exact ⟨_, rfl, by decide, by decide⟩
      rw [show [Dt.int b] = [b].map .int from rfl, ← List.map_append]
      simp only [List.length_map]
      refine ⟨by decide, by omega, hq _ _ (by rw [List.length_append, List.length_singleton]; omega) (fun n hn => ?_) (by omega) (by omega)⟩
      rcases List.mem_append.mp hn with hn | hn
      · exact hns n hn
      · rw [List.mem_singleton.mp hn]; exact ⟨b0, b1⟩
    · rw [decide_eq_false h0]
      refine iteF ⟨by decide, ?_⟩
      exact hq [] _ (by decide) (fun n hn => absurd hn List.not_mem_nil) (by omega) (by omega)
/-! ### _law_number -/
--@ text:@s sign:@s
def notDig (d : Dt) : Bool := match d with
  | .str y => (match y.cps.toList with
    | [c] => !decide (c ∈ (Str.ofString "0123456789").cps.toList)
    | _ => true)
  | _ => true
def T__law_number : Tp := fun ds q x => match ds with
  | [.str z] => z.length ≤ 90000 ∧ PyData.strOk z = true ∧ q (.int (Tx.lnum z))
  | _ => False
theorem ok__law_number (T : Txt K mg) : FnOk P w K mg base CX0 1 T.a__law_number T.d__law_number ["text"] (spT K T__law_number) := by
  have hlen : ∀ ds q x, T__law_number ds q x → ds.length = 1 := fun ds q x h => by unfold T__law_number at h; split at h <;> first | rfl | exact h.elim
  refine T.F__law_number.ok sc__law_number (fun vs H Q E h => spT_len h hlen) (fun cdv A outer s H vs Q E hr h => ?body)
  refine ⟨_, (pss_cons (ps_if (PW.pt (pw_or (pt_not (pt_chain op_leA op_leA pe_int (pe_callB call_lenA (by rfl) T.n_len (by decide +kernel) (pa_cons (pv 0) pa_nil)) pe_int)) (pw_or (pt_cmpR (op_neD hr.units) (pe_lc (own := [("sign", 1)]) rfl sc__law_number.nd (pi_str (pv 0)) (blkOk_by (own := [("sign", 1)]) (N := N__law_number) (sc := defScope s__law_number) (by decide +kernel)) (fun _ _ _ _ _ => (pg_name (i := 1) sc__law_number.nd rfl (.inl rfl))) (fun _ _ _ _ _ => pts_one (pt_cmpR _root_.E.op_notInS (pv 1) pe_str (by rfl))) (fun _ _ _ _ _ => (pv 1))) (pe_lst pa_nil) (nomark _)) (pw_or1 (PW.pt (pw_and (pt_cmpR (op_eqD hr.units) (pe_ix ix_seq (pv 0) pe_int (fun _ _ => rfl)) pe_str (nomark _)) (pw_and1 (pt_cmpR (op_neD hr.units) (pv 0) pe_str (nomark _)))))))))
      (pss_one (ps_ret (pe_un un_neg pe_int)))
      pss_nil)
      (pss_one (ps_ret (pe_callTy _root_.E.call_intT (by rfl) T.n_int (by decide +kernel) (pa_cons (pv 0) pa_nil))))), ?_⟩
  try dsimp only [cxOf, Cx.nox, Cx.wish, Cx.blk]
  refine def_T0 (K := K) (T := T__law_number) (sb_seq (sb_if (st_or (st_not (st_test (sn_chain sr_le sr_le sn_int (sn_cb sc_len (sa_cons sn_var sa_nil)) sn_int))) (st_or (st_test (sn_op sr_ne (sn_new (nn_lc (si_str sn_var) (sg_name (by decide)) (st_test (sn_op sr_notInS sn_var sn_str)) sn_var)) (sn_new (nn_lst sa_nil)))) (st_and (st_test (sn_op sr_eq (sn_op sr_ixS sn_var sn_int) sn_str)) (st_test (sn_op sr_ne sn_var sn_str)))))
      (sb_ret (sn_un su_neg sn_int))
      sb_next)
      (sb_ret (sn_cb sc_intT (sa_cons sn_var sa_nil)))) h (fun ds q x h => by have h2 := hlen ds q x h; exact Nat.le_trans (show ds.length ≤ 1 by omega) (by decide)) (fun ds q x h => ?_)
  have hl0 := hlen _ _ _ h
  match ds, hl0, h with
  | [d0], _, h => ?_
  refine to_ss (b := [.val d0, .no]) rfl ?_
  cases d0 with
  | str z =>
    obtain ⟨hl, hs, hq⟩ := h
    walk_at "w1"
    refine ⟨by omega, ?_⟩
    by_cases l1 : 1 ≤ z.length
    · rw [decide_eq_true (show (1 : Int) ≤ ((z.length : Nat) : Int) by omega)]
      refine iteT ?_
      by_cases l2 : z.length ≤ 60
      · rw [decide_eq_true (show ((z.length : Nat) : Int) ≤ 60 by omega)]
        refine iteF ?_
        have hsg := sh_signs hs
        refine lc_filt (ds := _root_.E.signs z) notDig id (fun k hk => hk) (by unfold _root_.E.signs; rw [List.length_map]; rw [show z.cps.toList.length = z.length from (TL.len_tl z).symm]; omega) (fun d k hd hk => ?_) (fun d k hd hp hk => ?_) ?_
        · obtain ⟨c, hc, rfl⟩ := List.mem_map.mp hd
          walk_at "w1"
          exact hk
        · exact hk
        · rw [List.map_id]
          refine ⟨Nat.zero_le _, on_some (eqD_lnil (n := 1) (fun d hd => hsg d (List.mem_filter.mp hd).1) (by decide)) ?_⟩
          by_cases hodd : ∃ c ∈ TL.tl z, ¬ (48 ≤ c ∧ c ≤ 57)
          · obtain ⟨c, hc, hn⟩ := hodd
            rw [Tx.lnum_none (Tx.okN_odd hc hn)] at hq
            rw [decide_eq_false (fun e => by
              have := List.filter_eq_nil_iff.mp e (.str ⟨#[c]⟩) (List.mem_map_of_mem (f := fun c => Dt.str ⟨#[c]⟩) hc)
              refine this ?_
              show (!decide (c ∈ (Str.ofString "0123456789").cps.toList)) = true
              rw [decide_eq_false (fun z => hn (Tx.mem_dig.mp z))]; rfl)]
            refine iteT (brT ?_)
            walk_at "wn"
            exact hq
          · have hd : NumText.AllDigits (TL.tl z) := fun c hc => by
              by_cases h : 48 ≤ c ∧ c ≤ 57
              · exact h
              · exact absurd ⟨c, hc, h⟩ hodd
            rw [decide_eq_true (show (_root_.E.signs z).filter notDig = [] from List.filter_eq_nil_iff.mpr fun d hd2 => by
              obtain ⟨c, hc, rfl⟩ := List.mem_map.mp hd2
              show ¬ (!decide (c ∈ (Str.ofString "0123456789").cps.toList)) = true
              rw [decide_eq_true (Tx.mem_dig.mpr (hd c hc))]; decide)]
            refine iteF ⟨by omega, ?_⟩
            obtain ⟨c0, r0, ez⟩ : ∃ c r, TL.tl z = c :: r := by
              cases e : TL.tl z with
              | nil => rw [TL.len_tl, e] at l1; cases l1
              | cons c r => exact ⟨c, r, rfl⟩
            have hne : TL.tl z ≠ [] := by rw [ez]; simp
            have so : PyData.strOk (⟨#[c0]⟩ : Str) = true := by
              have := hd c0 (by rw [ez]; simp)
              unfold PyData.strOk
              rw [Array.all_eq_true_iff_forall_mem]
              intro x hx
              have e : x = c0 := by simpa using hx
              rw [e]
              exact decide_eq_true (by omega)
            refine on_some (a := V.str ⟨#[c0]⟩) (by
              show atI ((TL.tl z).map fun c => V.str ⟨#[c]⟩) 0 = _
              rw [ez]
              exact atI_nat (j := 0) rfl) ?_
            dsimp only
            have sz : PyData.strOk (Str.ofString "0") = true := by decide +kernel
            refine on_some (eqD_s so sz) ?_
            have e48 : ((⟨#[c0]⟩ : Str) = Str.ofString "0") ↔ c0 = 48 := by
              constructor
              · intro h
                have := congrArg TL.tl h
                rw [show TL.tl (Str.ofString "0") = [48] from Tx.tl_zero] at this
                exact (List.cons.inj this).1
              · intro h
                subst h
                exact TL.ext_tl (by rw [show TL.tl (Str.ofString "0") = [48] from Tx.tl_zero])
            by_cases h48 : c0 = 48
            · rw [decide_eq_true (e48.mpr h48)]
              refine iteT (on_some (eqD_s hs sz) ?_)
              by_cases hz : z = Str.ofString "0"
              · rw [decide_eq_true hz]
                refine brF ?_
                walk_at "wn"
                have ok := Tx.okN_of hd hne (.inl hz)
                rw [Tx.lnum_ok ok l2] at hq
                exact ⟨by omega, on_some (Tx.int_all hd hne (by omega)) hq⟩
              · rw [decide_eq_false hz]
                refine brT ?_
                walk_at "wn"
                rw [Tx.lnum_none (Tx.okN_lead (by rw [ez, h48]) hz)] at hq
                exact hq
            · rw [decide_eq_false (fun z => h48 (e48.mp z))]
              refine iteF (brF ?_)
              walk_at "wn"
              have ok := Tx.okN_of hd hne (.inr ⟨c0, r0, ez, h48⟩)
              rw [Tx.lnum_ok ok l2] at hq
              exact ⟨by omega, on_some (Tx.int_all hd hne (by omega)) hq⟩
      · rw [decide_eq_false (show ¬ ((z.length : Nat) : Int) ≤ 60 by omega)]
        refine iteT (brT ?_)
        walk_at "wn"
        rw [Tx.lnum_long (by omega)] at hq
        exact hq
    · rw [decide_eq_false (show ¬ (1 : Int) ≤ ((z.length : Nat) : Int) by omega)]
      refine iteF ?_
      refine iteT ?_
      refine brT ?_
      walk_at "wn"
      have e : TL.tl z = [] := List.length_eq_zero_iff.mp (by rw [← TL.len_tl]; omega)
      rw [Tx.lnum_none (Tx.okN_empty e)] at hq
      exact hq
  | _ => exact h.elim
/-! ### _law_rule_place -/
def optN (o : Option Nat) : Dt := match o with
  | some n => .int (n : Nat)
  | none => .non
/-- the place by own reading of rules -/
def plR (items : List Str) : Option Nat := match badR 0 items with
  | some i => some i
  | none => if items.length < 3 then some items.length else if Po.lastC (items.map Tx.ctV) = 0 then some (items.length - 1) else none
def itemsOk (items : List Str) : Prop := items ≠ [] ∧ items.length ≤ 1000 ∧ ∀ y ∈ items, y.length ≤ 6000 ∧ PyData.strOk y = true ∧ 32 ∉ TL.tl y
def T__law_rule_place : Tp := fun ds q x => match ds with
  | [d] => ∃ items : List Str, d = .lst (items.map .str) ∧ itemsOk items ∧ q (optN (plR items))
  | _ => False
theorem okR_num {i : Nat} {y : Str} : okR i y = (decide (i < 6) && decide ((if i = 0 ∨ i = 5 then 1 else 0) ≤ Tx.lnum y ∧ Tx.lnum y ≤ 3)) := by
  unfold okR Tx.lnum
  cases e : Tx.ctIn y with
  | none =>
    have : decide ((if i = 0 ∨ i = 5 then (1 : Int) else 0) ≤ -1 ∧ (-1 : Int) ≤ 3) = false := decide_eq_false (fun h => by have := h.1; split at this <;> omega)
    dsimp only [Option.getD]
    rw [this]
  | some c => rfl
theorem zero_iff {y : Str} {c : Int} (h : Tx.ctIn y = some c) : c = 0 ↔ y = Str.ofString "0" := by
  obtain ⟨h1, h2, _⟩ := Tx.ctIn_back h
  constructor
  · intro e
    rw [e] at h1
    exact h1.symm
  · intro e
    have : Tx.ctIn y = some 0 := by rw [e]; exact Tx.ctIn_num (n := 0) (by decide) (by decide +kernel)
    rw [h] at this
    exact Option.some.inj this
theorem co_lastV {items : List Str} {y : Str} (hy : items[items.length - 1]? = some y) : Po.lastC (items.map Tx.ctV) = Tx.ctV y := by
  unfold Po.lastC Po.co
  rw [List.length_map, List.getD_eq_getElem?_getD, List.getElem?_map, hy]
  rfl
theorem last_zero {items : List Str} {y : Str} {α : Type} {a b : α} {i : Nat} (hy : items[items.length - 1]? = some y) (h : okR i y = true) : (if Po.lastC (items.map Tx.ctV) = 0 then a else b) = if y = Str.ofString "0" then a else b := by
  rw [co_lastV hy]
  unfold okR at h
  rw [Bool.and_eq_true] at h
  have h2 := h.2
  cases e : Tx.ctIn y with
  | none => rw [e] at h2; cases h2
  | some c =>
    have ec : Tx.ctV y = c := by unfold Tx.ctV; rw [e]; rfl
    rw [ec]
    by_cases hc : c = 0
    · rw [if_pos hc, if_pos ((zero_iff e).mp hc)]
    · rw [if_neg hc, if_neg (fun z => hc ((zero_iff e).mpr z))]
theorem ok__law_rule_place (T : Txt K mg) : FnOk P w K mg base CX0 2 T.a__law_rule_place T.d__law_rule_place ["items"] (spT K T__law_rule_place) := by
  have G__law_number := ok__law_number (P := P) (w := w) (base := base) T
  have hlen : ∀ ds q x, T__law_rule_place ds q x → ds.length = 1 := fun ds q x h => by unfold T__law_rule_place at h; split at h <;> first | rfl | exact h.elim
  refine T.F__law_rule_place.ok sc__law_rule_place (fun vs H Q E h => spT_len h hlen) (fun cdv A outer s H vs Q E hr h => ?body)
  refine ⟨_, (pss_cons (ps_for PassesOwn.never rfl (pi_enumM (by rfl) T.n_enumerate (pa_cons (pv 0) pa_nil)) (pg_tup rfl (pgs_cons (pg_name (i := 1) sc__law_rule_place.nd rfl (.inl rfl)) (pgs_cons (pg_name (i := 2) sc__law_rule_place.nd rfl (.inl rfl)) pgs_nil)))
      (pss_one (ps_if (PW.pt (pw_or (pt_cmpR op_gtA (pv 1) pe_int (nomark _)) (pw_or1 (pt_not (pt_chain op_leA op_leA (pe_callTy call_intA (by rfl) T.n_int (by decide +kernel) (pa_cons (pe_cmpR op_in_seq (pv 1) (pe_tup (pa_cons pe_int (pa_cons pe_int pa_nil))) (by rfl)) pa_nil)) (pe_call G__law_number (hr.mono (by decide)) (by rfl) T.g__law_number T.F__law_number.kp T.b__law_number .nil pass0 (pa_cons (pv 2) pa_nil)) pe_int)))))
      (pss_one (ps_ret (pv 1)))
      pss_nil)))
      (pss_cons (ps_if (pt_cmpR op_ltA (pe_callB call_lenA (by rfl) T.n_len (by decide +kernel) (pa_cons (pv 0) pa_nil)) pe_int (nomark _))
      (pss_one (ps_ret (pe_callB call_lenA (by rfl) T.n_len (by decide +kernel) (pa_cons (pv 0) pa_nil))))
      pss_nil)
      (pss_one (ps_ret (pe_ifExp (pt_cmpR (op_eqD hr.units) (pe_ix ix_seq (pv 0) (pe_un un_neg pe_int) (fun _ _ => rfl)) pe_str (nomark _)) (pe_op op_subA (pe_callB call_lenA (by rfl) T.n_len (by decide +kernel) (pa_cons (pv 0) pa_nil)) pe_int) pe_non))))), ?_⟩
  try dsimp only [cxOf, Cx.nox, Cx.wish, Cx.blk]
  refine def_T0 (K := K) (T := T__law_rule_place) (sb_seq (sb_for (vs := [1, 2]) (si_enum (sa_cons sn_var sa_nil)) (sg_tup (sgs_cons (sg_name (by decide)) (sgs_cons (sg_name (by decide)) sgs_nil)))
      (sb_if (st_or (st_test (sn_op sr_gt sn_var sn_int)) (st_not (st_test (sn_chain sr_le sr_le (sn_cb sc_int (sa_cons (sn_op sr_inI sn_var (sn_tup (sa_cons sn_int (sa_cons sn_int sa_nil)))) sa_nil)) (sn_call0 (sa_cons sn_var sa_nil)) sn_int))))
      (sb_ret sn_var)
      sb_next))
      (sb_seq (sb_if (st_test (sn_op sr_lt (sn_cb sc_len (sa_cons sn_var sa_nil)) sn_int))
      (sb_ret (sn_cb sc_len (sa_cons sn_var sa_nil)))
      sb_next)
      (sb_ret (sn_if (st_test (sn_op sr_eq (sn_op sr_ix sn_var (sn_un su_neg sn_int)) sn_str)) (sn_op sr_sub (sn_cb sc_len (sa_cons sn_var sa_nil)) sn_int) sn_non)))) h (fun ds q x h => by have h2 := hlen ds q x h; exact Nat.le_trans (show ds.length ≤ 1 by omega) (by decide)) (fun ds q x h => ?_)
  have hl0 := hlen _ _ _ h
  match ds, hl0, h with
  | [d0], _, h => ?_
  refine to_ss (b := [.val d0, .no, .no]) rfl ?_
  obtain ⟨items, rfl, ⟨hne, hl, hall⟩, hq⟩ := h
  walk_at "w1"
  refine ⟨fun i ss t => ∃ x2 x3, ss = [.val (.lst (items.map .str)), x2, x3] ∧ t = 0 ∧ badR 0 items = badR i (items.drop i), ⟨_, _, rfl, rfl, by rw [List.drop_zero]⟩, fun i d ss tt hd hI => ?_, fun ss tt hI => ?_⟩
  · obtain ⟨x2, x3, rfl, rfl, hb⟩ := hI
    obtain ⟨e, he, rfl⟩ := enumE_at hd
    rw [List.getElem?_map] at he
    obtain ⟨y, hy, rfl⟩ := Option.map_eq_some_iff.mp he
    have hil : i < items.length := (List.getElem?_eq_some_iff.mp hy).1
    have hmem : y ∈ items := List.mem_of_getElem? hy
    have edrop : items.drop i = y :: items.drop (i + 1) := by
      rw [List.drop_eq_getElem_cons hil]
      congr 1
      exact (List.getElem?_eq_some_iff.mp hy).2
    rw [edrop] at hb
    walk_at "w1"
    refine ⟨rfl, ?_⟩
    have hk := okR_num (i := i) (y := y)
    have hret : okR i y = false → q (.int (i : Nat)) := fun z => by
      unfold plR at hq
      rw [hb, show badR i (y :: items.drop (i + 1)) = some i by unfold badR; rw [z]; rfl] at hq
      exact hq
    have hgo : okR i y = true → badR 0 items = badR (i + 1) (items.drop (i + 1)) := fun z => by
      rw [hb]
      show (if okR i y = true then _ else _) = _
      rw [if_pos z]
    by_cases h5 : 5 < i
    · rw [decide_eq_true (show (5 : Int) < ((i : Nat) : Int) by omega)]
      refine iteT (brT ?_)
      walk_at "wn"
      exact hret (by rw [hk, decide_eq_false (show ¬ i < 6 by omega), Bool.false_and])
    · rw [decide_eq_false (show ¬ (5 : Int) < ((i : Nat) : Int) by omega)]
      rw [decide_eq_true (show i < 6 by omega), Bool.true_and] at hk
      refine iteF ⟨Nat.le_of_ble_eq_true rfl, on_some rfl ?_⟩
      obtain ⟨hy1, hy2, _⟩ := hall y hmem
      refine ⟨by omega, hy2, ?_⟩
      dsimp only
      have eL : (if decide (((i : Nat) : Int) ∈ (fun x => 0 :: x) ((fun x => 5 :: x) ([] : List Int))) = true then (1 : Int) else 0) = if i = 0 ∨ i = 5 then 1 else 0 := by
        by_cases h : i = 0 ∨ i = 5
        · rw [if_pos h, if_pos (decide_eq_true (by simp only [List.mem_cons, List.mem_nil_iff, or_false]; omega))]
        · rw [if_neg h, if_neg (by rw [decide_eq_true_eq]; simp only [List.mem_cons, List.mem_nil_iff, or_false]; omega)]
      rw [eL]
      generalize (if i = 0 ∨ i = 5 then (1 : Int) else 0) = L at hk ⊢
      by_cases a1 : L ≤ Tx.lnum y
      · rw [decide_eq_true a1]
        refine iteT ?_
        by_cases a2 : Tx.lnum y ≤ 3
        · rw [decide_eq_true a2]
          refine brF ?_
          exact ⟨_, _, rfl, rfl, hgo (by rw [hk]; exact decide_eq_true ⟨a1, a2⟩)⟩
        · rw [decide_eq_false a2]
          refine brT ?_
          walk_at "wn"
          exact hret (by rw [hk]; exact decide_eq_false (fun z => a2 z.2))
      · rw [decide_eq_false a1]
        refine iteF ?_
        refine brT ?_
        walk_at "wn"
        exact hret (by rw [hk]; exact decide_eq_false (fun z => a1 z.1))
  · obtain ⟨x2, x3, rfl, rfl, hb⟩ := hI
    rw [enumE_len, List.length_map, List.drop_length] at hb
    have hb0 : badR 0 items = none := hb
    have eq0 : plR items = if items.length < 3 then some items.length else if Po.lastC (items.map Tx.ctV) = 0 then some (items.length - 1) else none := by
      unfold plR
      rw [hb0]
    rw [eq0] at hq
    walk_at "wn"
    rw [List.length_map]
    by_cases l3 : items.length < 3
    · rw [if_pos l3] at hq
      rw [decide_eq_true (show ((items.length : Nat) : Int) < 3 by omega)]
      refine brT ?_
      walk_at "wn"
      rw [List.length_map]
      exact hq
    · rw [if_neg l3] at hq
      rw [decide_eq_false (show ¬ ((items.length : Nat) : Int) < 3 by omega)]
      refine brF ?_
      walk_at "wn"
      have hpos : 0 < items.length := List.length_pos_iff.mpr hne
      obtain ⟨y, hy⟩ : ∃ y, items[items.length - 1]? = some y := ⟨_, List.getElem?_eq_getElem (by omega)⟩
      have hmem := List.mem_of_getElem? hy
      refine on_some (a := .str y) (by
        rw [atD_last (fun z => hne (List.map_eq_nil_iff.mp z)), List.length_map, List.getElem?_map, hy]; rfl) ?_
      refine on_some (eqD_s (hall y hmem).2.1 (by decide +kernel)) ?_
      have hok := okR_of (badR_all items 0 hb0 _ y hy)
      rw [last_zero hy (badR_all items 0 hb0 _ y hy)] at hq
      by_cases hz : y = Str.ofString "0"
      · rw [if_pos hz] at hq
        rw [decide_eq_true hz]
        refine iteT ?_
        rw [List.length_map]
        have ei : ((items.length : Nat) : Int) - 1 = ((items.length - 1 : Nat) : Int) := by omega
        rw [ei]
        exact hq
      · rw [if_neg hz] at hq
        rw [decide_eq_false hz]
        exact iteF hq
/-! ### _law_store_place -/
/-- the place by own reading of stores -/
def plT (items : List Str) : Option Nat := if items.head? = some (Str.ofString "-") then (if items.length = 1 then none else some 1) else match badT 0 items with
  | some i => some i
  | none => if Po.lastC (items.map Tx.ctV) = 0 then some (items.length - 1) else none
def T__law_store_place : Tp := fun ds q x => match ds with
  | [d] => ∃ items : List Str, d = .lst (items.map .str) ∧ itemsOk items ∧ q (optN (plT items))
  | _ => False
theorem okT_num {i : Nat} {y : Str} : okT i y = (decide (i < 41) && !decide (Tx.lnum y < (if i = 40 then 1 else 0))) := by
  unfold okT Tx.lnum
  cases e : Tx.ctIn y with
  | none =>
    have : decide ((-1 : Int) < (if i = 40 then (1 : Int) else 0)) = true := decide_eq_true (by split <;> omega)
    dsimp only [Option.getD]
    rw [this]; rfl
  | some c =>
    dsimp only [Option.getD]
    congr 1
    by_cases h : (if i = 40 then (1 : Int) else 0) ≤ c
    · rw [decide_eq_true h, decide_eq_false (by omega)]; rfl
    · rw [decide_eq_false h, decide_eq_true (by omega)]; rfl
theorem lastT_zero {items : List Str} {y : Str} {α : Type} {a b : α} {i : Nat} (hy : items[items.length - 1]? = some y) (h : okT i y = true) : (if Po.lastC (items.map Tx.ctV) = 0 then a else b) = if y = Str.ofString "0" then a else b := by
  rw [co_lastV hy]
  obtain ⟨c, e, ec, _⟩ := okT_of h
  rw [ec]
  by_cases hc : c = 0
  · rw [if_pos hc, if_pos ((zero_iff e).mp hc)]
  · rw [if_neg hc, if_neg (fun z => hc ((zero_iff e).mpr z))]
theorem ok__law_store_place (T : Txt K mg) : FnOk P w K mg base CX0 2 T.a__law_store_place T.d__law_store_place ["items"] (spT K T__law_store_place) := by
  have G__law_number := ok__law_number (P := P) (w := w) (base := base) T
  have hlen : ∀ ds q x, T__law_store_place ds q x → ds.length = 1 := fun ds q x h => by unfold T__law_store_place at h; split at h <;> first | rfl | exact h.elim
  refine T.F__law_store_place.ok sc__law_store_place (fun vs H Q E h => spT_len h hlen) (fun cdv A outer s H vs Q E hr h => ?body)
  refine ⟨_, (pss_cons (ps_if (pt_cmpR (op_eqD hr.units) (pe_ix ix_seq (pv 0) pe_int (fun _ _ => rfl)) pe_str (nomark _))
      (pss_one (ps_ret (pe_ifExp (pt_cmpR (op_eqD hr.units) (pe_callB call_lenA (by rfl) T.n_len (by decide +kernel) (pa_cons (pv 0) pa_nil)) pe_int (nomark _)) pe_non pe_int)))
      pss_nil)
      (pss_cons (ps_for PassesOwn.never rfl (pi_enumM (by rfl) T.n_enumerate (pa_cons (pv 0) pa_nil)) (pg_tup rfl (pgs_cons (pg_name (i := 1) sc__law_store_place.nd rfl (.inl rfl)) (pgs_cons (pg_name (i := 2) sc__law_store_place.nd rfl (.inl rfl)) pgs_nil)))
      (pss_one (ps_if (PW.pt (pw_or (pt_cmpR op_gtA (pv 1) pe_int (nomark _)) (pw_or1 (pt_cmpR op_ltA (pe_call G__law_number (hr.mono (by decide)) (by rfl) T.g__law_number T.F__law_number.kp T.b__law_number .nil pass0 (pa_cons (pv 2) pa_nil)) (pe_callTy call_intA (by rfl) T.n_int (by decide +kernel) (pa_cons (pe_cmpR (op_eqD hr.units) (pv 1) pe_int (nomark _)) pa_nil)) (nomark _)))))
      (pss_one (ps_ret (pv 1)))
      pss_nil)))
      (pss_one (ps_ret (pe_ifExp (pt_cmpR (op_eqD hr.units) (pe_ix ix_seq (pv 0) (pe_un un_neg pe_int) (fun _ _ => rfl)) pe_str (nomark _)) (pe_op op_subA (pe_callB call_lenA (by rfl) T.n_len (by decide +kernel) (pa_cons (pv 0) pa_nil)) pe_int) pe_non))))), ?_⟩
  try dsimp only [cxOf, Cx.nox, Cx.wish, Cx.blk]
  refine def_T0 (K := K) (T := T__law_store_place) (sb_seq (sb_if (st_test (sn_op sr_eq (sn_op sr_ix sn_var sn_int) sn_str))
      (sb_ret (sn_if (st_test (sn_op sr_eq (sn_cb sc_len (sa_cons sn_var sa_nil)) sn_int)) sn_non sn_int))
      sb_next)
      (sb_seq (sb_for (vs := [1, 2]) (si_enum (sa_cons sn_var sa_nil)) (sg_tup (sgs_cons (sg_name (by decide)) (sgs_cons (sg_name (by decide)) sgs_nil)))
      (sb_if (st_or (st_test (sn_op sr_gt sn_var sn_int)) (st_test (sn_op sr_lt (sn_call0 (sa_cons sn_var sa_nil)) (sn_cb sc_int (sa_cons (sn_op sr_eq sn_var sn_int) sa_nil)))))
      (sb_ret sn_var)
      sb_next))
      (sb_ret (sn_if (st_test (sn_op sr_eq (sn_op sr_ix sn_var (sn_un su_neg sn_int)) sn_str)) (sn_op sr_sub (sn_cb sc_len (sa_cons sn_var sa_nil)) sn_int) sn_non)))) h (fun ds q x h => by have h2 := hlen ds q x h; exact Nat.le_trans (show ds.length ≤ 1 by omega) (by decide)) (fun ds q x h => ?_)
  have hl0 := hlen _ _ _ h
  match ds, hl0, h with
  | [d0], _, h => ?_
  refine to_ss (b := [.val d0, .no, .no]) rfl ?_
  obtain ⟨items, rfl, ⟨hne, hl, hall⟩, hq⟩ := h
  obtain ⟨y0, r0, e0⟩ : ∃ y r, items = y :: r := by
    cases items with
    | nil => exact absurd rfl hne
    | cons y r => exact ⟨y, r, rfl⟩
  walk_at "w1"
  refine on_some (a := .str y0) (by rw [e0]; exact atD_nat (i := 0) rfl) ?_
  have sd : PyData.strOk (Str.ofString "-") = true := by decide +kernel
  refine on_some (eqD_s (hall y0 (by rw [e0]; exact List.mem_cons_self)).2.1 sd) ?_
  have eh : items.head? = some y0 := by rw [e0]; rfl
  by_cases h0 : y0 = Str.ofString "-"
  · have eq0 : plT items = if items.length = 1 then none else some 1 := by unfold plT; rw [if_pos (by rw [eh, h0])]
    rw [eq0] at hq
    rw [decide_eq_true h0]
    refine brT ?_
    walk_at "wn"
    rw [List.length_map]
    refine on_some eqD_int ?_
    by_cases h1 : items.length = 1
    · rw [if_pos h1] at hq
      rw [decide_eq_true (show ((items.length : Nat) : Int) = 1 by omega)]
      exact iteT hq
    · rw [if_neg h1] at hq
      rw [decide_eq_false (show ¬ ((items.length : Nat) : Int) = 1 by omega)]
      exact iteF hq
  · have eq0 : plT items = match badT 0 items with
        | some i => some i
        | none => if Po.lastC (items.map Tx.ctV) = 0 then some (items.length - 1) else none := by unfold plT; rw [if_neg (by rw [eh]; exact fun z => h0 (Option.some.inj z))]
    rw [eq0] at hq
    rw [decide_eq_false h0]
    refine brF ?_
    clear eq0 h0 eh e0
    walk_at "wn"
    refine ⟨fun i ss t => ∃ x2 x3, ss = [.val (.lst (items.map .str)), x2, x3] ∧ t = 0 ∧ badT 0 items = badT i (items.drop i), ⟨_, _, rfl, rfl, by rw [List.drop_zero]⟩, fun i d ss tt hd hI => ?_, fun ss tt hI => ?_⟩
    · obtain ⟨x2, x3, rfl, rfl, hb⟩ := hI
      obtain ⟨e, he, rfl⟩ := enumE_at hd
      rw [List.getElem?_map] at he
      obtain ⟨y, hy, rfl⟩ := Option.map_eq_some_iff.mp he
      have hil : i < items.length := (List.getElem?_eq_some_iff.mp hy).1
      have hmem : y ∈ items := List.mem_of_getElem? hy
      have edrop : items.drop i = y :: items.drop (i + 1) := by
        rw [List.drop_eq_getElem_cons hil]
        congr 1
        exact (List.getElem?_eq_some_iff.mp hy).2
      rw [edrop] at hb
      walk_at "w1"
      refine ⟨rfl, ?_⟩
      have hk := okT_num (i := i) (y := y)
      have hret : okT i y = false → q (.int (i : Nat)) := fun z => by
        rw [hb, show badT i (y :: items.drop (i + 1)) = some i by unfold badT; rw [z]; rfl] at hq
        exact hq
      have hgo : okT i y = true → badT 0 items = badT (i + 1) (items.drop (i + 1)) := fun z => by
        rw [hb]
        show (if okT i y = true then _ else _) = _
        rw [if_pos z]
      by_cases h5 : 40 < i
      · rw [decide_eq_true (show (40 : Int) < ((i : Nat) : Int) by omega)]
        refine iteT (brT ?_)
        walk_at "wn"
        exact hret (by rw [hk, decide_eq_false (show ¬ i < 41 by omega), Bool.false_and])
      · rw [decide_eq_false (show ¬ (40 : Int) < ((i : Nat) : Int) by omega)]
        rw [decide_eq_true (show i < 41 by omega), Bool.true_and] at hk
        obtain ⟨hy1, hy2, _⟩ := hall y hmem
        refine iteF ⟨by omega, hy2, on_some eqD_int ?_⟩
        dsimp only
        have eL : (if decide (((i : Nat) : Int) = 40) = true then (1 : Int) else 0) = if i = 40 then 1 else 0 := by
          by_cases h : i = 40
          · rw [if_pos h, if_pos (decide_eq_true (by omega))]
          · rw [if_neg h, if_neg (by rw [decide_eq_true_eq]; omega)]
        rw [eL]
        generalize (if i = 40 then (1 : Int) else 0) = L at hk ⊢
        by_cases a1 : Tx.lnum y < L
        · rw [decide_eq_true a1]
          refine brT ?_
          walk_at "wn"
          exact hret (by rw [hk, decide_eq_true a1]; rfl)
        · rw [decide_eq_false a1]
          refine brF ?_
          exact ⟨_, _, rfl, rfl, hgo (by rw [hk, decide_eq_false a1]; rfl)⟩
    · obtain ⟨x2, x3, rfl, rfl, hb⟩ := hI
      rw [enumE_len, List.length_map, List.drop_length] at hb
      have hb0 : badT 0 items = none := hb
      rw [hb0] at hq
      dsimp only at hq
      walk_at "wn"
      have hpos : 0 < items.length := List.length_pos_iff.mpr hne
      obtain ⟨y, hy⟩ : ∃ y, items[items.length - 1]? = some y := ⟨_, List.getElem?_eq_getElem (by omega)⟩
      have hmem := List.mem_of_getElem? hy
      refine on_some (a := .str y) (by
        rw [atD_last (fun z => hne (List.map_eq_nil_iff.mp z)), List.length_map, List.getElem?_map, hy]; rfl) ?_
      refine on_some (eqD_s (hall y hmem).2.1 (by decide +kernel)) ?_
      rw [lastT_zero hy (badT_all items 0 hb0 _ y hy)] at hq
      by_cases hz : y = Str.ofString "0"
      · rw [if_pos hz] at hq
        rw [decide_eq_true hz]
        refine iteT ?_
        rw [List.length_map]
        have ei : ((items.length : Nat) : Int) - 1 = ((items.length - 1 : Nat) : Int) := by omega
        rw [ei]
        exact hq
      · rw [if_neg hz] at hq
        rw [decide_eq_false hz]
        exact iteF hq
/-! ### _law_bent -/
theorem cut_to {ys : List Str} {n : Nat} {a : Int} (h : a = n) : cutE (ys.map .str) none (some a) = (ys.take n).map .str := by
  subst h
  unfold cutE
  rw [HT.sIx_none, HT.sIx_nat, List.length_map, List.drop_zero, Nat.sub_zero, ← List.map_take]
  by_cases h : n ≤ ys.length
  · rw [Nat.min_eq_left h]
  · rw [Nat.min_eq_right (by omega), List.take_length, List.take_of_length_le (by omega)]
theorem cut_from {ys : List Str} {n : Nat} {a : Int} (h : a = n) : cutE (ys.map .str) (some a) none = (ys.drop n).map .str := by
  subst h
  unfold cutE
  rw [HT.sIx_none, HT.sIx_nat, List.length_map, ← List.map_drop, ← List.map_take]
  congr 1
  by_cases h : n ≤ ys.length
  · rw [Nat.min_eq_left h]
    exact List.take_of_length_le (by rw [List.length_drop]; omega)
  · rw [Nat.min_eq_right (by omega), Nat.sub_self, List.take_zero, List.drop_eq_nil_iff.mpr (by omega)]
theorem nlA_strs {ys : List Str} : nlA (ys.map .str) = true := nlA_all fun d hd => by
  obtain ⟨y, _, rfl⟩ := List.mem_map.mp hd
  rfl
theorem rep_str {n : Nat} {y : Str} : (List.replicate n [Dt.str y]).flatten = (List.replicate n y).map .str := by
  induction n with
  | zero => rfl
  | succ n ih => rw [List.replicate_succ, List.flatten_cons, ih, List.replicate_succ]; rfl
theorem and_no {b1 b2 : Bool} {A B : WS} {ss : List Sx} {t : Int} {P : Pst} (h : b1 = true → b2 = false) (k : B ss t P) : if b1 = true then wBr b2 A B ss t P else wBr false A B ss t P := by
  split
  · rw [h (by assumption)]; exact k
  · exact k

def okY (y : Str) : Prop := y.length ≤ 5000 ∧ PyData.strOk y = true ∧ 32 ∉ TL.tl y
instance : DecidablePred okY := fun y => by unfold okY; infer_instance
theorem okY_nine {n : Nat} {y : Str} (hn : n ≤ 5000) (e : y = Txt.mul (Str.ofString "9") (n : Int)) : okY y := by
  have e9 : (Str.ofString "9") = ⟨#[57]⟩ := by decide +kernel
  rw [e9] at e
  have el : TL.tl y = List.replicate n 57 := by rw [e]; exact PyProof.Rows.mul_one_list 57 n
  refine ⟨by rw [TL.len_tl, el, List.length_replicate]; exact hn, ?_, fun h => ?_⟩
  · unfold PyData.strOk
    rw [Array.all_eq_true_iff_forall_mem]
    intro x hx
    have hx2 : x ∈ TL.tl y := by
      show x ∈ y.cps.toList
      simpa using hx
    rw [el] at hx2
    rw [(List.mem_replicate.mp hx2).2]
    decide
  · rw [el] at h
    exact absurd (List.mem_replicate.mp h).2 (by decide)
theorem mulOk_nine {n : Int} (h : 1 < n) (hn : n ≤ 5000) : MulOk (Str.ofString "9") n := by
  have e9 : (Str.ofString "9").length = 1 := by decide +kernel
  refine ⟨?_, fun _ _ => ?_, fun _ _ => ?_⟩
  · rw [Bool.or_eq_false_iff]
    exact ⟨decide_eq_false (by omega), decide_eq_false (by omega)⟩
  · rw [e9]
    have h1 : n ≤ (2 ^ 63 - 1) / 1 := by omega
    have h2 : (1 : Int) ≤ (2 ^ 63 - 1) / n := by
      rw [Int.le_ediv_iff_mul_le (by omega)]
      omega
    omega
  · rw [e9]
    exact decide_eq_false (by have : PySem.sizeLine = 16777216 := rfl; omega)
def T__law_bent : Tpm := fun ds t q _ => match ds with
  | [d] => ∃ items : List Str, d = .lst (items.map .str) ∧ items ≠ [] ∧ items.length ≤ 60 ∧ (∀ y ∈ items, okY y) ∧ (0 ≤ t ∧ t + 30 ≤ 1000000) ∧ ∀ rows t', itemsOk rows → t ≤ t' → t' ≤ t + 30 → q (.lst (rows.map .str)) t'
  | _ => False
theorem ok__law_bent (T : Txt K mg) : FnOk P w K mg base CX0 3 T.a__law_bent T.d__law_bent ["pen", "items"] (spM K T__law_bent) := by
  have G__law_draw := ok__law_draw (P := P) (w := w) (base := base) T
  have G__law_pick := ok__law_pick (P := P) (w := w) (base := base) T
  have hlen : ∀ ds t q x, T__law_bent ds t q x → ds.length + 1 = 2 := fun ds t q x h => by unfold T__law_bent at h; split at h <;> first | rfl | exact h.elim
  refine T.F__law_bent.ok sc__law_bent (fun vs H Q E h => spM_len h hlen) (fun cdv A outer s H vs Q E hr h => ?body)
  refine ⟨_, (pss_cons (ps_set (i := 2) sc__law_bent.nd rfl (.inl rfl) (pe_callTy call_listA (by rfl) T.n_list (by decide +kernel) (pa_cons (pv 1) pa_nil)))
      (pss_cons (ps_set (i := 3) sc__law_bent.nd rfl (.inl rfl) (pe_lst (pa_cons pe_str (pa_cons pe_str (pa_cons pe_str (pa_cons pe_str (pa_cons pe_str (pa_cons pe_str (pa_cons pe_str (pa_cons pe_str (pa_cons pe_str (pa_cons pe_str (pa_cons pe_str (pa_cons pe_str (pa_cons pe_str (pa_cons pe_str (pa_cons pe_str (pa_cons pe_str (pa_cons (pe_op _root_.E.op_mulS pe_str pe_int) (pa_cons (pe_op _root_.E.op_mulS pe_str pe_int) (pa_cons (pe_op _root_.E.op_mulS pe_str pe_int) (pa_cons pe_str pa_nil))))))))))))))))))))))
      (pss_cons (ps_for PassesOwn.never rfl (pi_range1 rfl T.n_range (pa_cons (pe_op op_addA pe_int (pe_call G__law_draw (hr.mono (by decide)) (by rfl) T.g__law_draw T.F__law_draw.kp T.b__law_draw .nil pass0 (pa_cons (pv 0) (pa_cons pe_int pa_nil)))) pa_nil)) (pg_name (i := 4) sc__law_bent.nd rfl (.inl rfl))
      (pss_cons (ps_par3 (i := 5) (j := 6) (l := 7) (by rfl) sc__law_bent.nd rfl rfl rfl (by decide) (by decide) (by decide) rfl rfl rfl (pa_cons (pe_call G__law_draw (hr.mono (by decide)) (by rfl) T.g__law_draw T.F__law_draw.kp T.b__law_draw .nil pass0 (pa_cons (pv 0) (pa_cons pe_int pa_nil))) (pa_cons (pe_call G__law_draw (hr.mono (by decide)) (by rfl) T.g__law_draw T.F__law_draw.kp T.b__law_draw .nil pass0 (pa_cons (pv 0) (pa_cons (pe_callB call_lenA (by rfl) T.n_len (by decide +kernel) (pa_cons (pv 2) pa_nil)) pa_nil))) (pa_cons (pe_call G__law_draw (hr.mono (by decide)) (by rfl) T.g__law_draw T.F__law_draw.kp T.b__law_draw .nil pass0 (pa_cons (pv 0) (pa_cons (pe_callB call_lenA (by rfl) T.n_len (by decide +kernel) (pa_cons (pv 2) pa_nil)) pa_nil))) pa_nil))) (by rfl))
      (pss_one (ps_if (pt_cmpR (op_eqD hr.units) (pv 5) pe_int (nomark _))
      (pss_one (ps_asg (pe_tup (pa_cons (pe_ix ix_seq (pv 2) (pv 7) (fun _ _ => rfl)) (pa_cons (pe_ix ix_seq (pv 2) (pv 6) (fun _ _ => rfl)) pa_nil))) (pg_tup rfl (pgs_cons (pg_sub (pv 2) (pv 6) set_list) (pgs_cons (pg_sub (pv 2) (pv 7) set_list) pgs_nil)))))
      (pss_one (ps_if (PW.pt (pw_and (pt_cmpR (op_eqD hr.units) (pv 5) pe_int (nomark _)) (pw_and1 (pt_cmpR op_gtA (pe_callB call_lenA (by rfl) T.n_len (by decide +kernel) (pa_cons (pv 2) pa_nil)) pe_int (nomark _)))))
      (pss_one (ps_set (i := 2) sc__law_bent.nd rfl (.inl rfl) (pe_op op_addA (pe_slice sl_anyA (pv 2) po_none (po_some (pv 6))) (pe_slice sl_anyA (pv 2) (po_some (pe_op op_addA (pv 6) pe_int)) po_none))))
      (pss_one (ps_if (pt_cmpR op_ltA (pv 5) pe_int (nomark _))
      (pss_one (ps_set (i := 2) sc__law_bent.nd rfl (.inl rfl) (pe_op op_addA (pe_op op_addA (pe_slice sl_anyA (pv 2) po_none (po_some (pv 6))) (pe_lst (pa_cons (pe_call G__law_pick (hr.mono (by decide)) (by rfl) T.g__law_pick T.F__law_pick.kp T.b__law_pick .nil pass0 (pa_cons (pv 0) (pa_cons (pv 3) pa_nil))) pa_nil))) (pe_slice sl_anyA (pv 2) (po_some (pe_op op_addA (pv 6) (pe_callTy call_intA (by rfl) T.n_int (by decide +kernel) (pa_cons (pe_cmpR (op_eqD hr.units) (pv 5) pe_int (nomark _)) pa_nil)))) po_none))))
      (pss_one (ps_if (pt_cmpR (op_eqD hr.units) (pv 5) pe_int (nomark _))
      (pss_one (ps_set (i := 2) sc__law_bent.nd rfl (.inl rfl) (pe_slice sl_anyA (pv 2) po_none (po_some (pe_op op_addA (pv 6) pe_int)))))
      (pss_one (ps_set (i := 2) sc__law_bent.nd rfl (.inl rfl) (pe_op op_addA (pe_op op_addA (pv 2) (pe_op op_mulAll (pe_lst (pa_cons pe_str pa_nil)) (pe_call G__law_pick (hr.mono (by decide)) (by rfl) T.g__law_pick T.F__law_pick.kp T.b__law_pick .nil pass0 (pa_cons (pv 0) (pa_cons (pe_lst (pa_cons pe_int (pa_cons pe_int (pa_cons pe_int pa_nil)))) pa_nil))))) (pe_lst (pa_cons (pe_call G__law_pick (hr.mono (by decide)) (by rfl) T.g__law_pick T.F__law_pick.kp T.b__law_pick .nil pass0 (pa_cons (pv 0) (pa_cons (pe_lst (pa_cons pe_str (pa_cons pe_str (pa_cons pe_str pa_nil)))) pa_nil))) pa_nil)))))))))))))))
      (pss_one (ps_ret (pv 2)))))), ?_⟩
  try dsimp only [cxOf, Cx.nox, Cx.wish, Cx.blk]
  refine def_M0 (K := K) (T := T__law_bent) (sb_seq (sb_own (nn_cb sc_listN (sa_cons sn_var sa_nil)))
      (sb_seq (sb_asg (vs := [3]) (sn_new (nn_lst (sa_cons sn_str (sa_cons sn_str (sa_cons sn_str (sa_cons sn_str (sa_cons sn_str (sa_cons sn_str (sa_cons sn_str (sa_cons sn_str (sa_cons sn_str (sa_cons sn_str (sa_cons sn_str (sa_cons sn_str (sa_cons sn_str (sa_cons sn_str (sa_cons sn_str (sa_cons sn_str (sa_cons (sn_op sr_mulS sn_str sn_int) (sa_cons (sn_op sr_mulS sn_str sn_int) (sa_cons (sn_op sr_mulS sn_str sn_int) (sa_cons sn_str sa_nil)))))))))))))))))))))) (sg_name (by decide)))
      (sb_seq (sb_for (vs := [4]) (si_rng1 (sa_cons (sn_op sr_add sn_int (sn_callM0 (sa_cons sn_int sa_nil))) sa_nil)) (sg_name (by decide))
      (sb_seq (sb_par3Z (sa_cons (sn_callM0 (sa_cons sn_int sa_nil)) (sa_cons (sn_callM0 (sa_cons (sn_cb sc_len (sa_cons sn_var sa_nil)) sa_nil)) (sa_cons (sn_callM0 (sa_cons (sn_cb sc_len (sa_cons sn_var sa_nil)) sa_nil)) sa_nil))))
      (sb_if (st_test (sn_op sr_eq sn_var sn_int))
      (sb_swap (sa_cons (sn_op sr_ix sn_var sn_var) (sa_cons (sn_op sr_ix sn_var sn_var) sa_nil)) sn_var sn_var)
      (sb_ifZ (st_and (st_test (sn_op sr_eq sn_var sn_int)) (st_test (sn_op sr_gt (sn_cb sc_len (sa_cons sn_var sa_nil)) sn_int)))
      (sb_ownZ (nn_op sr_addN (sn_sl ss_cut sn_var so_none (so_some sn_var)) (sn_sl ss_cut sn_var (so_some (sn_op sr_add sn_var sn_int)) so_none)))
      (sb_if (st_test (sn_op sr_lt sn_var sn_int))
      (sb_ownZ (nn_op sr_addN (sn_op sr_add (sn_sl ss_cut sn_var so_none (so_some sn_var)) (sn_new (nn_lst (sa_cons (sn_callM0 (sa_cons sn_var sa_nil)) sa_nil)))) (sn_sl ss_cut sn_var (so_some (sn_op sr_add sn_var (sn_cb sc_int (sa_cons (sn_op sr_eq sn_var sn_int) sa_nil)))) so_none)))
      (sb_if (st_test (sn_op sr_eq sn_var sn_int))
      (sb_ownZ (nn_sl sn_var so_none (so_some (sn_op sr_add sn_var sn_int))))
      (sb_ownZ (nn_op sr_addN (sn_op sr_add sn_var (sn_new (nn_rep (nn_lst (sa_cons sn_str sa_nil)) (sn_callM0 (sa_cons (sn_new (nn_lst (sa_cons sn_int (sa_cons sn_int (sa_cons sn_int sa_nil))))) sa_nil))))) (sn_new (nn_lst (sa_cons (sn_callM0 (sa_cons (sn_new (nn_lst (sa_cons sn_str (sa_cons sn_str (sa_cons sn_str sa_nil))))) sa_nil)) sa_nil)))))))))))
      sb_retO))) h (fun ds t q x h => by have h2 := hlen ds t q x h; exact Nat.le_trans (show ds.length ≤ 1 by omega) (by decide)) (fun ds t q x h => ?_)
  have hl0 := hlen _ _ _ _ h
  match ds, hl0, h with
  | [d0], _, h => ?_
  refine to_ss (b := [.pen, .val d0, .no, .no, .no, .no, .no, .no]) rfl ?_
  obtain ⟨items, rfl, hne, hl, hall, ⟨t0, t1⟩, hq⟩ := h
  unfold wS2
  walk_at "w1"
  refine then_ ?_
  refine ⟨mulOk_nine (by decide) (by decide), fun n1 e1 => ⟨mulOk_nine (by decide) (by decide), fun n2 e2 => ⟨mulOk_nine (by decide) (by decide), fun n3 e3 => ⟨Nat.le_of_ble_eq_true rfl, then_ ?_⟩⟩⟩⟩
  generalize hO : [Dt.str (Str.ofString "0"), .str (Str.ofString "1"), .str (Str.ofString "2"), .str (Str.ofString "3"), .str (Str.ofString "4"), .str (Str.ofString ""), .str (Str.ofString "-"), .str (Str.ofString "-1"), .str (Str.ofString "-0"), .str (Str.ofString "00"), .str (Str.ofString "01"), .str (Str.ofString "+1"), .str (Str.ofString "1_0"), .str (Str.ofString "1\n"), .str (Str.ofString "a"), .str (Str.ofString "1.0"), .str n1, .str n2, .str n3, .str (Str.ofString "x")] = odd
  have hodd : ∀ e ∈ odd, ∃ y, e = .str y ∧ okY y := by
    rw [← hO]
    repeat (refine List.forall_mem_cons.mpr ⟨⟨_, rfl, by decide +kernel⟩, ?_⟩)
    refine List.forall_mem_cons.mpr ⟨⟨_, rfl, okY_nine (n := 60) (by decide) e1⟩, ?_⟩
    refine List.forall_mem_cons.mpr ⟨⟨_, rfl, okY_nine (n := 61) (by decide) e2⟩, ?_⟩
    refine List.forall_mem_cons.mpr ⟨⟨_, rfl, okY_nine (n := 5000) (by decide) e3⟩, ?_⟩
    refine List.forall_mem_cons.mpr ⟨⟨_, rfl, by decide +kernel⟩, ?_⟩
    exact fun e h => absurd h List.not_mem_nil
  have hol : odd ≠ [] ∧ odd.length ≤ 10000 := by rw [← hO]; exact ⟨List.cons_ne_nil _ _, Nat.le_of_ble_eq_true rfl⟩
  clear hO e1 e2 e3
  unfold wFor
  walk_at "w1"
  refine ⟨⟨by decide, by decide, by omega, by omega⟩, fun r r0 r1 => ?_⟩
  walk_at "w1"
  refine ⟨by constructor <;> omega, fun i s tt => ∃ rows x4 x5 x6 x7, s = [.pen, .val (.lst (items.map .str)), .own (rows.map .str), .val (.lst odd), x4, x5, x6, x7] ∧ (rows ≠ [] ∧ rows.length ≤ 60 + 41 * i ∧ ∀ y ∈ rows, okY y) ∧ t ≤ tt ∧ tt ≤ t + 1 + 5 * (i : Int) ∧ i ≤ 3, ⟨items, _, _, _, _, rfl, ⟨hne, by omega, hall⟩, by omega, by omega, by omega⟩, fun i d s tt hd hI => ?_, fun s tt hI => ?_⟩
  · obtain ⟨rows, x4, x5, x6, x7, rfl, ⟨rne, rl, rall⟩, a1, a2, a3⟩ := hI
    obtain ⟨hin, rfl⟩ := rangeE_get hd
    have hin : i < 3 := by omega
    have rpos : 0 < rows.length := List.length_pos_iff.mpr rne
    have eL : (rows.map Dt.str).length = rows.length := List.length_map ..
    walk_at "w1"
    refine ⟨⟨by decide, by decide, by omega, by omega⟩, fun way w0 w1 => ?_⟩
    walk_at "w1"
    rw [eL]
    refine ⟨⟨by omega, by omega, by omega, by omega⟩, fun at_ b0 b1 => ?_⟩
    walk_at "w1"
    refine ⟨⟨by omega, by omega, by omega, by omega⟩, fun two c0 c1 => ?_⟩
    refine ⟨rfl, then_ ?_⟩
    have fin : ∀ rows2 x4 x5 x6 x7 t2, rows2 ≠ [] → rows2.length ≤ rows.length + 41 → (∀ y ∈ rows2, okY y) → tt ≤ t2 → t2 ≤ tt + 5 → ∃ rows x4' x5' x6' x7', [Sx.pen, .val (.lst (items.map .str)), .own (rows2.map .str), .val (.lst odd), x4, x5, x6, x7] = [Sx.pen, .val (.lst (items.map .str)), .own (rows.map .str), .val (.lst odd), x4', x5', x6', x7'] ∧ (rows ≠ [] ∧ rows.length ≤ 60 + 41 * (i + 1) ∧ ∀ y ∈ rows, okY y) ∧ t ≤ t2 ∧ t2 ≤ t + 1 + 5 * ((i + 1 : Nat) : Int) ∧ i + 1 ≤ 3 := fun rows2 _ _ _ _ t2 h1 h2 h3 h4 h5 => ⟨rows2, _, _, _, _, rfl, ⟨h1, by omega, h3⟩, by omega, by omega, by omega⟩
    walk_at "w1"
    refine on_some eqD_int ?_
    by_cases h0 : way = 0
    · rw [decide_eq_true h0]
      refine brT ?_
      walk_at "w1"
      obtain ⟨na, rfl⟩ : ∃ n : Nat, at_ = n := ⟨at_.toNat, by omega⟩
      obtain ⟨nb, rfl⟩ : ∃ n : Nat, two = n := ⟨two.toNat, by omega⟩
      have la : na < rows.length := by omega
      have lb : nb < rows.length := by omega
      have ga := List.getElem?_eq_getElem la
      have gb := List.getElem?_eq_getElem lb
      refine on_some (atD_nat (by rw [List.getElem?_map, gb]; rfl)) (on_some (atD_nat (by rw [List.getElem?_map, ga]; rfl)) ⟨rfl, ?_⟩)
      refine on_some (Evl.ixN_nat (by rw [eL]; exact la)) (on_some (Evl.ixN_nat (by rw [eL]; exact lb)) ?_)
      rw [← List.map_set, ← List.map_set]
      refine fin _ _ _ _ _ _ (fun z => ?_) (by rw [List.length_set, List.length_set]; omega) (fun y hy => ?_) (by omega) (by omega)
      · have := congrArg List.length z
        rw [List.length_set, List.length_set] at this
        exact rne (List.length_eq_zero_iff.mp this)
      · rcases List.mem_or_eq_of_mem_set hy with hy | rfl
        · rcases List.mem_or_eq_of_mem_set hy with hy | rfl
          · exact rall y hy
          · exact rall _ (List.getElem_mem _)
        · exact rall _ (List.getElem_mem _)
    rw [decide_eq_false h0]
    refine brF ?_
    walk_at "w1"
    refine on_some eqD_int ?_
    rw [eL]
    by_cases h1 : way = 1 ∧ 1 < rows.length
    · rw [decide_eq_true h1.1, decide_eq_true (show (1 : Int) < (rows.length : Nat) by omega)]
      refine iteT (brT ?_)
      walk_at "w1"
      obtain ⟨na, rfl⟩ : ∃ n : Nat, at_ = n := ⟨at_.toNat, by omega⟩
      rw [cut_to rfl, cut_from (n := na + 1) (by omega), ← List.map_append]
      simp only [List.length_map]
      refine ⟨by rw [List.length_take, List.length_drop]; omega, nlA_strs, ?_⟩
      refine fin _ _ _ _ _ _ (fun z => ?_) ?_ (fun y hy => ?_) (by omega) (by omega)
      · have := congrArg List.length z
        rw [List.length_append, List.length_take, List.length_drop] at this
        simp only [List.length_nil] at this
        omega
      · rw [List.length_append, List.length_take, List.length_drop]
        omega
      · rcases List.mem_append.mp hy with hy | hy
        · exact rall y (List.mem_of_mem_take hy)
        · exact rall y (List.mem_of_mem_drop hy)
    refine and_no (fun z => ?_) ?_
    · rw [decide_eq_true_eq] at z
      exact decide_eq_false (fun y => h1 ⟨z, by omega⟩)
    walk_at "w1"
    by_cases h4 : way < 4
    · rw [decide_eq_true h4]
      refine brT ?_
      walk_at "w1"
      obtain ⟨na, rfl⟩ : ∃ n : Nat, at_ = n := ⟨at_.toNat, by omega⟩
      refine ⟨⟨hol.1, hol.2, by omega, by omega⟩, fun e he => ?_⟩
      obtain ⟨y0, rfl, hy0⟩ := hodd e he
      rw [cut_to rfl]
      refine ⟨by decide, by rw [List.length_map, List.length_take]; omega, on_some eqD_int ?_⟩
      obtain ⟨m, em, hm⟩ : ∃ m : Nat, ((na : Int) + if decide (way = 3) = true then 1 else 0) = m ∧ m ≤ na + 1 := by
        by_cases h : way = 3
        · exact ⟨na + 1, by rw [if_pos (decide_eq_true h)]; omega, by omega⟩
        · exact ⟨na, by rw [if_neg (by rw [decide_eq_true_eq]; exact h)]; omega, by omega⟩
      rw [cut_from em, show [Dt.str y0] = [y0].map .str from rfl, ← List.map_append, ← List.map_append]
      simp only [List.length_map]
      refine ⟨by rw [List.length_append, List.length_take, List.length_drop]; show _ + 1 + _ ≤ _; omega, nlA_strs, ?_⟩
      refine fin _ _ _ _ _ _ (fun z => ?_) ?_ (fun y hy => ?_) (by omega) (by omega)
      · have := congrArg List.length z
        rw [List.length_append, List.length_append] at this
        simp only [List.length_nil, List.length_cons] at this
        omega
      · rw [List.length_append, List.length_append, List.length_take, List.length_drop]
        show _ + 1 + _ ≤ _
        omega
      · rcases List.mem_append.mp hy with hy | hy
        · rcases List.mem_append.mp hy with hy | hy
          · exact rall y (List.mem_of_mem_take hy)
          · rw [List.mem_singleton.mp hy]; exact hy0
        · exact rall y (List.mem_of_mem_drop hy)
    rw [decide_eq_false h4]
    refine brF ?_
    walk_at "w1"
    refine on_some eqD_int ?_
    by_cases h5 : way = 4
    · rw [decide_eq_true h5]
      refine brT ?_
      walk_at "w1"
      obtain ⟨na, rfl⟩ : ∃ n : Nat, at_ = n := ⟨at_.toNat, by omega⟩
      rw [cut_to (n := na + 1) (by omega)]
      refine ⟨nlA_strs, ?_⟩
      refine fin _ _ _ _ _ _ (fun z => ?_) ?_ (fun y hy => ?_) (by omega) (by omega)
      · have := congrArg List.length z
        rw [List.length_take] at this
        simp only [List.length_nil] at this
        omega
      · rw [List.length_take]
        omega
      · exact rall y (List.mem_of_mem_take hy)
    rw [decide_eq_false h5]
    refine brF ?_
    walk_at "w1"
    refine ⟨by decide, by decide, ⟨by decide, by decide, by omega, by omega⟩, fun e he => ?_⟩
    obtain ⟨k, rfl, hk⟩ : ∃ k : Int, e = .int k ∧ (k = 1 ∨ k = 2 ∨ k = 40) := by
      simp only [List.mem_cons, List.not_mem_nil, or_false] at he
      rcases he with rfl | rfl | rfl
      · exact ⟨1, rfl, .inl rfl⟩
      · exact ⟨2, rfl, .inr (.inl rfl)⟩
      · exact ⟨40, rfl, .inr (.inr rfl)⟩
    dsimp only
    rw [rep_str, ← List.map_append]
    simp only [List.length_map]
    refine ⟨⟨by omega, by omega, by omega⟩, by rw [List.length_replicate]; omega, by decide, ⟨by decide, by decide, by omega, by omega⟩, fun e he => ?_⟩
    obtain ⟨y0, rfl, hy0⟩ : ∃ y, e = .str y ∧ okY y := by
      simp only [List.mem_cons, List.not_mem_nil, or_false] at he
      rcases he with rfl | rfl | rfl
      · exact ⟨_, rfl, by decide +kernel⟩
      · exact ⟨_, rfl, by decide +kernel⟩
      · exact ⟨_, rfl, by decide +kernel⟩
    rw [show [Dt.str y0] = [y0].map .str from rfl, ← List.map_append]
    refine ⟨by decide, by rw [List.length_append, List.length_replicate]; omega, nlA_strs, ?_⟩
    refine fin _ _ _ _ _ _ (fun z => ?_) ?_ (fun y hy => ?_) (by omega) (by omega)
    · have := congrArg List.length z
      rw [List.length_append] at this
      simp only [List.length_nil, List.length_cons] at this
      omega
    · rw [List.length_append, List.length_append, List.length_replicate]
      show _ + _ + 1 ≤ _
      omega
    · rcases List.mem_append.mp hy with hy | hy
      · rcases List.mem_append.mp hy with hy | hy
        · exact rall y hy
        · rw [(List.mem_replicate.mp hy).2]; decide +kernel
      · rw [List.mem_singleton.mp hy]; exact hy0
  · obtain ⟨rows, x4, x5, x6, x7, rfl, ⟨rne, rl, rall⟩, a1, a2, a3⟩ := hI
    rw [rangeE_len] at rl a2
    walk_at "wn"
    exact hq rows tt ⟨rne, by omega, fun y hy => by have := rall y hy; exact ⟨by have := this.1; omega, this.2⟩⟩ a1 (by omega)
/-! ### _law_heard -/
--@ ask():Rule|Store
/-- what is heard: the text of a rule or a store that came; of a text that is bad its place -/
def An__law_heard {K : PySem.W.Frag} {mg : Str → Option Value} (T : Txt K mg) : Dt → (Dt → Prop) → Prop := fun d q => (∃ r, d = .obj T.c_Rule (ruleF r) ∧ ruleB r = true ∧ q (.str (numsT r))) ∨ ∃ s, d = .obj T.c_Store (storeF s) ∧ (s.length ≤ 41 ∧ ∀ n ∈ s, 0 ≤ n ∧ n < 10 ^ 60) ∧ q (.str (storeT s))
def Ax__law_heard {K : PySem.W.Frag} {mg : Str → Option Value} (T : Txt K mg) : Xn → (Dt → Prop) → Prop := fun X q => ∃ a b : Dt, X.fs = [(("item" : Str), b), (("line" : Str), a)] ∧ X.C = T.c_BadText ∧ q (.tup [a, b])
theorem gt__law_heard {X : Cx} (T : Txt X.K X.mg) (hr0 : Room 5 X.A) {g : Addr} {cdg : Value} {nm : Str} (hpf : Su.PF X.prog := by assumption) : LamX.GivesTo X N__law_heard "_law_heard" (defScope s__law_heard) g cdg (defBody s__law_heard) "ask" nm (TTh X.K (An__law_heard T) (Ax__law_heard T)) := by -- hear
  intro f c1 s H Q tl act hc h
  obtain ⟨pp, F, t, q, fh, hp, hTl, k⟩ := h
  have G_Rule___str___Rule := ok_Rule___str__ (P := X.prog) (w := X.w) (base := X.base) T
  have G_Store___str___Store := ok_Store___str__ (P := X.prog) (w := X.w) (base := X.base) T
  have hr := Room.deeper (k := 4) hr0 (envOfC "_law_heard" (defScope s__law_heard) s.heap.objs.size g cdg)
  refine ⟨_, (pss_cons (ps_set (i := 1) sc__law_heard.nd rfl (.inl rfl) pe_non)
      (pss_cons (ps_try_work (i := 2) rfl rfl rfl sc__law_heard.nd rfl rfl ⟨rfl, by decide, .inl T.gC_TreeError⟩ LamX.takes0 (fun W pn xe tk po => pss_one (ps_set (i := 1) sc__law_heard.nd rfl (.inl rfl) (pe_callTy (_root_.E.call_or (_root_.E.call_strOwn G_Rule___str___Rule T.s_Rule.1 T.s_Rule.2 T.b_Rule___str__ pass0 (hr.mono (by decide))) (_root_.E.call_strOwn G_Store___str___Store T.s_Store.1 T.s_Store.2 T.b_Store___str__ pass0 (hr.mono (by decide)))) (by rfl) T.n_str (by decide +kernel) (pa_cons (pe_ask act rfl tk) pa_nil))))
      (fun _ _ _ _ _ _ _ => (pss_one (ps_set (i := 1) sc__law_heard.nd rfl (.inl rfl) (pe_ifExp (pt_val (pe_callB (callK (K := X.K) rIsiE rfl call_isiE) (by rfl) T.n_isinstance (by decide +kernel) (pa_cons (pv 2) (pa_cons (C8.pe_gc (v := .ref T.c_BadText) rfl ⟨_, T.gC_BadText, rfl⟩) pa_nil)))) (pe_tup (pa_cons (_root_.E.pe_xvK (K := X.K) rfl (pv 2)) (pa_cons (_root_.E.pe_xvK (K := X.K) rfl (pv 2)) pa_nil))) pe_non)))))
      (pss_one (ps_ret (pv 1))))), ?_⟩
  try dsimp only [cxOf, Cx.nox, Cx.wish, Cx.blk]
  refine hear_end (sb_seq (sb_asg (vs := [1]) sn_non (sg_name (by decide)))
      (sb_seq (sb_tryWork (by decide) (sb_askSet (j := 1) (sc_or sc_strOwn sc_strOwn) hTl rfl hp hc)
      (sb_asg (vs := [1]) (sn_if (st_B (sn_cb sc_isi (sa_cons sn_var (sa_cons sn_cls sa_nil)))) (sn_tup (sa_cons (sn_xv sn_var) (sa_cons (sn_xv sn_var) sa_nil))) sn_non) (sg_name (by decide))))
      (sb_ret sn_var))) fh hp k ?_
  generalize hB : (⟨pl pp, F, H, pp⟩ : Bse) = B0
  clear hB hTl hp act hc k fh
  walk_at "w1"
  walk_at "wn"
  refine ⟨rfl, rfl, fun d t1 h => ?_, fun X1 t1 h => ?_⟩
  · rcases h with ⟨r, rfl, hr', h⟩ | ⟨s, rfl, hs, h⟩
    · refine .inl ⟨rfl, (ruleF r), r, rfl, rfl, ?_, ?_⟩
      · have hr2 := hr'
        unfold ruleB at hr2
        simp only [Bool.and_eq_true, decide_eq_true_eq, List.all_eq_true] at hr2
        exact ⟨hr2.1.1.1.2, fun n hn => hr2.1.1.2 n hn⟩
      · walk_at "wn"
        exact h
    · refine .inr ⟨rfl, _, s, rfl, rfl, hs, ?_⟩
      walk_at "wn"
      exact h
  · obtain ⟨C, fs⟩ := X1
    obtain ⟨a, b, e1, e2, h⟩ := h
    dsimp only at e1 e2
    subst e1 e2
    refine ⟨T.m_BadText_TreeError, ?_⟩
    refine isi_mk _ _ true rfl rfl T.k_BadText_BadText (fun _ _ z => (by cases z; exact T.E_BadText.is)) (fun _ _ z => (by cases z)) (iteT ?_)
    exact ⟨T.E_BadText.xf, T.no_BadText, T.E_BadText.xf, T.no2_BadText, Nat.le_of_ble_eq_true rfl, h⟩
/-! ### _law_both_right -/
def T__law_both_right {K : PySem.W.Frag} {mg : Str → Option Value} (T : Txt K mg) : Tpm := fun ds t q _ => match ds with
  | [d] => ∃ items : List Str, d = .lst (items.map .str) ∧ itemsOk items ∧ q (.bl true) t
  | _ => False
theorem split_items {items : List Str} (h : itemsOk items) : Txt.split (Txt.join (Str.ofString " ") items) (Str.ofString " ") = items := TL.split_join (s := 32) (S := []) Tx.tl_blank (by decide +kernel) h.1 fun p hp => (h.2.2 p hp).2.2
theorem sum_items : ∀ {items : List Str}, (∀ y ∈ items, y.length ≤ 6000) → (items.map fun x => x.length).sum ≤ items.length * 6000
  | [], _ => Nat.le_refl _
  | y :: r, h => by
    have h1 := h y List.mem_cons_self
    have h2 := sum_items (items := r) fun z hz => h z (List.mem_cons_of_mem _ hz)
    rw [List.map_cons, List.sum_cons, List.length_cons]
    omega
theorem join_len {items : List Str} (h : itemsOk items) : (items.map fun x => x.length).sum + items.length * (Str.ofString " ").length ≤ 16000000 := by
  have h1 := sum_items fun y hy => (h.2.2 y hy).1
  have h2 := h.2.1
  have h3 : (Str.ofString " ").length = 1 := by decide +kernel
  rw [h3]
  omega
theorem joinL_len : ∀ {parts : List (List Nat)}, (TL.joinL [32] parts).length ≤ (parts.map List.length).sum + parts.length
  | [] => Nat.le_refl _
  | [p] => by show p.length ≤ _; simp
  | p :: q :: r => by
    have h := joinL_len (parts := q :: r)
    rw [show TL.joinL [32] (p :: q :: r) = p ++ ([32] ++ TL.joinL [32] (q :: r)) from rfl, List.length_append, List.length_append, List.map_cons (l := q :: r), List.sum_cons, List.length_cons (a := p)]
    show _ + (1 + _) ≤ _
    omega
theorem text_len {items : List Str} (h : itemsOk items) : (Txt.join (Str.ofString " ") items).length ≤ 16000000 := by
  rw [TL.len_tl, TL.join_eq, TL.tl_join, Tx.tl_blank]
  refine Nat.le_trans joinL_len ?_
  have h1 := join_len h
  have h3 : (Str.ofString " ").length = 1 := by decide +kernel
  rw [h3] at h1
  rw [List.map_map, List.length_map]
  have e : (List.length ∘ TL.tl) = fun x : Str => x.length := funext fun x => (TL.len_tl x).symm
  rw [e]
  omega
theorem text_ok {items : List Str} (h : itemsOk items) : PyData.strOk (Txt.join (Str.ofString " ") items) = true := by
  unfold PyData.strOk
  rw [Array.all_eq_true_iff_forall_mem]
  intro c hc
  have hm : c ∈ TL.tl (Txt.join (Str.ofString " ") items) := Array.mem_toList_iff.mpr hc
  rw [TL.join_eq, TL.tl_join, Tx.tl_blank] at hm
  rcases Tx.mem_joinL hm with q | ⟨p, hp, q⟩
  · rw [List.mem_singleton.mp q]; decide
  · obtain ⟨z, hz, rfl⟩ := List.mem_map.mp hp
    have := (h.2.2 z hz).2.1
    unfold PyData.strOk at this
    rw [Array.all_eq_true_iff_forall_mem] at this
    exact this c (Array.mem_toList_iff.mp q)
theorem back_items {items : List Str} (h : ∀ y ∈ items, ∃ c, Tx.ctIn y = some c) : (items.map Tx.ctV).map Tx.num = items := by
  induction items with
  | nil => rfl
  | cons y r ih =>
    obtain ⟨c, e⟩ := h y List.mem_cons_self
    rw [List.map_cons, List.map_cons, ih fun z hz => h z (List.mem_cons_of_mem _ hz)]
    unfold Tx.ctV
    rw [e]
    show Tx.num c :: r = _
    rw [(Tx.ctIn_back e).1]
theorem plR_rd (items : List Str) : plR items = match rdR items with
    | .inl i => some i
    | .inr _ => none := by
  unfold plR rdR
  cases badR 0 items with
  | some i => rfl
  | none =>
    dsimp only
    by_cases h1 : items.length < 3
    · rw [if_pos h1, if_pos h1]
    · rw [if_neg h1, if_neg h1]
      by_cases h2 : Po.lastC (items.map Tx.ctV) = 0
      · rw [if_pos h2, if_pos h2]
      · rw [if_neg h2, if_neg h2]
theorem plT_rd {items : List Str} (h : itemsOk items) : plT items = match rdT items with
    | .inl i => some i
    | .inr _ => none := by
  have hp := List.length_pos_iff.mpr h.1
  unfold plT rdT
  by_cases h0 : items.head? = some (Str.ofString "-")
  · rw [if_pos h0, if_pos h0]
    by_cases h1 : items.length = 1
    · rw [if_pos h1, if_neg (by omega)]
    · rw [if_neg h1, if_pos (by omega)]
  · rw [if_neg h0, if_neg h0]
    cases badT 0 items with
    | some i => rfl
    | none =>
      dsimp only
      by_cases h2 : Po.lastC (items.map Tx.ctV) = 0
      · rw [if_pos h2, if_pos h2]
      · rw [if_neg h2, if_neg h2]
theorem rdR_good {items : List Str} {ns : List Int} (h : rdR items = .inr ns) : ruleB ns = true ∧ numsT ns = Txt.join (Str.ofString " ") items := by
  unfold rdR at h
  cases hb : badR 0 items with
  | some i => rw [hb] at h; cases h
  | none =>
    rw [hb] at h
    dsimp only at h
    by_cases h1 : items.length < 3
    · rw [if_pos h1] at h; cases h
    · rw [if_neg h1] at h
      by_cases h2 : Po.lastC (items.map Tx.ctV) = 0
      · rw [if_pos h2] at h; cases h
      · rw [if_neg h2] at h
        cases h
        have all := badR_all items 0 hb
        have l6 : items.length ≤ 6 := by
          have := all (items.length - 1) _ (List.getElem?_eq_getElem (by omega))
          unfold okR at this
          rw [Bool.and_eq_true, decide_eq_true_eq] at this
          omega
        refine ⟨badR_rule hb (by omega) l6 h2, ?_⟩
        unfold numsT
        refine congrArg (Txt.join Tx.blank) (back_items fun y hy => ?_)
        obtain ⟨j, hj⟩ := List.getElem?_of_mem hy
        have := all j y hj
        unfold okR at this
        rw [Bool.and_eq_true] at this
        cases e : Tx.ctIn y with
        | none => rw [e] at this; cases this.2
        | some c => exact ⟨c, rfl⟩
theorem rdT_good {items : List Str} {ns : List Int} (hi : itemsOk items) (h : rdT items = .inr ns) : (ns.length ≤ 41 ∧ ∀ n ∈ ns, 0 ≤ n ∧ n < 10 ^ 60) ∧ storeT ns = Txt.join (Str.ofString " ") items := by
  unfold rdT at h
  by_cases h0 : items.head? = some (Str.ofString "-")
  · rw [if_pos h0] at h
    by_cases h1 : 1 < items.length
    · rw [if_pos h1] at h; cases h
    · rw [if_neg h1] at h
      cases h
      refine ⟨⟨by decide, fun n hn => absurd hn List.not_mem_nil⟩, ?_⟩
      match items, hi.1, h0, h1 with
      | [y], _, h0, _ =>
        have : y = Str.ofString "-" := Option.some.inj h0
        rw [this]
        decide +kernel
      | y :: z :: r, _, _, h1 => exact absurd (show 1 < (y :: z :: r).length by simp) h1
  · rw [if_neg h0] at h
    cases hb : badT 0 items with
    | some i => rw [hb] at h; cases h
    | none =>
      rw [hb] at h
      dsimp only at h
      by_cases h2 : Po.lastC (items.map Tx.ctV) = 0
      · rw [if_pos h2] at h; cases h
      · rw [if_neg h2] at h
        cases h
        obtain ⟨_, g1, g2⟩ := badT_store hb h2
        refine ⟨⟨g1, g2⟩, ?_⟩
        unfold storeT
        rw [if_neg (fun z => hi.1 (List.map_eq_nil_iff.mp z))]
        refine congrArg (Txt.join Tx.blank) (back_items fun y hy => ?_)
        obtain ⟨j, hj⟩ := List.getElem?_of_mem hy
        obtain ⟨c, e, _⟩ := okT_of (badT_all items 0 hb j y hj)
        exact ⟨c, e⟩
theorem ok__law_both_right (T : Txt K mg) (hTB : ∀ p ∈ lamTabs K, LamX.TabB base mg p.1 p.2) : FnOk P w K mg base CX0 11 T.a__law_both_right T.d__law_both_right ["items"] (spG K (T__law_both_right T)) := by
  have G__law_rule_place := ok__law_rule_place (P := P) (w := w) (base := base) T
  have G__law_store_place := ok__law_store_place (P := P) (w := w) (base := base) T
  have G_Rule_read := ok_Rule_read (P := P) (w := w) (base := base) T
  have G_Store_read := ok_Store_read (P := P) (w := w) (base := base) T
  have hlen : ∀ ds t q x, (T__law_both_right T) ds t q x → ds.length = 1 := fun ds t q x h => by unfold T__law_both_right at h; split at h <;> first | rfl | exact h.elim
  refine fun_okC T.F__law_both_right T.at__law_both_right sc__law_both_right (fun vs H Q E h => spG_len h hlen) (fun A outer s H vs Q E hr h => ?body)
  refine ⟨_, (pss_cons (ps_asg (pe_tup (pa_cons (_root_.E.pe_joinE (K := K) rfl pe_str (pv 0)) (pa_cons (pe_call G__law_rule_place (hr.mono (by decide)) (by rfl) T.g__law_rule_place T.F__law_rule_place.kp T.b__law_rule_place .nil pass0 (pa_cons (pv 0) pa_nil)) (pa_cons (pe_call G__law_store_place (hr.mono (by decide)) (by rfl) T.g__law_store_place T.F__law_store_place.kp T.b__law_store_place .nil pass0 (pa_cons (pv 0) pa_nil)) pa_nil)))) (pg_tup rfl (pgs_cons (pg_name (i := 1) sc__law_both_right.nd rfl (.inr rfl)) (pgs_cons (pg_name (i := 2) sc__law_both_right.nd rfl (.inl rfl)) (pgs_cons (pg_name (i := 3) sc__law_both_right.nd rfl (.inl rfl)) pgs_nil)))))
      (pss_cons (ps_if (pt_cmpR (op_neD hr.units) (pe_hand (TT := TTh K (An__law_heard T) (Ax__law_heard T)) (k := 8) rfl T.g__law_heard T.F__law_heard T.b__law_heard sc__law_heard rfl (.inl rfl) (fun _ => gt__law_heard (X := (cxOf CX0 P w K mg base N__law_both_right "_law_both_right" (defScope s__law_both_right) T.a__law_both_right (.ref (He.cT K ("_law_both_right", none)).1) A outer s H E).nox) T (hr.mono (by decide))) (hTB _ lm__law_both_right) rfl mt__law_both_right (uq__law_both_right T) (hr.mono (by decide)) (LamX.lamS_by (sc := defScope s__law_both_right) (by decide +kernel)) rfl (fun _ _ _ _ _ => rfl) (fun _ _ _ _ _ _ _ hr => (_root_.E.pe_sta rfl T.gC_Rule T.S_Rule_read G_Rule_read T.F_Rule_read.kp T.b_Rule_read (hr.mono (by decide)) (passes_call (takes_of rfl rfl rfl rfl) fun _ _ _ _ z => z) (pa_cons (pv 1) pa_nil)))) (pe_ifExp (pt_cmpR op_isA (pv 2) pe_non (nomark _)) (pv 1) (pe_tup (pa_cons pe_int (pa_cons (pv 2) pa_nil)))) (nomark _))
      (pss_one (ps_ret pe_bl))
      pss_nil)
      (pss_one (ps_ret (pe_cmpR (op_eqD hr.units) (pe_hand (TT := TTh K (An__law_heard T) (Ax__law_heard T)) (k := 6) rfl T.g__law_heard T.F__law_heard T.b__law_heard sc__law_heard rfl (.inl rfl) (fun _ => gt__law_heard (X := (cxOf CX0 P w K mg base N__law_both_right "_law_both_right" (defScope s__law_both_right) T.a__law_both_right (.ref (He.cT K ("_law_both_right", none)).1) A outer s H E).nox) T (hr.mono (by decide))) (hTB _ lm__law_both_right) rfl mt__law_both_right (uq__law_both_right T) (hr.mono (by decide)) (LamX.lamS_by (sc := defScope s__law_both_right) (by decide +kernel)) rfl (fun _ _ _ _ _ => rfl) (fun _ _ _ _ _ _ _ hr => (_root_.E.pe_staK rfl T.gC_Store T.S_Store_read G_Store_read T.F_Store_read.kp (kb_Store_read_0_text T) (hr.mono (by decide)) (passes_call (takes_of rfl rfl rfl rfl) fun _ _ _ _ z => z) (pk_cons (pv 1) pk_nil)))) (pe_ifExp (pt_cmpR op_isA (pv 3) pe_non (nomark _)) (pv 1) (pe_tup (pa_cons pe_int (pa_cons (pv 3) pa_nil)))) (nomark _)))))), ?_⟩
  try dsimp only [cxOf, Cx.nox, Cx.wish, Cx.blk]
  refine def_G0 (K := K) (N := N__law_both_right.dropLast) (a := "zz pen") (T := (T__law_both_right T)) (sb_seq (sb_asg (vs := [1, 2, 3]) (sn_tup (sa_cons (sn_m1 sm_join sn_str sn_var) (sa_cons (sn_call0 (sa_cons sn_var sa_nil)) (sa_cons (sn_call0 (sa_cons sn_var sa_nil)) sa_nil)))) (sg_tup (sgs_cons (sg_name (by decide)) (sgs_cons (sg_name (by decide)) (sgs_cons (sg_name (by decide)) sgs_nil)))))
      (sb_seq (sb_if (st_test (sn_op sr_ne (sn_handG (i := 4) mt__law_both_right fun _ => (sn_call (sa_cons sn_var sa_nil))) (sn_if (st_test (sn_op sr_is sn_var sn_non)) sn_var (sn_tup (sa_cons sn_int (sa_cons sn_var sa_nil))))))
      (sb_ret sn_bl)
      sb_next)
      (sb_ret (sn_op sr_eq (sn_handG (i := 4) mt__law_both_right fun _ => (sn_callK (ks_Store_read_0_text) sa_nil (sa_cons sn_var sa_nil))) (sn_if (st_test (sn_op sr_is sn_var sn_non)) sn_var (sn_tup (sa_cons sn_int (sa_cons sn_var sa_nil)))))))) h (fun ds t q x h => by have h2 := hlen ds t q x h; exact Nat.le_trans (show ds.length ≤ 1 by omega) (by decide)) (fun ds t q x h => ?_)
  have hl0 := hlen _ _ _ _ h
  match ds, hl0, h with
  | [d0], _, h => ?_
  refine to_ss (b := [.val d0, .no, .no, .no, .gho]) rfl ?_
  obtain ⟨items, rfl, hi, hq⟩ := h
  walk_at "w1"
  refine on_some (unS_map _) ⟨Nat.le_trans (join_len hi) (by decide), ?_⟩
  refine ⟨items, rfl, hi, ⟨items, rfl, hi, Nat.le_of_ble_eq_true rfl, rfl, ?_⟩⟩
  walk_at "wn"
  have so := text_ok hi
  have hs := split_items hi
  have hlen := text_len hi
  have hpc : ∀ y ∈ items, y.length ≤ 90000 ∧ PyData.strOk y = true := fun y hy => by
    have := hi.2.2 y hy
    exact ⟨by omega, this.2.1⟩
  have eR := plR_rd items
  have eT := plT_rd hi
  refine ⟨rfl, hlen, ?_⟩
  rw [show Txt.split (Txt.join (Str.ofString " ") items) Tx.blank = items from hs]
  refine ⟨fun y hy => (hpc y hy).1, ?_⟩
  have eqp : ∀ i : Nat, eqD (.tup [.int 0, .int (i : Int)]) (.tup [.int 0, .int (i : Int)]) = some true := fun i => eqD_refl (n := 2) (shE_tup (shE_consA shE_int (shE_consA shE_int shE_nilA))) (by decide)
  cases e : rdR items with
  | inl i =>
    rw [e] at eR
    dsimp only at eR ⊢
    rw [eR]
    refine ⟨_, _, rfl, rfl, ?_⟩
    dsimp only [optN]
    refine iteF ⟨Nat.le_of_ble_eq_true rfl, on_some (eqp i) (brF ?_)⟩
    walk_at "wn"
    refine ⟨rfl, ?_⟩
    refine ⟨hlen, ?_⟩
    rw [show Txt.split (Txt.join (Str.ofString " ") items) Tx.blank = items from hs]
    refine ⟨hpc, ?_⟩
    cases e2 : rdT items with
    | inl i =>
      rw [e2] at eT
      dsimp only at eT ⊢
      rw [eT]
      refine ⟨_, _, rfl, rfl, ?_⟩
      dsimp only
      exact iteF ⟨Nat.le_of_ble_eq_true rfl, on_some (eqp i) hq⟩
    | inr ns =>
      rw [e2] at eT
      obtain ⟨g1, g2⟩ := rdT_good hi e2
      dsimp only at eT ⊢
      rw [eT]
      refine .inr ⟨ns, rfl, g1, ?_⟩
      rw [g2]
      dsimp only
      refine iteT (on_some (eqD_s so so) ?_)
      rw [decide_eq_true rfl]
      exact hq
  | inr ns =>
    rw [e] at eR
    obtain ⟨g1, g2⟩ := rdR_good e
    dsimp only at eR ⊢
    rw [eR]
    refine .inl ⟨ns, rfl, g1, ?_⟩
    rw [g2]
    dsimp only [optN]
    refine iteT (on_some (eqD_s so so) ?_)
    rw [decide_eq_true rfl]
    refine brF ?_
    walk_at "wn"
    refine ⟨rfl, ?_⟩
    refine ⟨hlen, ?_⟩
    rw [show Txt.split (Txt.join (Str.ofString " ") items) Tx.blank = items from hs]
    refine ⟨hpc, ?_⟩
    cases e2 : rdT items with
    | inl i =>
      rw [e2] at eT
      dsimp only at eT ⊢
      rw [eT]
      refine ⟨_, _, rfl, rfl, ?_⟩
      dsimp only
      exact iteF ⟨Nat.le_of_ble_eq_true rfl, on_some (eqp i) hq⟩
    | inr ns =>
      rw [e2] at eT
      obtain ⟨g1, g2⟩ := rdT_good hi e2
      dsimp only at eT ⊢
      rw [eT]
      refine .inr ⟨ns, rfl, g1, ?_⟩
      rw [g2]
      dsimp only
      refine iteT (on_some (eqD_s so so) ?_)
      rw [decide_eq_true rfl]
      exact hq
/-! ### law -/
theorem rdR_odd {B C : Addr} {d : Dt} {q : Dt → Prop} {x : Xn → Prop} (h : plainD d = true ∧ isTy d "str" = false) (hx : x ⟨B, [("item", .int 0), ("line", .int 0)]⟩) : T_Rule_read B C [d] q x := by
  cases d with
  | str z => exact absurd h.2 (by intro z; cases z)
  | _ => exact ⟨h, hx⟩
theorem rdT_odd {B C : Addr} {d : Dt} {q : Dt → Prop} {x : Xn → Prop} (h : plainD d = true ∧ isTy d "str" = false) (hx : x ⟨B, [("item", .int 0), ("line", .int 0)]⟩) : T_Store_read B C [d] q x := by
  cases d with
  | str z => exact absurd h.2 (by intro z; cases z)
  | _ => exact ⟨h, hx⟩
theorem rule_mem {ns : List Int} (h : ruleB ns = true) : ∀ n ∈ ns, 0 ≤ n ∧ n ≤ 3 := by
  unfold ruleB at h
  simp only [Bool.and_eq_true, decide_eq_true_eq, List.all_eq_true] at h
  exact h.1.1.2
theorem lc_mapF {wi : WA} {j : Nat} {we : WE} {vs : List Nat} {ss : List Sx} {t : Int} {q : List Dt → Int → Prop} {x : XQ} (P : List Dt → Int → Prop) (f : Dt → Dt) (hi : ∀ k : List Dt → Int → Prop, (∀ ds t', P ds t' → k ds t') → wi ss t k x) (hl : ∀ ds t', P ds t' → ds.length ≤ 100000)
    (he : ∀ ds t' (d : Dt) (k : Dt → Int → Prop), P ds t' → d ∈ ds → k (f d) t' → we ((wipeE ss vs).set j (.val d)) t' k fun _ _ => False) (hq : ∀ ds t', P ds t' → q (ds.map f) t') : wLc wi (wgName j) wYes we vs ss t q x := by
  show wi ss t (fun ds t1 => wLc (fun _ t k _ => k ds t) (wgName j) wYes we vs ss t1 q x) x
  exact hi _ fun ds t' hP => lc_map' f (fun k hk => hk) (hl _ _ hP) (fun d k hd hk => he ds t' d k hP hd hk) (hq _ _ hP)
def numD (d : Dt) : Dt := match d with
  | .int n => .str (Tx.num n)
  | d => d
theorem numD_map (r : List Int) : (r.map Dt.int).map numD = (r.map Tx.num).map .str := by
  rw [List.map_map, List.map_map]; rfl
theorem num_len3 {n : Int} (h : 0 ≤ n) (hn : n ≤ 3) : (Tx.num n).length ≤ 1 := Tx.num_len h (by decide) (by omega)
theorem num_ok {n : Int} (h : 0 ≤ n) (hn : n ≤ 3) : okY (Tx.num n) := by
  have : n = 0 ∨ n = 1 ∨ n = 2 ∨ n = 3 := by omega
  rcases this with rfl | rfl | rfl | rfl
  all_goals decide +kernel
theorem okY_items {l : List Str} (h : l ≠ []) (hl : l.length ≤ 1000) (ha : ∀ y ∈ l, okY y) : itemsOk l := ⟨h, hl, fun y hy => by have := ha y hy; exact ⟨by have := this.1; omega, this.2⟩⟩
theorem for_any {wi : WA} {g : WG} {body : WS} {ss : List Sx} {t : Int} {P : Pst} (Q : List Dt → Int → Prop) (h : ∀ k : List Dt → Int → Prop, (∀ ds t', Q ds t' → k ds t') → wi ss t k P.x) (I : Nat → List Sx → Int → Prop) (h0 : ∀ ds t', Q ds t' → I 0 ss t')
    (hs : ∀ ds t', Q ds t' → ∀ i d s tt, ds[i]? = some d → I i s tt → g d s fun s2 => body s2 tt { P with nx := I (i + 1), ct := I (i + 1), bk := P.nx }) (hd : ∀ ds t', Q ds t' → ∀ s tt, I ds.length s tt → P.nx s tt) : wFor wi g body ss t P :=
  h _ fun ds t' hQ => ⟨I, h0 _ _ hQ, hs _ _ hQ, hd _ _ hQ⟩
/-- a row that may be bent -/
def rowOk (l : List Str) : Prop := l ≠ [] ∧ l.length ≤ 60 ∧ ∀ y ∈ l, okY y
theorem rowOk.app {l : List Str} {y : Str} (h : rowOk l) (hy : okY y) : itemsOk (l ++ [y]) := okY_items (fun z => h.1 (List.append_eq_nil_iff.mp z).1) (by rw [List.length_append]; have := h.2.1; show _ + 1 ≤ _; omega) fun z hz => by
  rcases List.mem_append.mp hz with hz | hz
  · exact h.2.2 z hz
  · rw [List.mem_singleton.mp hz]; exact hy
theorem rowOk.ok {l : List Str} (h : rowOk l) : itemsOk l := okY_items h.1 (by have := h.2.1; omega) h.2.2
theorem snoc_map {l : List Str} {y : Str} : l.map Dt.str ++ [Dt.str y] = (l ++ [y]).map .str := by rw [List.map_append]; rfl
theorem rowOk.num {r : List Int} (h0 : r ≠ []) (hl : r.length ≤ 60) (h : ∀ n ∈ r, 0 ≤ n ∧ n ≤ 3) : rowOk (r.map Tx.num) := ⟨fun z => h0 (List.map_eq_nil_iff.mp z), by rw [List.length_map]; exact hl, fun y hy => by
  obtain ⟨n, hn, rfl⟩ := List.mem_map.mp hy
  exact num_ok (h n hn).1 (h n hn).2⟩
theorem ok_law (T : Txt K mg) (hTB : ∀ p ∈ lamTabs K, LamX.TabB base mg p.1 p.2) : FnOk P w K mg base CX0 12 T.a_law T.d_law ["script"] (spLawT K) := by
  have G__law_pen := ok__law_pen (P := P) (w := w) (base := base) T
  have G__law_pick := ok__law_pick (P := P) (w := w) (base := base) T
  have G__law_both_right := ok__law_both_right (P := P) (w := w) (base := base) T hTB
  have G__law_rule := ok__law_rule (P := P) (w := w) (base := base) T
  have G__law_store := ok__law_store (P := P) (w := w) (base := base) T
  have G__law_bent := ok__law_bent (P := P) (w := w) (base := base) T
  have G_Rule_read := ok_Rule_read (P := P) (w := w) (base := base) T
  have G_Store_read := ok_Store_read (P := P) (w := w) (base := base) T
  refine fun_okC T.F_law T.at_law sc_law (fun vs H Q E h => by obtain ⟨_, _, rfl, _⟩ := h; rfl) (fun A outer s H vs Q E hr h => ?body)
  refine ⟨_, (pss_cons (ps_set (i := 1) sc_law.nd rfl (.inl rfl) (pe_call G__law_pen (hr.mono (by decide)) (by rfl) T.g__law_pen T.F__law_pen.kp T.b__law_pen .nil pass0 (pa_cons (pv 0) pa_nil)))
      (pss_cons (ps_for PassesOwn.never rfl (pi_range1 rfl T.n_range (pa_cons pe_int pa_nil)) (pg_name (i := 2) sc_law.nd rfl (.inl rfl))
      (pss_cons (ps_setLc (i := 3) (own := [("number", 8)]) rfl sc_law.nd rfl rfl (sw_true rfl rfl rfl (by decide +kernel)) (pi_seqM (pe_call G__law_rule (hr.mono (by decide)) (by rfl) T.g__law_rule T.F__law_rule.kp T.b__law_rule .nil pass0 (pa_cons (pv 1) pa_nil))) (blkOk_by (own := [("number", 8)]) (N := N_law) (sc := defScope s_law) (by decide +kernel)) (fun _ _ _ _ _ => (pg_name (i := 8) sc_law.nd rfl (.inl rfl))) (fun _ _ _ _ _ => pts_nil) (fun _ _ _ _ _ => (pe_callTy _root_.E.call_strI (by rfl) T.n_str (by decide +kernel) (pa_cons (pv 8) pa_nil))))
      (pss_cons (ps_setLc (i := 4) (own := [("number", 8)]) rfl sc_law.nd rfl rfl (sw_true rfl rfl rfl (by decide +kernel)) (pi_seqM (pe_call G__law_store (hr.mono (by decide)) (by rfl) T.g__law_store T.F__law_store.kp T.b__law_store .nil pass0 (pa_cons (pv 1) (pa_cons pe_int pa_nil)))) (blkOk_by (own := [("number", 8)]) (N := N_law) (sc := defScope s_law) (by decide +kernel)) (fun _ _ _ _ _ => (pg_name (i := 8) sc_law.nd rfl (.inl rfl))) (fun _ _ _ _ _ => pts_nil) (fun _ _ _ _ _ => (pe_callTy _root_.E.call_strI (by rfl) T.n_str (by decide +kernel) (pa_cons (pv 8) pa_nil))))
      (pss_cons (ps_for PassesOwn.never rfl (pi_seqM (pe_tup (pa_cons (pv 3) (pa_cons (pe_ifExp (pt_cmpR (op_neD hr.units) (pv 4) (pe_lst pa_nil) (nomark _)) (pv 4) (pe_lst (pa_cons pe_str pa_nil))) pa_nil)))) (pg_name (i := 5) sc_law.nd rfl (.inl rfl))
      (pss_cons (ps_if (PW.pt (pw_or (pt_not (pt_val (pe_call G__law_both_right (hr.mono (by decide)) (by rfl) T.g__law_both_right T.F__law_both_right.kp T.b__law_both_right .nil pass0 (pa_cons (pv 5) pa_nil)))) (pw_or (pt_not (pt_val (pe_call G__law_both_right (hr.mono (by decide)) (by rfl) T.g__law_both_right T.F__law_both_right.kp T.b__law_both_right .nil pass0 (pa_cons (pe_op op_addA (pv 5) (pe_lst (pa_cons pe_str pa_nil))) pa_nil)))) (pw_or1 (pt_not (pt_val (pe_call G__law_both_right (hr.mono (by decide)) (by rfl) T.g__law_both_right T.F__law_both_right.kp T.b__law_both_right .nil pass0 (pa_cons (pe_op op_addA (pv 5) (pe_lst (pa_cons pe_str pa_nil))) pa_nil))))))))
      (pss_one (ps_ret pe_bl))
      pss_nil)
      (pss_one (ps_for PassesOwn.never rfl (pi_range1 rfl T.n_range (pa_cons pe_int pa_nil)) (pg_name (i := 6) sc_law.nd rfl (.inl rfl))
      (pss_one (ps_if (pt_not (pt_val (pe_call G__law_both_right (hr.mono (by decide)) (by rfl) T.g__law_both_right T.F__law_both_right.kp T.b__law_both_right .nil pass0 (pa_cons (_root_.E.pe_splitE (_root_.E.pe_joinE (K := K) rfl pe_str (pe_call G__law_bent (hr.mono (by decide)) (by rfl) T.g__law_bent T.F__law_bent.kp T.b__law_bent .nil pass0 (pa_cons (pv 1) (pa_cons (pv 5) pa_nil)))) pe_str) pa_nil))))
      (pss_one (ps_ret pe_bl))
      pss_nil))))))
      (pss_cons (ps_set (i := 7) sc_law.nd rfl (.inr rfl) (pe_call G__law_pick (hr.mono (by decide)) (by rfl) T.g__law_pick T.F__law_pick.kp T.b__law_pick .nil pass0 (pa_cons (pv 1) (pa_cons (pe_lst (pa_cons pe_non (pa_cons pe_int (pa_cons (pv 3) (pa_cons pe_bl (pa_cons (pe_tup (pa_cons pe_str (pa_cons pe_str (pa_cons pe_str pa_nil)))) pa_nil)))))) pa_nil))))
      (pss_cons (ps_if (pt_cmpR (op_neD hr.units) (pe_hand (TT := TTh K (An__law_heard T) (Ax__law_heard T)) (k := 8) rfl T.g__law_heard T.F__law_heard T.b__law_heard sc__law_heard rfl (.inl rfl) (fun _ => gt__law_heard (X := (cxOf CX0 P w K mg base N_law "law" (defScope s_law) T.a_law (.ref (He.cT K ("law", none)).1) A outer s H E).nox) T (hr.mono (by decide))) (hTB _ lm_law) rfl mt_law (uq_law T) (hr.mono (by decide)) (LamX.lamS_by (sc := defScope s_law) (by decide +kernel)) rfl (fun _ _ _ _ _ => rfl) (fun _ _ _ _ _ _ _ hr => (_root_.E.pe_sta rfl T.gC_Rule T.S_Rule_read G_Rule_read T.F_Rule_read.kp T.b_Rule_read (hr.mono (by decide)) (passes_call (takes_of rfl rfl rfl rfl) fun _ _ _ _ z => z) (pa_cons (pv 7) pa_nil)))) (pe_tup (pa_cons pe_int (pa_cons pe_int pa_nil))) (nomark _))
      (pss_one (ps_ret pe_bl))
      pss_nil)
      (pss_one (ps_if (pt_cmpR (op_neD hr.units) (pe_hand (TT := TTh K (An__law_heard T) (Ax__law_heard T)) (k := 6) rfl T.g__law_heard T.F__law_heard T.b__law_heard sc__law_heard rfl (.inl rfl) (fun _ => gt__law_heard (X := (cxOf CX0 P w K mg base N_law "law" (defScope s_law) T.a_law (.ref (He.cT K ("law", none)).1) A outer s H E).nox) T (hr.mono (by decide))) (hTB _ lm_law) rfl mt_law (uq_law T) (hr.mono (by decide)) (LamX.lamS_by (sc := defScope s_law) (by decide +kernel)) rfl (fun _ _ _ _ _ => rfl) (fun _ _ _ _ _ _ _ hr => (_root_.E.pe_sta rfl T.gC_Store T.S_Store_read G_Store_read T.F_Store_read.kp T.b_Store_read (hr.mono (by decide)) (passes_call (takes_of rfl rfl rfl rfl) fun _ _ _ _ z => z) (pa_cons (pv 7) pa_nil)))) (pe_tup (pa_cons pe_int (pa_cons pe_int pa_nil))) (nomark _))
      (pss_one (ps_ret pe_bl))
      pss_nil))))))))
      (pss_cons (ps_for PassesOwn.never rfl (pi_seqM (pe_tup (pa_cons (pe_lst (pa_cons pe_str (pa_cons pe_str pa_nil))) (pa_cons (pe_lst (pa_cons pe_str (pa_cons pe_str pa_nil))) (pa_cons (pe_lst (pa_cons pe_str pa_nil)) (pa_cons (pe_lst (pa_cons pe_str pa_nil)) (pa_cons (pe_op op_mulAll (pe_lst (pa_cons pe_str pa_nil)) pe_int) (pa_cons (pe_op op_addA (pe_op op_mulAll (pe_lst (pa_cons pe_str pa_nil)) pe_int) (pe_lst (pa_cons pe_str pa_nil))) (pa_cons (pe_op op_addA (pe_op op_mulAll (pe_lst (pa_cons pe_str pa_nil)) pe_int) (pe_lst (pa_cons pe_str pa_nil))) (pa_cons (pe_lst (pa_cons pe_str (pa_cons pe_str (pa_cons pe_str (pa_cons pe_str (pa_cons pe_str (pa_cons pe_str pa_nil))))))) (pa_cons (pe_lst (pa_cons pe_str (pa_cons pe_str (pa_cons pe_str (pa_cons pe_str (pa_cons pe_str (pa_cons pe_str (pa_cons pe_str pa_nil)))))))) pa_nil))))))))))) (pg_name (i := 5) sc_law.nd rfl (.inl rfl))
      (pss_one (ps_if (pt_not (pt_val (pe_call G__law_both_right (hr.mono (by decide)) (by rfl) T.g__law_both_right T.F__law_both_right.kp T.b__law_both_right .nil pass0 (pa_cons (pv 5) pa_nil))))
      (pss_one (ps_ret pe_bl))
      pss_nil)))
      (pss_one (ps_ret pe_bl))))), ?_⟩
  try dsimp only [cxOf, Cx.nox, Cx.wish, Cx.blk]
  refine def_law (K := K) (N := ["lap", "rule", "store", "row", "turn", "odd", "number"]) (sb_seq (sb_for (vs := [2]) (si_rng1 (sa_cons sn_int sa_nil)) (sg_name (by decide))
      (sb_seq (sb_asg (vs := [3]) (sn_new (nn_lc (si_seq (sn_callM0 sa_nil)) (sg_name (by decide)) st_yes (sn_cb sc_strI (sa_cons sn_var sa_nil)))) (sg_name (by decide)))
      (sb_seq (sb_asg (vs := [4]) (sn_new (nn_lc (si_seq (sn_callM0 (sa_cons sn_int sa_nil))) (sg_name (by decide)) st_yes (sn_cb sc_strI (sa_cons sn_var sa_nil)))) (sg_name (by decide)))
      (sb_seq (sb_for (vs := [5]) (si_seq (sn_tup (sa_cons sn_var (sa_cons (sn_if (st_test (sn_op sr_ne sn_var (sn_new (nn_lst sa_nil)))) sn_var (sn_new (nn_lst (sa_cons sn_str sa_nil)))) sa_nil)))) (sg_name (by decide))
      (sb_seq (sb_if (st_or (st_not (st_B (sn_callG (i := 1) (sa_cons sn_var sa_nil)))) (st_or (st_not (st_B (sn_callG (i := 1) (sa_cons (sn_op sr_add sn_var (sn_new (nn_lst (sa_cons sn_str sa_nil)))) sa_nil)))) (st_not (st_B (sn_callG (i := 1) (sa_cons (sn_op sr_add sn_var (sn_new (nn_lst (sa_cons sn_str sa_nil)))) sa_nil))))))
      (sb_ret sn_bl)
      sb_next)
      (sb_for (vs := [6]) (si_rng1 (sa_cons sn_int sa_nil)) (sg_name (by decide))
      (sb_if (st_not (st_B (sn_callG (i := 1) (sa_cons (sn_m1 sm_split (sn_m1 sm_join sn_str (sn_callM0 (sa_cons sn_var sa_nil))) sn_str) sa_nil))))
      (sb_ret sn_bl)
      sb_next))))
      (sb_seq (sb_asg (vs := [7]) (sn_callM0 (sa_cons (sn_new (nn_lst (sa_cons sn_non (sa_cons sn_int (sa_cons sn_var (sa_cons sn_bl (sa_cons (sn_tup (sa_cons sn_str (sa_cons sn_str (sa_cons sn_str sa_nil)))) sa_nil))))))) sa_nil)) (sg_name (by decide)))
      (sb_seq (sb_if (st_test (sn_op sr_ne (sn_hand (i := 1) mt_law fun _ => (sn_call (sa_cons sn_var sa_nil))) (sn_tup (sa_cons sn_int (sa_cons sn_int sa_nil)))))
      (sb_ret sn_bl)
      sb_next)
      (sb_if (st_test (sn_op sr_ne (sn_hand (i := 1) mt_law fun _ => (sn_call (sa_cons sn_var sa_nil))) (sn_tup (sa_cons sn_int (sa_cons sn_int sa_nil)))))
      (sb_ret sn_bl)
      sb_next)))))))
      (sb_seq (sb_for (vs := [5]) (si_seq (sn_tup (sa_cons (sn_new (nn_lst (sa_cons sn_str (sa_cons sn_str sa_nil)))) (sa_cons (sn_new (nn_lst (sa_cons sn_str (sa_cons sn_str sa_nil)))) (sa_cons (sn_new (nn_lst (sa_cons sn_str sa_nil))) (sa_cons (sn_new (nn_lst (sa_cons sn_str sa_nil))) (sa_cons (sn_new (nn_rep (nn_lst (sa_cons sn_str sa_nil)) sn_int)) (sa_cons (sn_op sr_add (sn_new (nn_rep (nn_lst (sa_cons sn_str sa_nil)) sn_int)) (sn_new (nn_lst (sa_cons sn_str sa_nil)))) (sa_cons (sn_op sr_add (sn_new (nn_rep (nn_lst (sa_cons sn_str sa_nil)) sn_int)) (sn_new (nn_lst (sa_cons sn_str sa_nil)))) (sa_cons (sn_new (nn_lst (sa_cons sn_str (sa_cons sn_str (sa_cons sn_str (sa_cons sn_str (sa_cons sn_str (sa_cons sn_str sa_nil)))))))) (sa_cons (sn_new (nn_lst (sa_cons sn_str (sa_cons sn_str (sa_cons sn_str (sa_cons sn_str (sa_cons sn_str (sa_cons sn_str (sa_cons sn_str sa_nil))))))))) sa_nil))))))))))) (sg_name (by decide))
      (sb_if (st_not (st_B (sn_callG (i := 1) (sa_cons sn_var sa_nil))))
      (sb_ret sn_bl)
      sb_next))
      (sb_ret sn_bl))) h ?_
  refine to_ss (b := [.no, .pen, .no, .no, .no, .no, .no, .no, .no]) rfl ?_
  walk_at "w1"
  refine ⟨by decide, fun i s tt => (∃ x2 x3 x4 x5 x6 x7 x8, s = [.no, .pen, x2, x3, x4, x5, x6, x7, x8]) ∧ i ≤ 4 ∧ 0 ≤ tt ∧ tt ≤ 400 * (i : Int), ⟨⟨_, _, _, _, _, _, _, rfl⟩, by decide, by decide, by decide⟩, fun i d s tt hd hI => ?_, fun s tt hI => ?_⟩
  · obtain ⟨⟨x2, x3, x4, x5, x6, x7, x8, rfl⟩, hi, t0, t1⟩ := hI
    obtain ⟨hin, rfl⟩ := rangeE_get hd
    have hin : i < 4 := hin
    walk_at "w1"
    refine lc_mapF (fun ds t' => ∃ r, ds = r.map .int ∧ ruleB r = true ∧ tt ≤ t' ∧ t' ≤ tt + 10) numD (fun k hk => ?_) (fun ds t' hP => ?_) (fun ds t' d k hP hd hk => ?_) (fun ds t' hP => ?_)
    · walk_at "w1"
      exact ⟨⟨by omega, by omega⟩, fun r t' g1 g2 g3 => hk _ _ ⟨r, rfl, g1, g2, g3⟩⟩
    · obtain ⟨r, rfl, hr', _⟩ := hP
      have := rule_len hr'
      rw [List.length_map]; omega
    · obtain ⟨r, rfl, hr', _⟩ := hP
      obtain ⟨n, hn, rfl⟩ := List.mem_map.mp hd
      obtain ⟨n0, n3⟩ := rule_mem hr' n hn
      walk_at "w1"
      refine ⟨?_, hk⟩
      have e : n.natAbs ≤ 3 := by omega
      exact Nat.lt_of_le_of_lt e (by decide +kernel)
    obtain ⟨r, rfl, hr', a1, a2⟩ := hP
    rw [numD_map]
    have okr : rowOk (r.map Tx.num) := rowOk.num (fun z => by have := rule_len hr'; rw [z] at this; exact absurd this.1 (by decide)) (by have := rule_len hr'; omega) (rule_mem hr')
    generalize r.map Tx.num = l1 at okr ⊢
    clear hr' r
    walk_at "wn"
    refine lc_mapF (fun ds t'' => ∃ r : List Int, ds = r.map .int ∧ (r.length ≤ 13 ∧ ∀ n ∈ r, 0 ≤ n ∧ n ≤ 2) ∧ t' ≤ t'' ∧ t'' ≤ t' + 15) numD (fun k hk => ?_) (fun ds t' hP => ?_) (fun ds t' d k hP hd hk => ?_) (fun ds t2 hP => ?_)
    · walk_at "w1"
      exact ⟨rfl, ⟨by omega, by omega⟩, fun r t' h1 h2 g2 g3 => hk _ _ ⟨r, rfl, ⟨h1, h2⟩, g2, g3⟩⟩
    · obtain ⟨r, rfl, hr', _⟩ := hP
      rw [List.length_map]; omega
    · obtain ⟨r, rfl, hr', _⟩ := hP
      obtain ⟨n, hn, rfl⟩ := List.mem_map.mp hd
      obtain ⟨n0, n3⟩ := hr'.2 n hn
      walk_at "w1"
      refine ⟨?_, hk⟩
      have e : n.natAbs ≤ 3 := by omega
      exact Nat.lt_of_le_of_lt e (by decide +kernel)
    obtain ⟨s, rfl, hs', b1, b2⟩ := hP
    rw [numD_map]
    have oks : s.map Tx.num ≠ [] → rowOk (s.map Tx.num) := fun z => rowOk.num (fun e => z (by rw [e]; rfl)) (by omega) fun n hn => by have := hs'.2 n hn; omega
    have oks2 : ∀ y ∈ s.map Tx.num, okY y := fun y hy => by
      obtain ⟨n, hn, rfl⟩ := List.mem_map.mp hy
      have := hs'.2 n hn
      exact num_ok this.1 (by omega)
    generalize s.map Tx.num = l2 at oks oks2 ⊢
    clear hs' s
    walk_at "wn"
    refine for_any (fun ds t3 => t3 = t2 ∧ ds.length = 2 ∧ ∀ d ∈ ds, ∃ l : List Str, d = .lst (l.map .str) ∧ rowOk l) (fun k hk => ?_) (fun j s t3 => (∃ y2 y5 y6 y7 y8, s = [.no, .pen, y2, .val (.lst (l1.map .str)), .val (.lst (l2.map .str)), y5, y6, y7, y8]) ∧ j ≤ 2 ∧ tt ≤ t3 ∧ t3 ≤ t2 + 150 * (j : Int)) (fun ds t3 hQ => ⟨⟨_, _, _, _, _, rfl⟩, by decide, by omega, by omega⟩) (fun ds t3 hQ j d s t4 hd hI => ?_) (fun ds t3 hQ s t4 hI => ?_)
    · walk_at "w1"
      refine ⟨by decide, on_some (eqD_lnil (n := 1) (fun d hd => ?_) (by decide)) ?_⟩
      · obtain ⟨y, hy, rfl⟩ := List.mem_map.mp hd
        exact shE_str (oks2 y hy).2.1
      · by_cases h0 : l2.map Dt.str = []
        · rw [decide_eq_true h0]
          refine iteF ⟨by decide, by decide, hk _ _ ⟨rfl, rfl, fun d hd => ?_⟩⟩
          simp only [List.mem_cons, List.not_mem_nil, or_false] at hd
          rcases hd with rfl | rfl
          · exact ⟨l1, rfl, okr⟩
          · exact ⟨[Str.ofString "-"], rfl, by decide, by decide, fun y hy => by rw [List.mem_singleton.mp hy]; decide +kernel⟩
        · rw [decide_eq_false h0]
          refine iteT ⟨by decide, hk _ _ ⟨rfl, rfl, fun d hd => ?_⟩⟩
          simp only [List.mem_cons, List.not_mem_nil, or_false] at hd
          rcases hd with rfl | rfl
          · exact ⟨l1, rfl, okr⟩
          · exact ⟨l2, rfl, oks fun z => h0 (List.map_eq_nil_iff.mpr z)⟩
    · obtain ⟨⟨y2, y5, y6, y7, y8, rfl⟩, hj, c1, c2⟩ := hI
      obtain ⟨rfl, hQ1, hQ2⟩ := hQ
      obtain ⟨l, rfl, hl⟩ := hQ2 d (List.mem_of_getElem? hd)
      have hj2 : j < 2 := by rw [← hQ1]; exact (List.getElem?_eq_some_iff.mp hd).1
      walk_at "w1"
      refine ⟨rfl, l, rfl, hl.ok, iteF ?_⟩
      have ll := hl.2.1
      have o0 : okY (Str.ofString "") := by decide +kernel
      have o1 : okY (Str.ofString "0") := by decide +kernel
      rw [List.length_map, snoc_map, snoc_map]
      refine ⟨rfl, by decide, by omega, _, rfl, hl.app o0, iteF ⟨rfl, by decide, by omega, _, rfl, hl.app o1, brF ?_⟩⟩
      dsimp only [wNext, wThen]
      refine ⟨by decide, fun m s t3 => (∃ y2 y6 y7 y8, s = [.no, .pen, y2, .val (.lst (l1.map .str)), .val (.lst (l2.map .str)), .val (.lst (l.map .str)), y6, y7, y8]) ∧ m ≤ 5 ∧ t4 ≤ t3 ∧ t3 ≤ t4 + 30 * (m : Int), ⟨⟨_, _, _, _, rfl⟩, by decide, by omega, by omega⟩, fun m d s t5 hd hI => ?_, fun s t5 hI => ?_⟩
      · obtain ⟨⟨y2, y6, y7, y8, rfl⟩, hm, d1, d2⟩ := hI
        obtain ⟨hin, rfl⟩ := rangeE_get hd
        have hin : m < 5 := hin
        walk_at "w1"
        refine ⟨rfl, l, rfl, hl.1, hl.2.1, hl.2.2, ⟨by omega, by omega⟩, fun rows t6 hr2 e1 e2 => ?_⟩
        refine on_some (unS_map _) ⟨Nat.le_trans (join_len hr2) (by decide), by decide +kernel, text_len hr2, ?_⟩
        rw [split_items hr2]
        refine ⟨rows, rfl, hr2, brF ?_⟩
        exact ⟨⟨_, _, _, _, rfl⟩, by omega, by omega, by omega⟩
      · obtain ⟨⟨y2, y6, y7, y8, rfl⟩, hm, d1, d2⟩ := hI
        exact ⟨⟨_, _, _, _, _, rfl⟩, by omega, by omega, by have d2 : t5 ≤ t4 + 30 * ((5 : Nat) : Int) := d2; omega⟩
    · obtain ⟨⟨y2, y5, y6, y7, y8, rfl⟩, hj, c1, c2⟩ := hI
      obtain ⟨rfl, hQ1, hQ2⟩ := hQ
      rw [hQ1] at c2
      walk_at "wn"
      refine ⟨by decide, by decide, ⟨List.cons_ne_nil _ _, Nat.le_of_ble_eq_true rfl, by omega, by omega⟩, fun e he => ?_⟩
      have hodd : plainD e = true ∧ isTy e "str" = false := by
        simp only [List.mem_cons, List.not_mem_nil, or_false] at he
        rcases he with rfl | rfl | rfl | rfl | rfl
        all_goals exact ⟨rfl, rfl⟩
      have e00 : eqD (.tup [.int 0, .int 0]) (.tup [.int 0, .int 0]) = some true := eqD_refl (n := 2) (shE_tup (shE_consA shE_int (shE_consA shE_int shE_nilA))) (by decide)
      walk_at "wn"
      refine rdR_odd hodd ⟨_, _, rfl, rfl, by decide, on_some e00 (brF ?_)⟩
      walk_at "wn"
      refine rdT_odd hodd ⟨_, _, rfl, rfl, by decide, on_some e00 (brF ?_)⟩
      exact ⟨⟨_, _, _, _, _, _, _, rfl⟩, by omega, by omega, by omega⟩
  · obtain ⟨⟨x2, x3, x4, x5, x6, x7, x8, rfl⟩, hi, t0, t1⟩ := hI
    walk_at "wn"
    refine for_any (fun ds _ => ∀ d ∈ ds, ∃ l : List Str, d = .lst (l.map .str) ∧ itemsOk l) (fun k hk => ?_) (fun j s _ => ∃ y2 y3 y4 y5 y6 y7 y8, s = [.no, .pen, y2, y3, y4, y5, y6, y7, y8]) (fun ds t3 hQ => ⟨_, _, _, _, _, _, _, rfl⟩) (fun ds t3 hQ j d s t4 hd hI => ?_) (fun ds t3 hQ s t4 hI => ?_)
    · walk_at "w1"
      repeat (refine ⟨Nat.le_of_ble_eq_true rfl, ?_⟩)
      rw [rep_str, rep_str]
      refine ⟨by decide, by decide, by decide, by decide, by decide, by decide, by decide, by decide, by decide, by decide, by decide, by decide, hk _ _ fun d hd => ?_⟩
      have mk : ∀ l : List Str, (l ≠ [] ∧ l.length ≤ 1000 ∧ ∀ y ∈ l, okY y) → ∃ l2 : List Str, Dt.lst (l.map .str) = .lst (l2.map .str) ∧ itemsOk l2 := fun l h => ⟨l, rfl, okY_items h.1 h.2.1 h.2.2⟩
      have rp : ∀ n : Nat, ∀ y ∈ List.replicate n (Str.ofString "0"), okY y := fun n y hy => by rw [(List.mem_replicate.mp hy).2]; decide +kernel
      have o1 : okY (Str.ofString "1") := by decide +kernel
      have rp1 : ∀ n : Nat, ∀ y ∈ List.replicate n (Str.ofString "0") ++ [Str.ofString "1"], okY y := fun n y hy => by
        rcases List.mem_append.mp hy with hy | hy
        · exact rp n y hy
        · rw [List.mem_singleton.mp hy]; exact o1
      simp only [List.mem_cons, List.not_mem_nil, or_false] at hd
      rcases hd with rfl | rfl | rfl | rfl | rfl | rfl | rfl | rfl | rfl
      · exact mk [Str.ofString "-", Str.ofString "0"] (by decide +kernel)
      · exact mk [Str.ofString "-", Str.ofString ""] (by decide +kernel)
      · exact mk [Str.ofString "-"] (by decide +kernel)
      · exact mk [Str.ofString ""] (by decide +kernel)
      · exact mk (List.replicate 41 (Str.ofString "0")) ⟨by decide, by decide, rp _⟩
      · rw [snoc_map]
        exact mk (List.replicate 40 (Str.ofString "0") ++ [Str.ofString "1"]) ⟨by decide, by decide, rp1 _⟩
      · rw [snoc_map]
        exact mk (List.replicate 41 (Str.ofString "0") ++ [Str.ofString "1"]) ⟨by decide, by decide, rp1 _⟩
      · exact mk [Str.ofString "1", Str.ofString "0", Str.ofString "0", Str.ofString "0", Str.ofString "0", Str.ofString "1"] (by decide +kernel)
      · exact mk [Str.ofString "1", Str.ofString "0", Str.ofString "0", Str.ofString "0", Str.ofString "0", Str.ofString "0", Str.ofString "1"] (by decide +kernel)
    · obtain ⟨y2, y3, y4, y5, y6, y7, y8, rfl⟩ := hI
      obtain ⟨l, rfl, hl⟩ := hQ d (List.mem_of_getElem? hd)
      walk_at "w1"
      refine ⟨rfl, l, rfl, hl, brF ?_⟩
      exact ⟨_, _, _, _, _, _, _, rfl⟩
    · obtain ⟨y2, y3, y4, y5, y6, y7, y8, rfl⟩ := hI
      walk_at "wn"
/-! ### the head of this text -/
def dd_is_integer : He.DefD := ⟨("is_integer", none), "is_integer", "is_integer", defArgs s_is_integer, defBody s_is_integer, defScope s_is_integer, [], []⟩
def dd_is_within : He.DefD := ⟨("is_within", none), "is_within", "is_within", defArgs s_is_within, defBody s_is_within, defScope s_is_within, [], []⟩
def dd_is_numbers : He.DefD := ⟨("is_numbers", none), "is_numbers", "is_numbers", defArgs s_is_numbers, defBody s_is_numbers, defScope s_is_numbers, [], []⟩
def dd_BadRule___init__ : He.DefD := ⟨("BadRule", some "__init__"), "__init__", "BadRule.__init__", defArgs s_BadRule___init__, defBody s_BadRule___init__, defScope s_BadRule___init__, [], []⟩
def dd_BadCounts___init__ : He.DefD := ⟨("BadCounts", some "__init__"), "__init__", "BadCounts.__init__", defArgs s_BadCounts___init__, defBody s_BadCounts___init__, defScope s_BadCounts___init__, [], []⟩
def dd_BadStore___init__ : He.DefD := ⟨("BadStore", some "__init__"), "__init__", "BadStore.__init__", defArgs s_BadStore___init__, defBody s_BadStore___init__, defScope s_BadStore___init__, [], []⟩
def dd_TooMany___init__ : He.DefD := ⟨("TooMany", some "__init__"), "__init__", "TooMany.__init__", defArgs s_TooMany___init__, defBody s_TooMany___init__, defScope s_TooMany___init__, [], []⟩
def dd_BadText___init__ : He.DefD := ⟨("BadText", some "__init__"), "__init__", "BadText.__init__", defArgs s_BadText___init__, defBody s_BadText___init__, defScope s_BadText___init__, [], []⟩
def dd_is_counts : He.DefD := ⟨("is_counts", none), "is_counts", "is_counts", defArgs s_is_counts, defBody s_is_counts, defScope s_is_counts, [], []⟩
def dd__check_counts : He.DefD := ⟨("_check_counts", none), "_check_counts", "_check_counts", defArgs s__check_counts, defBody s__check_counts, defScope s__check_counts, [], []⟩
def dd__without_end : He.DefD := ⟨("_without_end", none), "_without_end", "_without_end", defArgs s__without_end, defBody s__without_end, defScope s__without_end, [], []⟩
def dd__added : He.DefD := ⟨("_added", none), "_added", "_added", defArgs s__added, defBody s__added, defScope s__added, [], []⟩
def dd_less : He.DefD := ⟨("less", none), "less", "less", defArgs s_less, defBody s_less, defScope s_less, [], []⟩
def dd_times : He.DefD := ⟨("times", none), "times", "times", defArgs s_times, defBody s_times, defScope s_times, [], []⟩
def dd_items_of : He.DefD := ⟨("items_of", none), "items_of", "items_of", defArgs s_items_of, defBody s_items_of, defScope s_items_of, [], []⟩
def dd_number_text : He.DefD := ⟨("number_text", none), "number_text", "number_text", defArgs s_number_text, defBody s_number_text, defScope s_number_text, [], []⟩
def dd_number_in : He.DefD := ⟨("number_in", none), "number_in", "number_in", defArgs s_number_in, defBody s_number_in, defScope s_number_in, [], []⟩
def dd_count_in : He.DefD := ⟨("count_in", none), "count_in", "count_in", defArgs s_count_in, defBody s_count_in, defScope s_count_in, [], []⟩
def dd_Store___init__ : He.DefD := ⟨("Store", some "__init__"), "__init__", "Store.__init__", defArgs s_Store___init__, defBody s_Store___init__, defScope s_Store___init__, [], []⟩
def dd_check_store : He.DefD := ⟨("check_store", none), "check_store", "check_store", defArgs s_check_store, defBody s_check_store, defScope s_check_store, [], []⟩
def dd_Store___str__ : He.DefD := ⟨("Store", some "__str__"), "__str__", "Store.__str__", defArgs s_Store___str__, defBody s_Store___str__, defScope s_Store___str__, [], []⟩
def dd_Store___eq__ : He.DefD := ⟨("Store", some "__eq__"), "__eq__", "Store.__eq__", defArgs s_Store___eq__, defBody s_Store___eq__, defScope s_Store___eq__, [], []⟩
def dd__are_rule_counts : He.DefD := ⟨("_are_rule_counts", none), "_are_rule_counts", "_are_rule_counts", defArgs s__are_rule_counts, defBody s__are_rule_counts, defScope s__are_rule_counts, [], []⟩
def dd_Rule___init__ : He.DefD := ⟨("Rule", some "__init__"), "__init__", "Rule.__init__", defArgs s_Rule___init__, defBody s_Rule___init__, defScope s_Rule___init__, [], []⟩
def dd_Rule___str__ : He.DefD := ⟨("Rule", some "__str__"), "__str__", "Rule.__str__", defArgs s_Rule___str__, defBody s_Rule___str__, defScope s_Rule___str__, [], []⟩
def dd_Rule___eq__ : He.DefD := ⟨("Rule", some "__eq__"), "__eq__", "Rule.__eq__", defArgs s_Rule___eq__, defBody s_Rule___eq__, defScope s_Rule___eq__, [], []⟩
def dd__law_pen : He.DefD := ⟨("_law_pen", none), "_law_pen", "_law_pen", defArgs s__law_pen, defBody s__law_pen, defScope s__law_pen, [], []⟩
def dd__law_draw : He.DefD := ⟨("_law_draw", none), "_law_draw", "_law_draw", defArgs s__law_draw, defBody s__law_draw, defScope s__law_draw, [], []⟩
def dd__law_pick : He.DefD := ⟨("_law_pick", none), "_law_pick", "_law_pick", defArgs s__law_pick, defBody s__law_pick, defScope s__law_pick, [], []⟩
def dd__law_rule : He.DefD := ⟨("_law_rule", none), "_law_rule", "_law_rule", defArgs s__law_rule, defBody s__law_rule, defScope s__law_rule, [], []⟩
def dd__law_knots : He.DefD := ⟨("_law_knots", none), "_law_knots", "_law_knots", defArgs s__law_knots, defBody s__law_knots, defScope s__law_knots, [], []⟩
def dd__law_store : He.DefD := ⟨("_law_store", none), "_law_store", "_law_store", defArgs s__law_store, defBody s__law_store, defScope s__law_store, [], []⟩
def dd__law_number : He.DefD := ⟨("_law_number", none), "_law_number", "_law_number", defArgs s__law_number, defBody s__law_number, defScope s__law_number, [], []⟩
def dd__law_rule_place : He.DefD := ⟨("_law_rule_place", none), "_law_rule_place", "_law_rule_place", defArgs s__law_rule_place, defBody s__law_rule_place, defScope s__law_rule_place, [], []⟩
def dd__law_store_place : He.DefD := ⟨("_law_store_place", none), "_law_store_place", "_law_store_place", defArgs s__law_store_place, defBody s__law_store_place, defScope s__law_store_place, [], []⟩
def dd__law_bent : He.DefD := ⟨("_law_bent", none), "_law_bent", "_law_bent", defArgs s__law_bent, defBody s__law_bent, defScope s__law_bent, [], []⟩
def dd__law_heard : He.DefD := ⟨("_law_heard", none), "_law_heard", "_law_heard", defArgs s__law_heard, defBody s__law_heard, defScope s__law_heard, [], []⟩
def dd__law_both_right : He.DefD := ⟨("_law_both_right", none), "_law_both_right", "_law_both_right", defArgs s__law_both_right, defBody s__law_both_right, defScope s__law_both_right, [], []⟩
def dd_law : He.DefD := ⟨("law", none), "law", "law", defArgs s_law, defBody s_law, defScope s_law, [], []⟩
def dc_Store_read : Su.DefC := ⟨"Store", "read", "Store.read", defArgs s_Store_read, defBody s_Store_read, defScope s_Store_read, "self", true⟩
def dc_Rule_read : Su.DefC := ⟨"Rule", "read", "Rule.read", defArgs s_Rule_read, defBody s_Rule_read, defScope s_Rule_read, "self", true⟩
def hfn : List He.DefD := [dd_is_integer, dd_is_within, dd_is_numbers, dd_BadRule___init__, dd_BadCounts___init__, dd_BadStore___init__, dd_TooMany___init__, dd_BadText___init__, dd_is_counts, dd__check_counts, dd__without_end, dd__added, dd_less, dd_times, dd_items_of, dd_number_text, dd_number_in, dd_count_in, dd_Store___init__, dd_check_store, dd_Store___str__, dd_Store___eq__, dd__are_rule_counts, dd_Rule___init__, dd_Rule___str__, dd_Rule___eq__, dd__law_pen, dd__law_draw, dd__law_pick, dd__law_rule, dd__law_knots, dd__law_store, dd__law_number, dd__law_rule_place, dd__law_store_place, dd__law_bent, dd__law_heard, dd__law_both_right, dd_law]
def hcs : List Su.DefC := [dc_Store_read, dc_Rule_read]
def hfb : List (PySem.W.Frag → Bool) := [errN "BadRule", iniN "BadRule", noN "BadRule" "part", errN "BadCounts", iniN "BadCounts", noN "BadCounts" "part", errN "BadStore", iniN "BadStore", noN "BadStore" "part", errN "TooMany", iniN "TooMany", noN "TooMany" "what", noN "TooMany" "most", errN "BadText", iniN "BadText", noN "BadText" "line", noN "BadText" "item", kitN "BadRule" "BadText" false, exmN "BadRule" "TreeError" true, kitN "BadCounts" "BadText" false, exmN "BadCounts" "TreeError" true, kitN "BadStore" "BadText" false, exmN "BadStore" "TreeError" true, kitN "TooMany" "BadText" false, exmN "TooMany" "TreeError" true, kitN "BadText" "BadText" true, exmN "BadText" "TreeError" true, kitTN "NoneType" "BadText" false, Su.objN "Store", Su.objN "Rule", Su.fndN "Rule" "__str__" "Rule", Su.fndN "Store" "__str__" "Store", fun K => decide ((He.cT K ("_law_both_right", none)).2 ≠ (He.cT K ("law", none)).2), Su.staN "Rule" "read", Su.staN "Store" "read", kitN "Store" "Store" true, kitN "Rule" "Rule" true, kitTN "str" "Rule" false, kitTN "tuple" "Rule" false]
def hfa : List He.Fa := [.glo "is_integer", .glo "is_within", .glo "is_numbers", .glo "is_counts", .glo "_check_counts", .glo "_without_end", .glo "_added", .glo "less", .glo "times", .glo "items_of", .glo "number_text", .glo "number_in", .glo "count_in", .glo "check_store", .glo "_are_rule_counts", .glo "_law_pen", .glo "_law_draw", .glo "_law_pick", .glo "_law_rule", .glo "_law_knots", .glo "_law_store", .glo "_law_number", .glo "_law_rule_place", .glo "_law_store_place", .glo "_law_bent", .glo "_law_heard", .glo "_law_both_right", .glo "law", .free "abs", .free "all", .free "bool", .free "enumerate", .free "int", .free "isinstance", .free "len", .free "list", .free "range", .free "str", .free "sum", .free "tuple", .glo "BadRule", .glo "BadCounts", .glo "BadStore", .glo "TooMany", .glo "BadText", .glo "TreeError", .glo "Store", .mkr "Store", .cls "Store", .noat "Store" "counts", .noat "Store" "is_endless", .noat "Store" "many", .glo "Rule", .mkr "Rule", .cls "Rule", .noat "Rule" "counts", .noat "Rule" "knots", .noat "Rule" "top", .noat "Rule" "stepped", .int "MOST_DIGITS" (60), .int "MOST_TREES" (40), .int "LEAST_COUNTS" (3), .int "MOST_COUNTS" (6), .int "MOST_SORTS" (3)]
def htf : List He.Defn := [("_law_both_right", none), ("law", none)]
abbrev hR : PySem.W.OpenRow := PySem.W.OpenLaw.row PySem.Challenge.rw_sevenasone_k11_texts_of_rules_and_stores
abbrev hhk : PySem.W.Hook := Su.hookC 5 hfa hfn [] htf (fun K => hfb.all fun b => b K) hcs
def hob (s : PySem.W.SharedT) : Su.AlC := Su.obsC 5 hfa hfn [] htf (fun K => hfb.all fun b => b K) hcs (HandSHeadRun.getT s)
theorem hob_eq (s : PySem.W.SharedT) : hob s = hhk.obs s.abs := Su.obsC_eq (HandSHeadRun.getT_eq s)
def hloose : List Str := ([("_wall" : Str), ("is_integer" : Str), ("is_within" : Str), ("is_numbers" : Str), ("is_counts" : Str), ("_check_counts" : Str), ("_without_end" : Str), ("_added" : Str), ("less" : Str), ("times" : Str)] : List Str) ++ ([("items_of" : Str), ("number_text" : Str), ("number_in" : Str), ("count_in" : Str), ("check_store" : Str), ("_are_rule_counts" : Str), ("_law_pen" : Str), ("_law_draw" : Str), ("_law_pick" : Str), ("_law_rule" : Str)] : List Str) ++ ([("_law_knots" : Str), ("_law_tree" : Str), ("_law_store" : Str), ("_law_number" : Str), ("_law_rule_place" : Str), ("_law_store_place" : Str), ("_law_bent" : Str), ("_law_heard" : Str), ("_law_both_right" : Str), ("TreeError" : Str)] : List Str) ++ ([("BadRule" : Str), ("BadCounts" : Str), ("BadStore" : Str), ("TooMany" : Str), ("BadText" : Str), ("Store" : Str), ("Rule" : Str), ("times_counts" : Str), ("MOST_DIGITS" : Str), ("MOST_TREES" : Str)] : List Str) ++ ([("LEAST_COUNTS" : Str), ("MOST_COUNTS" : Str), ("MOST_SORTS" : Str)] : List Str)
theorem hrun (w : World) : HandSHeadRun.RunEq hR (PySem.W.view hR.prog [50]) hhk hob 20000 hloose w := by
  intro os
  kernel_rfl
theorem facts {P : Program} [Su.PF P] {w : World} {K : PySem.W.Frag} {h : Heap} {mg : Str → Option Value} {f : Addr} (X : K.In h) (G : h.Ns mainGlobals mg) (hfa0 : mg ("law" : Str) = some (.ref f)) (c0 : Su.SaysC hfa hfn [] htf (fun K => hfb.all fun b => b K) hcs w h K) :
    ∃ fd : FuncData, (∀ (s : Shared) (v : Value), BindsTo s fd ⟨[v], []⟩ [("script", v)]) ∧ ∀ base : Heap, K.In base → base.Ns mainGlobals mg → (∀ p ∈ lamTabs K, LamX.TabB base mg p.1 p.2) → FnOk P w K mg base CX0 12 f fd ["script"] (spLawT K) := by
  have c := c0.x.t.d
  obtain ⟨e0, D0⟩ := c.def_ 0 (d := dd_is_integer) rfl
  have U0 : Fun K "is_integer" "is_integer" s_is_integer _ _ := FunD.toFun D0
  obtain ⟨e1, D1⟩ := c.def_ 1 (d := dd_is_within) rfl
  have U1 : Fun K "is_within" "is_within" s_is_within _ _ := FunD.toFun D1
  obtain ⟨e2, D2⟩ := c.def_ 2 (d := dd_is_numbers) rfl
  have U2 : Fun K "is_numbers" "is_numbers" s_is_numbers _ _ := FunD.toFun D2
  obtain ⟨e3, D3⟩ := c.def_ 3 (d := dd_BadRule___init__) rfl
  have U3 : Fun K "__init__" "BadRule.__init__" s_BadRule___init__ _ _ := FunD.toFun D3
  obtain ⟨e4, D4⟩ := c.def_ 4 (d := dd_BadCounts___init__) rfl
  have U4 : Fun K "__init__" "BadCounts.__init__" s_BadCounts___init__ _ _ := FunD.toFun D4
  obtain ⟨e5, D5⟩ := c.def_ 5 (d := dd_BadStore___init__) rfl
  have U5 : Fun K "__init__" "BadStore.__init__" s_BadStore___init__ _ _ := FunD.toFun D5
  obtain ⟨e6, D6⟩ := c.def_ 6 (d := dd_TooMany___init__) rfl
  have U6 : Fun K "__init__" "TooMany.__init__" s_TooMany___init__ _ _ := FunD.toFun D6
  obtain ⟨e7, D7⟩ := c.def_ 7 (d := dd_BadText___init__) rfl
  have U7 : Fun K "__init__" "BadText.__init__" s_BadText___init__ _ _ := FunD.toFun D7
  obtain ⟨e8, D8⟩ := c.def_ 8 (d := dd_is_counts) rfl
  have U8 : Fun K "is_counts" "is_counts" s_is_counts _ _ := FunD.toFun D8
  obtain ⟨e9, D9⟩ := c.def_ 9 (d := dd__check_counts) rfl
  have U9 : Fun K "_check_counts" "_check_counts" s__check_counts _ _ := FunD.toFun D9
  obtain ⟨e10, D10⟩ := c.def_ 10 (d := dd__without_end) rfl
  have U10 : Fun K "_without_end" "_without_end" s__without_end _ _ := FunD.toFun D10
  obtain ⟨e11, D11⟩ := c.def_ 11 (d := dd__added) rfl
  have U11 : Fun K "_added" "_added" s__added _ _ := FunD.toFun D11
  obtain ⟨e12, D12⟩ := c.def_ 12 (d := dd_less) rfl
  have U12 : Fun K "less" "less" s_less _ _ := FunD.toFun D12
  obtain ⟨e13, D13⟩ := c.def_ 13 (d := dd_times) rfl
  have U13 : Fun K "times" "times" s_times _ _ := FunD.toFun D13
  obtain ⟨e14, D14⟩ := c.def_ 14 (d := dd_items_of) rfl
  have U14 : Fun K "items_of" "items_of" s_items_of _ _ := FunD.toFun D14
  obtain ⟨e15, D15⟩ := c.def_ 15 (d := dd_number_text) rfl
  have U15 : Fun K "number_text" "number_text" s_number_text _ _ := FunD.toFun D15
  obtain ⟨e16, D16⟩ := c.def_ 16 (d := dd_number_in) rfl
  have U16 : Fun K "number_in" "number_in" s_number_in _ _ := FunD.toFun D16
  obtain ⟨e17, D17⟩ := c.def_ 17 (d := dd_count_in) rfl
  have U17 : Fun K "count_in" "count_in" s_count_in _ _ := FunD.toFun D17
  obtain ⟨e18, D18⟩ := c.def_ 18 (d := dd_Store___init__) rfl
  have U18 : Fun K "__init__" "Store.__init__" s_Store___init__ _ _ := FunD.toFun D18
  obtain ⟨e19, D19⟩ := c.def_ 19 (d := dd_check_store) rfl
  have U19 : Fun K "check_store" "check_store" s_check_store _ _ := FunD.toFun D19
  obtain ⟨e20, D20⟩ := c.def_ 20 (d := dd_Store___str__) rfl
  have U20 : Fun K "__str__" "Store.__str__" s_Store___str__ _ _ := FunD.toFun D20
  obtain ⟨e21, D21⟩ := c.def_ 21 (d := dd_Store___eq__) rfl
  have U21 : Fun K "__eq__" "Store.__eq__" s_Store___eq__ _ _ := FunD.toFun D21
  obtain ⟨e22, D22⟩ := c.def_ 22 (d := dd__are_rule_counts) rfl
  have U22 : Fun K "_are_rule_counts" "_are_rule_counts" s__are_rule_counts _ _ := FunD.toFun D22
  obtain ⟨e23, D23⟩ := c.def_ 23 (d := dd_Rule___init__) rfl
  have U23 : Fun K "__init__" "Rule.__init__" s_Rule___init__ _ _ := FunD.toFun D23
  obtain ⟨e24, D24⟩ := c.def_ 24 (d := dd_Rule___str__) rfl
  have U24 : Fun K "__str__" "Rule.__str__" s_Rule___str__ _ _ := FunD.toFun D24
  obtain ⟨e25, D25⟩ := c.def_ 25 (d := dd_Rule___eq__) rfl
  have U25 : Fun K "__eq__" "Rule.__eq__" s_Rule___eq__ _ _ := FunD.toFun D25
  obtain ⟨e26, D26⟩ := c.def_ 26 (d := dd__law_pen) rfl
  have U26 : Fun K "_law_pen" "_law_pen" s__law_pen _ _ := FunD.toFun D26
  obtain ⟨e27, D27⟩ := c.def_ 27 (d := dd__law_draw) rfl
  have U27 : Fun K "_law_draw" "_law_draw" s__law_draw _ _ := FunD.toFun D27
  obtain ⟨e28, D28⟩ := c.def_ 28 (d := dd__law_pick) rfl
  have U28 : Fun K "_law_pick" "_law_pick" s__law_pick _ _ := FunD.toFun D28
  obtain ⟨e29, D29⟩ := c.def_ 29 (d := dd__law_rule) rfl
  have U29 : Fun K "_law_rule" "_law_rule" s__law_rule _ _ := FunD.toFun D29
  obtain ⟨e30, D30⟩ := c.def_ 30 (d := dd__law_knots) rfl
  have U30 : Fun K "_law_knots" "_law_knots" s__law_knots _ _ := FunD.toFun D30
  obtain ⟨e31, D31⟩ := c.def_ 31 (d := dd__law_store) rfl
  have U31 : Fun K "_law_store" "_law_store" s__law_store _ _ := FunD.toFun D31
  obtain ⟨e32, D32⟩ := c.def_ 32 (d := dd__law_number) rfl
  have U32 : Fun K "_law_number" "_law_number" s__law_number _ _ := FunD.toFun D32
  obtain ⟨e33, D33⟩ := c.def_ 33 (d := dd__law_rule_place) rfl
  have U33 : Fun K "_law_rule_place" "_law_rule_place" s__law_rule_place _ _ := FunD.toFun D33
  obtain ⟨e34, D34⟩ := c.def_ 34 (d := dd__law_store_place) rfl
  have U34 : Fun K "_law_store_place" "_law_store_place" s__law_store_place _ _ := FunD.toFun D34
  obtain ⟨e35, D35⟩ := c.def_ 35 (d := dd__law_bent) rfl
  have U35 : Fun K "_law_bent" "_law_bent" s__law_bent _ _ := FunD.toFun D35
  obtain ⟨e36, D36⟩ := c.def_ 36 (d := dd__law_heard) rfl
  have U36 : Fun K "_law_heard" "_law_heard" s__law_heard _ _ := FunD.toFun D36
  obtain ⟨e37, D37⟩ := c.def_ 37 (d := dd__law_both_right) rfl
  have U37 : Fun K "_law_both_right" "_law_both_right" s__law_both_right _ _ := FunD.toFun D37
  obtain ⟨e38, D38⟩ := c.def_ 38 (d := dd_law) rfl
  have U38 : Fun K "law" "law" s_law _ _ := FunD.toFun D38
  obtain ⟨t0, V0⟩ := c0.stat_ 0 (d := dc_Store_read) (st := s_Store_read) rfl rfl rfl rfl rfl
  obtain ⟨t1, V1⟩ := c0.stat_ 1 (d := dc_Rule_read) (st := s_Rule_read) rfl rfl rfl rfl rfl
  let T : Txt K mg := {
    a_is_integer := _,
    d_is_integer := e0,
    F_is_integer := U0,
    b_is_integer := U0.binds (ps := ["value"]) fun _ _ _ _ _ _ us hl => match us, hl with | [_], _ => rfl,
    g_is_integer := He.glo_ok X G (c.fact 0 (f := .glo "is_integer") rfl),
    a_is_within := _,
    d_is_within := e1,
    F_is_within := U1,
    b_is_within := U1.binds (ps := ["value", "least", "most"]) fun _ _ _ _ _ _ us hl => match us, hl with | [_, _, _], _ => rfl,
    g_is_within := He.glo_ok X G (c.fact 1 (f := .glo "is_within") rfl),
    a_is_numbers := _,
    d_is_numbers := e2,
    F_is_numbers := U2,
    b_is_numbers := U2.binds (ps := ["value"]) fun _ _ _ _ _ _ us hl => match us, hl with | [_], _ => rfl,
    g_is_numbers := He.glo_ok X G (c.fact 2 (f := .glo "is_numbers") rfl),
    a_BadRule___init__ := _,
    d_BadRule___init__ := e3,
    F_BadRule___init__ := U3,
    b_BadRule___init__ := U3.binds (ps := ["self", "part"]) fun _ _ _ _ _ _ us hl => match us, hl with | [_, _], _ => rfl,
    a_BadCounts___init__ := _,
    d_BadCounts___init__ := e4,
    F_BadCounts___init__ := U4,
    b_BadCounts___init__ := U4.binds (ps := ["self", "part"]) fun _ _ _ _ _ _ us hl => match us, hl with | [_, _], _ => rfl,
    a_BadStore___init__ := _,
    d_BadStore___init__ := e5,
    F_BadStore___init__ := U5,
    b_BadStore___init__ := U5.binds (ps := ["self", "part"]) fun _ _ _ _ _ _ us hl => match us, hl with | [_, _], _ => rfl,
    a_TooMany___init__ := _,
    d_TooMany___init__ := e6,
    F_TooMany___init__ := U6,
    b_TooMany___init__ := U6.binds (ps := ["self", "what", "most"]) fun _ _ _ _ _ _ us hl => match us, hl with | [_, _, _], _ => rfl,
    a_BadText___init__ := _,
    d_BadText___init__ := e7,
    F_BadText___init__ := U7,
    b_BadText___init__ := U7.binds (ps := ["self", "line", "item"]) fun _ _ _ _ _ _ us hl => match us, hl with | [_, _, _], _ => rfl,
    a_is_counts := _,
    d_is_counts := e8,
    F_is_counts := U8,
    b_is_counts := U8.binds (ps := ["value"]) fun _ _ _ _ _ _ us hl => match us, hl with | [_], _ => rfl,
    g_is_counts := He.glo_ok X G (c.fact 3 (f := .glo "is_counts") rfl),
    a__check_counts := _,
    d__check_counts := e9,
    F__check_counts := U9,
    b__check_counts := U9.binds (ps := ["value", "name"]) fun _ _ _ _ _ _ us hl => match us, hl with | [_, _], _ => rfl,
    g__check_counts := He.glo_ok X G (c.fact 4 (f := .glo "_check_counts") rfl),
    a__without_end := _,
    d__without_end := e10,
    F__without_end := U10,
    b__without_end := U10.binds (ps := ["row"]) fun _ _ _ _ _ _ us hl => match us, hl with | [_], _ => rfl,
    g__without_end := He.glo_ok X G (c.fact 5 (f := .glo "_without_end") rfl),
    a__added := _,
    d__added := e11,
    F__added := U11,
    b__added := U11.binds (ps := ["one", "other", "factor"]) fun _ _ _ _ _ _ us hl => match us, hl with | [_, _, _], _ => rfl,
    g__added := He.glo_ok X G (c.fact 6 (f := .glo "_added") rfl),
    a_less := _,
    d_less := e12,
    F_less := U12,
    b_less := U12.binds (ps := ["one", "other"]) fun _ _ _ _ _ _ us hl => match us, hl with | [_, _], _ => rfl,
    g_less := He.glo_ok X G (c.fact 7 (f := .glo "less") rfl),
    a_times := _,
    d_times := e13,
    F_times := U13,
    b_times := U13.binds (ps := ["one", "other"]) fun _ _ _ _ _ _ us hl => match us, hl with | [_, _], _ => rfl,
    g_times := He.glo_ok X G (c.fact 8 (f := .glo "times") rfl),
    a_items_of := _,
    d_items_of := e14,
    F_items_of := U14,
    b_items_of := U14.binds (ps := ["text"]) fun _ _ _ _ _ _ us hl => match us, hl with | [_], _ => rfl,
    g_items_of := He.glo_ok X G (c.fact 9 (f := .glo "items_of") rfl),
    a_number_text := _,
    d_number_text := e15,
    F_number_text := U15,
    b_number_text := U15.binds (ps := ["number"]) fun _ _ _ _ _ _ us hl => match us, hl with | [_], _ => rfl,
    g_number_text := He.glo_ok X G (c.fact 10 (f := .glo "number_text") rfl),
    a_number_in := _,
    d_number_in := e16,
    F_number_in := U16,
    b_number_in := U16.binds (ps := ["digits"]) fun _ _ _ _ _ _ us hl => match us, hl with | [_], _ => rfl,
    g_number_in := He.glo_ok X G (c.fact 11 (f := .glo "number_in") rfl),
    a_count_in := _,
    d_count_in := e17,
    F_count_in := U17,
    b_count_in := U17.binds (ps := ["item"]) fun _ _ _ _ _ _ us hl => match us, hl with | [_], _ => rfl,
    g_count_in := He.glo_ok X G (c.fact 12 (f := .glo "count_in") rfl),
    a_Store___init__ := _,
    d_Store___init__ := e18,
    F_Store___init__ := U18,
    b_Store___init__ := U18.binds (ps := ["self", "counts"]) fun _ _ _ _ _ _ us hl => match us, hl with | [_, _], _ => rfl,
    a_check_store := _,
    d_check_store := e19,
    F_check_store := U19,
    b_check_store := U19.binds (ps := ["store", "name"]) fun _ _ _ _ _ _ us hl => match us, hl with | [_, _], _ => rfl,
    g_check_store := He.glo_ok X G (c.fact 13 (f := .glo "check_store") rfl),
    a_Store___str__ := _,
    d_Store___str__ := e20,
    F_Store___str__ := U20,
    b_Store___str__ := U20.binds (ps := ["self"]) fun _ _ _ _ _ _ us hl => match us, hl with | [_], _ => rfl,
    a_Store___eq__ := _,
    d_Store___eq__ := e21,
    F_Store___eq__ := U21,
    b_Store___eq__ := U21.binds (ps := ["self", "other"]) fun _ _ _ _ _ _ us hl => match us, hl with | [_, _], _ => rfl,
    a__are_rule_counts := _,
    d__are_rule_counts := e22,
    F__are_rule_counts := U22,
    b__are_rule_counts := U22.binds (ps := ["value"]) fun _ _ _ _ _ _ us hl => match us, hl with | [_], _ => rfl,
    g__are_rule_counts := He.glo_ok X G (c.fact 14 (f := .glo "_are_rule_counts") rfl),
    a_Rule___init__ := _,
    d_Rule___init__ := e23,
    F_Rule___init__ := U23,
    b_Rule___init__ := U23.binds (ps := ["self", "counts"]) fun _ _ _ _ _ _ us hl => match us, hl with | [_, _], _ => rfl,
    a_Rule___str__ := _,
    d_Rule___str__ := e24,
    F_Rule___str__ := U24,
    b_Rule___str__ := U24.binds (ps := ["self"]) fun _ _ _ _ _ _ us hl => match us, hl with | [_], _ => rfl,
    a_Rule___eq__ := _,
    d_Rule___eq__ := e25,
    F_Rule___eq__ := U25,
    b_Rule___eq__ := U25.binds (ps := ["self", "other"]) fun _ _ _ _ _ _ us hl => match us, hl with | [_, _], _ => rfl,
    a__law_pen := _,
    d__law_pen := e26,
    F__law_pen := U26,
    b__law_pen := U26.binds (ps := ["script"]) fun _ _ _ _ _ _ us hl => match us, hl with | [_], _ => rfl,
    g__law_pen := He.glo_ok X G (c.fact 15 (f := .glo "_law_pen") rfl),
    a__law_draw := _,
    d__law_draw := e27,
    F__law_draw := U27,
    b__law_draw := U27.binds (ps := ["pen", "many"]) fun _ _ _ _ _ _ us hl => match us, hl with | [_, _], _ => rfl,
    g__law_draw := He.glo_ok X G (c.fact 16 (f := .glo "_law_draw") rfl),
    a__law_pick := _,
    d__law_pick := e28,
    F__law_pick := U28,
    b__law_pick := U28.binds (ps := ["pen", "some"]) fun _ _ _ _ _ _ us hl => match us, hl with | [_, _], _ => rfl,
    g__law_pick := He.glo_ok X G (c.fact 17 (f := .glo "_law_pick") rfl),
    a__law_rule := _,
    d__law_rule := e29,
    F__law_rule := U29,
    b__law_rule := U29.binds (ps := ["pen"]) fun _ _ _ _ _ _ us hl => match us, hl with | [_], _ => rfl,
    g__law_rule := He.glo_ok X G (c.fact 18 (f := .glo "_law_rule") rfl),
    a__law_knots := _,
    d__law_knots := e30,
    F__law_knots := U30,
    b__law_knots := U30.binds (ps := ["counts"]) fun _ _ _ _ _ _ us hl => match us, hl with | [_], _ => rfl,
    g__law_knots := He.glo_ok X G (c.fact 19 (f := .glo "_law_knots") rfl),
    a__law_store := _,
    d__law_store := e31,
    F__law_store := U31,
    b__law_store := U31.binds (ps := ["pen", "most"]) fun _ _ _ _ _ _ us hl => match us, hl with | [_, _], _ => rfl,
    g__law_store := He.glo_ok X G (c.fact 20 (f := .glo "_law_store") rfl),
    a__law_number := _,
    d__law_number := e32,
    F__law_number := U32,
    b__law_number := U32.binds (ps := ["text"]) fun _ _ _ _ _ _ us hl => match us, hl with | [_], _ => rfl,
    g__law_number := He.glo_ok X G (c.fact 21 (f := .glo "_law_number") rfl),
    a__law_rule_place := _,
    d__law_rule_place := e33,
    F__law_rule_place := U33,
    b__law_rule_place := U33.binds (ps := ["items"]) fun _ _ _ _ _ _ us hl => match us, hl with | [_], _ => rfl,
    g__law_rule_place := He.glo_ok X G (c.fact 22 (f := .glo "_law_rule_place") rfl),
    a__law_store_place := _,
    d__law_store_place := e34,
    F__law_store_place := U34,
    b__law_store_place := U34.binds (ps := ["items"]) fun _ _ _ _ _ _ us hl => match us, hl with | [_], _ => rfl,
    g__law_store_place := He.glo_ok X G (c.fact 23 (f := .glo "_law_store_place") rfl),
    a__law_bent := _,
    d__law_bent := e35,
    F__law_bent := U35,
    b__law_bent := U35.binds (ps := ["pen", "items"]) fun _ _ _ _ _ _ us hl => match us, hl with | [_, _], _ => rfl,
    g__law_bent := He.glo_ok X G (c.fact 24 (f := .glo "_law_bent") rfl),
    a__law_heard := _,
    d__law_heard := e36,
    F__law_heard := U36,
    b__law_heard := U36.binds (ps := ["ask"]) fun _ _ _ _ _ _ us hl => match us, hl with | [_], _ => rfl,
    g__law_heard := He.glo_ok X G (c.fact 25 (f := .glo "_law_heard") rfl),
    a__law_both_right := _,
    d__law_both_right := e37,
    F__law_both_right := U37,
    b__law_both_right := U37.binds (ps := ["items"]) fun _ _ _ _ _ _ us hl => match us, hl with | [_], _ => rfl,
    g__law_both_right := He.glo_ok X G (c.fact 26 (f := .glo "_law_both_right") rfl),
    a_law := _,
    d_law := e38,
    F_law := U38,
    b_law := U38.binds (ps := ["script"]) fun _ _ _ _ _ _ us hl => match us, hl with | [_], _ => rfl,
    g_law := He.glo_ok X G (c.fact 27 (f := .glo "law") rfl),
    a_Store_read := _,
    d_Store_read := t0,
    F_Store_read := V0,
    b_Store_read := V0.binds (ps := ["text"]) fun _ _ _ _ _ _ us hl => match us, hl with | [_], _ => rfl,
    a_Rule_read := _,
    d_Rule_read := t1,
    F_Rule_read := V1,
    b_Rule_read := V1.binds (ps := ["text"]) fun _ _ _ _ _ _ us hl => match us, hl with | [_], _ => rfl,
    n_abs := He.free_ok X G (c.fact 28 (f := .free "abs") rfl),
    n_all := He.free_ok X G (c.fact 29 (f := .free "all") rfl),
    n_bool := He.free_ok X G (c.fact 30 (f := .free "bool") rfl),
    n_enumerate := He.free_ok X G (c.fact 31 (f := .free "enumerate") rfl),
    n_int := He.free_ok X G (c.fact 32 (f := .free "int") rfl),
    n_isinstance := He.free_ok X G (c.fact 33 (f := .free "isinstance") rfl),
    n_len := He.free_ok X G (c.fact 34 (f := .free "len") rfl),
    n_list := He.free_ok X G (c.fact 35 (f := .free "list") rfl),
    n_range := He.free_ok X G (c.fact 36 (f := .free "range") rfl),
    n_str := He.free_ok X G (c.fact 37 (f := .free "str") rfl),
    n_sum := He.free_ok X G (c.fact 38 (f := .free "sum") rfl),
    n_tuple := He.free_ok X G (c.fact 39 (f := .free "tuple") rfl),
    c_BadRule := He.ga K "BadRule",
    gC_BadRule := He.glo_ok X G (c.fact 40 (f := .glo "BadRule") rfl),
    E_BadRule := errB_ok (_root_.DL.saysX_b c0.x 0 (f := errN "BadRule") rfl),
    i_BadRule := (iniN_ok (_root_.DL.saysX_b c0.x 1 (f := iniN "BadRule") rfl)).1,
    ti_BadRule := (iniN_ok (_root_.DL.saysX_b c0.x 1 (f := iniN "BadRule") rfl)).2,
    no_BadRule := noN_ok (_root_.DL.saysX_b c0.x 2 (f := noN "BadRule" "part") rfl),
    c_BadCounts := He.ga K "BadCounts",
    gC_BadCounts := He.glo_ok X G (c.fact 41 (f := .glo "BadCounts") rfl),
    E_BadCounts := errB_ok (_root_.DL.saysX_b c0.x 3 (f := errN "BadCounts") rfl),
    i_BadCounts := (iniN_ok (_root_.DL.saysX_b c0.x 4 (f := iniN "BadCounts") rfl)).1,
    ti_BadCounts := (iniN_ok (_root_.DL.saysX_b c0.x 4 (f := iniN "BadCounts") rfl)).2,
    no_BadCounts := noN_ok (_root_.DL.saysX_b c0.x 5 (f := noN "BadCounts" "part") rfl),
    c_BadStore := He.ga K "BadStore",
    gC_BadStore := He.glo_ok X G (c.fact 42 (f := .glo "BadStore") rfl),
    E_BadStore := errB_ok (_root_.DL.saysX_b c0.x 6 (f := errN "BadStore") rfl),
    i_BadStore := (iniN_ok (_root_.DL.saysX_b c0.x 7 (f := iniN "BadStore") rfl)).1,
    ti_BadStore := (iniN_ok (_root_.DL.saysX_b c0.x 7 (f := iniN "BadStore") rfl)).2,
    no_BadStore := noN_ok (_root_.DL.saysX_b c0.x 8 (f := noN "BadStore" "part") rfl),
    c_TooMany := He.ga K "TooMany",
    gC_TooMany := He.glo_ok X G (c.fact 43 (f := .glo "TooMany") rfl),
    E_TooMany := errB_ok (_root_.DL.saysX_b c0.x 9 (f := errN "TooMany") rfl),
    i_TooMany := (iniN_ok (_root_.DL.saysX_b c0.x 10 (f := iniN "TooMany") rfl)).1,
    ti_TooMany := (iniN_ok (_root_.DL.saysX_b c0.x 10 (f := iniN "TooMany") rfl)).2,
    no_TooMany := noN_ok (_root_.DL.saysX_b c0.x 11 (f := noN "TooMany" "what") rfl),
    no2_TooMany := noN_ok (_root_.DL.saysX_b c0.x 12 (f := noN "TooMany" "most") rfl),
    c_BadText := He.ga K "BadText",
    gC_BadText := He.glo_ok X G (c.fact 44 (f := .glo "BadText") rfl),
    E_BadText := errB_ok (_root_.DL.saysX_b c0.x 13 (f := errN "BadText") rfl),
    i_BadText := (iniN_ok (_root_.DL.saysX_b c0.x 14 (f := iniN "BadText") rfl)).1,
    ti_BadText := (iniN_ok (_root_.DL.saysX_b c0.x 14 (f := iniN "BadText") rfl)).2,
    no_BadText := noN_ok (_root_.DL.saysX_b c0.x 15 (f := noN "BadText" "line") rfl),
    no2_BadText := noN_ok (_root_.DL.saysX_b c0.x 16 (f := noN "BadText" "item") rfl),
    c_TreeError := He.ga K "TreeError",
    gC_TreeError := He.glo_ok X G (c.fact 45 (f := .glo "TreeError") rfl),
    k_BadRule_BadText := kitN_ok (_root_.DL.saysX_b c0.x 17 (f := kitN "BadRule" "BadText" false) rfl),
    m_BadRule_TreeError := exmN_ok (_root_.DL.saysX_b c0.x 18 (f := exmN "BadRule" "TreeError" true) rfl),
    k_BadCounts_BadText := kitN_ok (_root_.DL.saysX_b c0.x 19 (f := kitN "BadCounts" "BadText" false) rfl),
    m_BadCounts_TreeError := exmN_ok (_root_.DL.saysX_b c0.x 20 (f := exmN "BadCounts" "TreeError" true) rfl),
    k_BadStore_BadText := kitN_ok (_root_.DL.saysX_b c0.x 21 (f := kitN "BadStore" "BadText" false) rfl),
    m_BadStore_TreeError := exmN_ok (_root_.DL.saysX_b c0.x 22 (f := exmN "BadStore" "TreeError" true) rfl),
    k_TooMany_BadText := kitN_ok (_root_.DL.saysX_b c0.x 23 (f := kitN "TooMany" "BadText" false) rfl),
    m_TooMany_TreeError := exmN_ok (_root_.DL.saysX_b c0.x 24 (f := exmN "TooMany" "TreeError" true) rfl),
    k_BadText_BadText := kitN_ok (_root_.DL.saysX_b c0.x 25 (f := kitN "BadText" "BadText" true) rfl),
    m_BadText_TreeError := exmN_ok (_root_.DL.saysX_b c0.x 26 (f := exmN "BadText" "TreeError" true) rfl),
    kn_BadText := kitTN_ok (_root_.DL.saysX_b c0.x 27 (f := kitTN "NoneType" "BadText" false) rfl),
    c_Store := He.ga K "Store",
    gC_Store := He.glo_ok X G (c.fact 46 (f := .glo "Store") rfl),
    M_Store := He.mkr_ok (c.fact 47 (f := .mkr "Store") rfl),
    K_Store := He.cls_ok (c.fact 48 (f := .cls "Store") rfl),
    na_Store_counts := He.noat_ok (c.fact 49 (f := .noat "Store" "counts") rfl),
    na_Store_is_endless := He.noat_ok (c.fact 50 (f := .noat "Store" "is_endless") rfl),
    na_Store_many := He.noat_ok (c.fact 51 (f := .noat "Store" "many") rfl),
    O_Store := Su.objN_ok (_root_.DL.saysX_b c0.x 28 (f := Su.objN "Store") rfl),
    c_Rule := He.ga K "Rule",
    gC_Rule := He.glo_ok X G (c.fact 52 (f := .glo "Rule") rfl),
    M_Rule := He.mkr_ok (c.fact 53 (f := .mkr "Rule") rfl),
    K_Rule := He.cls_ok (c.fact 54 (f := .cls "Rule") rfl),
    na_Rule_counts := He.noat_ok (c.fact 55 (f := .noat "Rule" "counts") rfl),
    na_Rule_knots := He.noat_ok (c.fact 56 (f := .noat "Rule" "knots") rfl),
    na_Rule_top := He.noat_ok (c.fact 57 (f := .noat "Rule" "top") rfl),
    na_Rule_stepped := He.noat_ok (c.fact 58 (f := .noat "Rule" "stepped") rfl),
    O_Rule := Su.objN_ok (_root_.DL.saysX_b c0.x 29 (f := Su.objN "Rule") rfl),
    s_Rule := Su.fndN_ok (_root_.DL.saysX_b c0.x 30 (f := Su.fndN "Rule" "__str__" "Rule") rfl),
    s_Store := Su.fndN_ok (_root_.DL.saysX_b c0.x 31 (f := Su.fndN "Store" "__str__" "Store") rfl),
    ap__law_both_right_law := of_decide_eq_true (_root_.DL.saysX_b c0.x 32 (f := fun K => decide ((He.cT K ("_law_both_right", none)).2 ≠ (He.cT K ("law", none)).2)) rfl),
    p_Rule_read := He.fAd K ("Rule", some "read"),
    S_Rule_read := Su.staN_ok (_root_.DL.saysX_b c0.x 33 (f := Su.staN "Rule" "read") rfl),
    p_Store_read := He.fAd K ("Store", some "read"),
    S_Store_read := Su.staN_ok (_root_.DL.saysX_b c0.x 34 (f := Su.staN "Store" "read") rfl),
    k_Store_Store := kitN_ok (_root_.DL.saysX_b c0.x 35 (f := kitN "Store" "Store" true) rfl),
    k_Rule_Rule := kitN_ok (_root_.DL.saysX_b c0.x 36 (f := kitN "Rule" "Rule" true) rfl),
    kt_str_Rule := kitTN_ok (_root_.DL.saysX_b c0.x 37 (f := kitTN "str" "Rule" false) rfl),
    kt_tuple_Rule := kitTN_ok (_root_.DL.saysX_b c0.x 38 (f := kitTN "tuple" "Rule" false) rfl),
    v_MOST_DIGITS := He.int_ok X G (c.fact 59 (f := .int "MOST_DIGITS" (60)) rfl),
    v_MOST_TREES := He.int_ok X G (c.fact 60 (f := .int "MOST_TREES" (40)) rfl),
    v_LEAST_COUNTS := He.int_ok X G (c.fact 61 (f := .int "LEAST_COUNTS" (3)) rfl),
    v_MOST_COUNTS := He.int_ok X G (c.fact 62 (f := .int "MOST_COUNTS" (6)) rfl),
    v_MOST_SORTS := He.int_ok X G (c.fact 63 (f := .int "MOST_SORTS" (3)) rfl),
    at__law_both_right := rfl,
    at_law := rfl }
  have e := hfa0.symm.trans T.g_law
  cases e
  have b := FunD.bindsA (ps := ["script"]) D38 fun _ _ _ _ _ _ us hl => match us, hl with | [_], _ => rfl
  exact ⟨_, fun s v => b s [v] rfl, fun base _ _ hTB => ok_law (P := P) (w := w) (base := base) T hTB⟩
end Lw
instance : Su.PF (PySem.Challenge.rw_sevenasone_k11_texts_of_rules_and_stores).prog := ⟨by kernel_rfl, by kernel_rfl⟩
open PySem PySem.W PySem.Calls PyProof.Rows
set_option maxHeartbeats 0
theorem PySem.Challenge.cw_sevenasone_k11_texts_of_rules_and_stores_holds : PySem.Challenge.rw_sevenasone_k11_texts_of_rules_and_stores.Holds := by
  w_on; o_law
  refine HandSHeadRun.head_any (r := OpenLaw.row PySem.Challenge.rw_sevenasone_k11_texts_of_rules_and_stores) (q := view (OpenLaw.row PySem.Challenge.rw_sevenasone_k11_texts_of_rules_and_stores).prog [50]) (H := Lw.hhk) (ob := Lw.hob) (M := 20000) (loose := Lw.hloose) (d := HandSHeadRun.topDef (OpenLaw.row PySem.Challenge.rw_sevenasone_k11_texts_of_rules_and_stores).prog 50) (kwd := []) Lw.hob_eq
    (by kernel_rfl) (fun s => by kernel_rfl) Lw.hrun (by kernel_rfl) (by kernel_rfl) (by kernel_rfl) (by rfl) (by first | assumption | decide +kernel) (by decide +kernel) ⟨rfl, rfl, rfl, rfl, rfl, by decide +kernel⟩ ?hw ?hc
  case hw => w_witness2
  case hc =>
    refine LamX.walk_ofTsE (l := PySem.Challenge.rw_sevenasone_k11_texts_of_rules_and_stores) (n := 63) (k := 12) (x := "script") (CX := fun _ => L2.CX0) rfl (by decide) (by kernel_rfl) ⟨rfl, by decide, by decide⟩ ?F (fun _ _ _ _ _ z => z)
    intro w mg fa h Y G hmg0
    obtain ⟨K, KX, c⟩ := Y
    have hmg1 : mg ("law" : PySem.Str) = some (.ref fa) := by
      have e : (HandSHeadRun.topDef (OpenLaw.row PySem.Challenge.rw_sevenasone_k11_texts_of_rules_and_stores).prog 50).name = ("law" : PySem.Str) := by kernel_rfl
      rw [← e]
      exact hmg0
    obtain ⟨fd, hb, hF⟩ := Lw.facts (P := (PySem.Challenge.rw_sevenasone_k11_texts_of_rules_and_stores).prog) (w := w) KX G hmg1 c
    refine ⟨K, KX, fd, Lw.lamTabs K, E.spLawT K, fun p hp => ?_, fun p hp => ?_, fun p hp => ?_, hb, fun H a ns hl _ hT hS => ⟨a, ns, rfl, hS, hl, fun p hp => ?_, fun _ => rfl⟩, hF⟩
    · obtain ⟨d, hd, rfl⟩ := List.mem_map.mp (show p ∈ Lw.htf.map (He.cT K) from hp)
      exact c.x.empty d hd
    · obtain ⟨d, hd, rfl⟩ := List.mem_map.mp (show p ∈ Lw.htf.map (He.cT K) from hp)
      exact c.x.out d hd
    · obtain ⟨d, hd, rfl⟩ := List.mem_map.mp (show p ∈ Lw.htf.map (He.cT K) from hp)
      exact PySem.W.codeHd_of_K KX (c.x.hd d hd)
    · have hp : p ∈ [((He.cT K ("_law_both_right", none)).2, ("_law_both_right.<locals>.<lambda>" : PySem.Str)), ((He.cT K ("law", none)).2, ("law.<locals>.<lambda>" : PySem.Str))] := hp
      simp only [List.mem_cons, List.mem_nil_iff, or_false] at hp
      rcases hp with rfl | rfl
      · exact hT _ Lw.lm__law_both_right
      · exact hT _ Lw.lm_law

namespace Lw
end Lw
