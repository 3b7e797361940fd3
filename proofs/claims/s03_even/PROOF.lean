import PyProof.Rows.All
import Wide.All
import OpenK.AllK
import Wide.FinOn
import Open.SpecLaws
import KE.OsGo
import HandS.ForSpec
import HandS.Comp
import HandS.Iter
import KE.DataMinMax
import HandS.SortKw
import HandS.Zip
import HandS.SortInts
import PySem.Challenge.RW_levelgroups_s03_even
set_option Elab.async false
set_option linter.all false
set_option maxRecDepth 100000
set_option maxHeartbeats 2000000
namespace Lk
open Ks438
abbrev toI (l : List Nat) : List Int := l.map Int.ofNat
def countsM (n s : Nat) : Bool := (decide (1 ≤ n) && decide (n ≤ 9)) && (decide (1 ≤ s) && decide (s ≤ 9))
def levelsM (l : List Nat) : Bool := decide (l.length ≤ 9) && l.all fun x => decide (x ≤ 1000)
def groupsM (n : Nat) (l g : List Nat) : Bool := decide (g.length = l.length) && g.all fun x => decide (x < n)
def rowsM (n : Nat) (l g : List Nat) : List (List Nat) := (List.range n).map fun k => group l g k
def looksM (n s : Nat) (l g : List Nat) : List Int :=
  if (countsM n s && levelsM l) = true then
    if groupsM n l g = true then
      if ((rowsM n l g).map fun r => decide (s < r.length)).any id = true then [-28]
      else [Int.ofNat ((rowsM n l g).map spread).sum, Int.ofNat (((rowsM n l g).map spread).foldl max 0)]
    else [-22]
  else [-22]
theorem nats_toI : ∀ l : List Nat, Ks438Neutral.nats (toI l) = l
  | [] => rfl
  | x :: r => by
    show Int.toNat (Int.ofNat x) :: Ks438Neutral.nats (toI r) = x :: r
    rw [nats_toI r]
    rfl
theorem call_looks (n s : Nat) (l g : List Nat) : PyKs438.looks (Int.ofNat n) (Int.ofNat s) (toI l) (toI g) = Ks438Neutral.out (answer (.looks n s l g)) := by
  show Ks438Neutral.out (answer (.looks n s (Ks438Neutral.nats (toI l)) (Ks438Neutral.nats (toI g)))) = _
  rw [nats_toI, nats_toI]
theorem looks_eq (n s : Nat) (l g : List Nat) : PyKs438.looks (Int.ofNat n) (Int.ofNat s) (toI l) (toI g) = looksM n s l g := by
  rw [call_looks]
  unfold looksM
  by_cases c : (countsM n s && levelsM l) = true
  · rw [if_pos c]
    have c' : (okN n && decide (1 ≤ s) && decide (s ≤ CHILDREN) && decide (l.length ≤ CHILDREN) && l.all (fun v => decide (v ≤ 1000))) = true := by
      unfold countsM levelsM at c
      unfold okN CHILDREN
      simp only [Bool.and_eq_true, decide_eq_true_eq] at c ⊢
      exact ⟨⟨⟨c.1.1, c.1.2.1⟩, c.1.2.2⟩, c.2.1⟩ |> fun h => ⟨h, c.2.2⟩
    unfold answer given
    simp only [c', if_true]
    by_cases d : groupsM n l g = true
    · rw [if_pos d]
      have d1 : g.length = l.length ∧ ∀ x ∈ g, x < n := by
        unfold groupsM at d
        simpa only [Bool.and_eq_true, decide_eq_true_eq, List.all_eq_true] using d
      have d2 : ¬ (g.length ≠ l.length ∨ g.any (fun v => decide (n ≤ v)) = true) := by
        rintro (h | h)
        · exact h d1.1
        · obtain ⟨x, hx, e⟩ := List.any_eq_true.mp h
          have := d1.2 x hx
          have := of_decide_eq_true e
          omega
      rw [if_neg d2]
      by_cases o : ((rowsM n l g).map fun r => decide (s < r.length)).any id = true
      · rw [if_pos o]
        have r0 : ¬ right n s l g = true := by
          intro h
          unfold right at h
          simp only [Bool.and_eq_true, List.all_eq_true, decide_eq_true_eq] at h
          obtain ⟨b, hb, e⟩ := List.any_eq_true.mp o
          obtain ⟨r, hr, rfl⟩ := List.mem_map.mp hb
          unfold rowsM at hr
          obtain ⟨k, hk, rfl⟩ := List.mem_map.mp hr
          have h2 := h.2 k hk
          have h3 : s < (group l g k).length := of_decide_eq_true e
          omega
        rw [if_neg r0]
        rfl
      · rw [if_neg o]
        have r1 : right n s l g = true := by
          unfold right
          simp only [Bool.and_eq_true, List.all_eq_true, decide_eq_true_eq, beq_iff_eq]
          refine ⟨⟨d1.1, d1.2⟩, fun k hk => ?_⟩
          apply Nat.le_of_not_lt
          intro h
          apply o
          refine List.any_eq_true.mpr ⟨true, List.mem_map.mpr ⟨group l g k, List.mem_map.mpr ⟨k, hk, rfl⟩, decide_eq_true h⟩, rfl⟩
        rw [if_pos r1]
        unfold cost worst rowsM
        rw [List.map_map]
        rfl
    · rw [if_neg d]
      have d2 : (g.length ≠ l.length ∨ g.any (fun v => decide (n ≤ v)) = true) := by
        apply Decidable.byContradiction
        intro h
        apply d
        unfold groupsM
        simp only [Bool.and_eq_true, decide_eq_true_eq, List.all_eq_true]
        refine ⟨Decidable.byContradiction fun e => h (.inl e), fun x hx => Nat.lt_of_not_le fun e => h (.inr (List.any_eq_true.mpr ⟨x, hx, decide_eq_true e⟩))⟩
      rw [if_pos d2]
      rfl
  · rw [if_neg c]
    have c' : ¬ (okN n && decide (1 ≤ s) && decide (s ≤ CHILDREN) && decide (l.length ≤ CHILDREN) && l.all (fun v => decide (v ≤ 1000))) = true := by
      intro h
      apply c
      unfold okN CHILDREN at h
      unfold countsM levelsM
      simp only [Bool.and_eq_true, decide_eq_true_eq] at h ⊢
      exact ⟨⟨h.1.1.1.1, h.1.1.1.2, h.1.1.2⟩, h.1.2, h.2⟩
    unfold answer given
    dsimp only
    rw [if_neg c']
    rfl
/-! greatest and least -/
theorem fmax_ge : ∀ (r : List Nat) (a : Nat), a ≤ r.foldl max a ∧ ∀ y ∈ r, y ≤ r.foldl max a
  | [], a => ⟨Nat.le_refl _, fun _ h => nomatch h⟩
  | x :: r, a => by
    obtain ⟨h1, h2⟩ := fmax_ge r (max a x)
    refine ⟨Nat.le_trans (Nat.le_max_left a x) h1, fun y hy => ?_⟩
    rcases List.mem_cons.mp hy with e | e
    · rw [e]
      exact Nat.le_trans (Nat.le_max_right a x) h1
    · exact h2 y e
theorem fmax_mem : ∀ (r : List Nat) (a : Nat), r.foldl max a = a ∨ r.foldl max a ∈ r
  | [], a => .inl rfl
  | x :: r, a => by
    rcases fmax_mem r (max a x) with h | h
    · rw [List.foldl_cons, h]
      rcases Nat.le_total a x with e | e
      · rw [Nat.max_eq_right e]
        exact .inr List.mem_cons_self
      · rw [Nat.max_eq_left e]
        exact .inl rfl
    · exact .inr (List.mem_cons_of_mem _ h)
theorem fmin_le : ∀ (r : List Nat) (a : Nat), r.foldl min a ≤ a ∧ ∀ y ∈ r, r.foldl min a ≤ y
  | [], a => ⟨Nat.le_refl _, fun _ h => nomatch h⟩
  | x :: r, a => by
    obtain ⟨h1, h2⟩ := fmin_le r (min a x)
    refine ⟨Nat.le_trans h1 (Nat.min_le_left a x), fun y hy => ?_⟩
    rcases List.mem_cons.mp hy with e | e
    · rw [e]
      exact Nat.le_trans h1 (Nat.min_le_right a x)
    · exact h2 y e
theorem fmin_mem : ∀ (r : List Nat) (a : Nat), r.foldl min a = a ∨ r.foldl min a ∈ r
  | [], a => .inl rfl
  | x :: r, a => by
    rcases fmin_mem r (min a x) with h | h
    · rw [List.foldl_cons, h]
      rcases Nat.le_total a x with e | e
      · rw [Nat.min_eq_left e]
        exact .inl rfl
      · rw [Nat.min_eq_right e]
        exact .inr List.mem_cons_self
    · exact .inr (List.mem_cons_of_mem _ h)
theorem mem_toI {l : List Nat} {m : Int} (h : m ∈ toI l) : ∃ x ∈ l, m = Int.ofNat x := by
  obtain ⟨x, hx, e⟩ := List.mem_map.mp h
  exact ⟨x, hx, e.symm⟩
theorem toI_mem {l : List Nat} {x : Nat} (h : x ∈ l) : Int.ofNat x ∈ toI l := List.mem_map.mpr ⟨x, h, rfl⟩
theorem max_is {a : Nat} {r : List Nat} {m : Int} (h : m ∈ toI (a :: r)) (g : ∀ y ∈ toI (a :: r), y ≤ m) : m = Int.ofNat (r.foldl max a) := by
  obtain ⟨x, hx, rfl⟩ := mem_toI h
  have t : x ≤ r.foldl max a := by
    rcases List.mem_cons.mp hx with e | e
    · rw [e]
      exact (fmax_ge r a).1
    · exact (fmax_ge r a).2 x e
  have u : r.foldl max a ∈ a :: r := by
    rcases fmax_mem r a with e | e
    · rw [e]
      exact List.mem_cons_self
    · exact List.mem_cons_of_mem _ e
  have v := g _ (toI_mem u)
  have w : r.foldl max a ≤ x := Int.ofNat_le.mp v
  rw [Nat.le_antisymm t w]
theorem min_is {a : Nat} {r : List Nat} {m : Int} (h : m ∈ toI (a :: r)) (g : ∀ y ∈ toI (a :: r), m ≤ y) : m = Int.ofNat (r.foldl min a) := by
  obtain ⟨x, hx, rfl⟩ := mem_toI h
  have t : r.foldl min a ≤ x := by
    rcases List.mem_cons.mp hx with e | e
    · rw [e]
      exact (fmin_le r a).1
    · exact (fmin_le r a).2 x e
  have u : r.foldl min a ∈ a :: r := by
    rcases fmin_mem r a with e | e
    · rw [e]
      exact List.mem_cons_self
    · exact List.mem_cons_of_mem _ e
  have v := g _ (toI_mem u)
  have w : x ≤ r.foldl min a := Int.ofNat_le.mp v
  rw [Nat.le_antisymm t w]
theorem spread_is (a : Nat) (r : List Nat) : Int.ofNat (r.foldl max a) - Int.ofNat (r.foldl min a) = Int.ofNat (spread (a :: r)) := by
  have h : r.foldl min a ≤ r.foldl max a := Nat.le_trans (fmin_le r a).1 (fmax_ge r a).1
  show ((r.foldl max a : Nat) : Int) - ((r.foldl min a : Nat) : Int) = ((r.foldl max a - r.foldl min a : Nat) : Int)
  omega
/-- the greatest of some -/
theorem top_is {l : List Nat} {m : Int} (h : m ∈ toI l) (g : ∀ y ∈ toI l, y ≤ m) : m = Int.ofNat (l.foldl max 0) := by
  obtain ⟨x, hx, rfl⟩ := mem_toI h
  have t : x ≤ l.foldl max 0 := (fmax_ge l 0).2 x hx
  have w : l.foldl max 0 ≤ x := by
    rcases fmax_mem l 0 with e | e
    · rw [e]
      exact Nat.zero_le _
    · exact Int.ofNat_le.mp (g _ (toI_mem e))
  rw [Nat.le_antisymm t w]
theorem sum_toI : ∀ l : List Nat, (toI l).sum = Int.ofNat l.sum
  | [] => rfl
  | x :: r => by
    show (Int.ofNat x :: toI r).sum = _
    rw [List.sum_cons, sum_toI r, List.sum_cons]
    rfl
/-! the groups, child by child -/
theorem group_nil (k : Nat) (g : List Nat) : group [] g k = [] := rfl
theorem zip_take : ∀ (l g : List Nat) (i : Nat), (l.take i).zip (g.take i) = (l.zip g).take i
  | _, _, 0 => by rw [List.take_zero, List.take_zero, List.take_zero]; rfl
  | [], g, i + 1 => by rw [List.take_nil, List.zip_nil_left, List.zip_nil_left, List.take_nil]
  | x :: l, [], i + 1 => by rw [List.take_nil, List.zip_nil_right, List.zip_nil_right, List.take_nil]
  | x :: l, y :: g, i + 1 => by
    show (x, y) :: (l.take i).zip (g.take i) = (x, y) :: (l.zip g).take i
    rw [zip_take l g i]
theorem group_more {l g : List Nat} {i : Nat} {x y : Nat} (k : Nat) (hx : l[i]? = some x) (hy : g[i]? = some y) :
    group (l.take (i + 1)) (g.take (i + 1)) k = if y = k then group (l.take i) (g.take i) k ++ [x] else group (l.take i) (g.take i) k := by
  unfold group
  rw [zip_take, zip_take]
  have hz : (l.zip g)[i]? = some (x, y) := by
    rw [List.getElem?_zip_eq_some]
    exact ⟨hx, hy⟩
  rw [List.take_add_one, hz, List.filter_append, List.map_append]
  by_cases e : y = k
  · rw [if_pos e]
    subst e
    simp
  · rw [if_neg e]
    have : ((y == k) = false) := by simp [e]
    simp [this]
theorem group_all {l g : List Nat} (h : l.length = g.length) (k : Nat) : group (l.take l.length) (g.take l.length) k = group l g k := by
  rw [List.take_length, h, List.take_length]
theorem group_len (l g : List Nat) (k : Nat) : (group l g k).length ≤ l.length := by
  unfold group
  rw [List.length_map]
  refine Nat.le_trans (List.length_filter_le _ _) ?_
  rw [List.length_zip]
  exact Nat.min_le_left _ _
end Lk
namespace Lk
open Ks438
/-! ### the row -/
theorem insert_perm (x : Nat) : ∀ l : List Nat, (Ks438.insert x l).Perm (x :: l)
  | [] => List.Perm.refl _
  | y :: l => by
    unfold Ks438.insert
    by_cases h : x ≤ y
    · rw [if_pos h]
    · rw [if_neg h]
      exact ((insert_perm x l).cons y).trans (List.Perm.swap x y l)
theorem sorted_perm : ∀ l : List Nat, (sorted l).Perm l
  | [] => List.Perm.refl _
  | x :: l => (insert_perm x (sorted l)).trans ((sorted_perm l).cons x)
theorem insert_pw (x : Nat) : ∀ l : List Nat, l.Pairwise (· ≤ ·) → (Ks438.insert x l).Pairwise (· ≤ ·)
  | [], _ => List.pairwise_singleton _ _
  | y :: l, h => by
    unfold Ks438.insert
    rw [List.pairwise_cons] at h
    by_cases c : x ≤ y
    · rw [if_pos c, List.pairwise_cons, List.pairwise_cons]
      refine ⟨fun z hz => ?_, h.1, h.2⟩
      rcases List.mem_cons.mp hz with e | e
      · rw [e]
        exact c
      · exact Nat.le_trans c (h.1 z e)
    · rw [if_neg c, List.pairwise_cons]
      refine ⟨fun z hz => ?_, insert_pw x l h.2⟩
      rcases List.mem_cons.mp ((insert_perm x l).mem_iff.mp hz) with e | e
      · rw [e]
        omega
      · exact h.1 z e
theorem sorted_pw : ∀ l : List Nat, (sorted l).Pairwise (· ≤ ·)
  | [] => List.Pairwise.nil
  | x :: l => insert_pw x _ (sorted_pw l)
theorem sorted_len (l : List Nat) : (sorted l).length = l.length := (sorted_perm l).length_eq
theorem pw_uniq : ∀ {l m : List Nat}, l.Perm m → l.Pairwise (· ≤ ·) → m.Pairwise (· ≤ ·) → l = m
  | [], m, p, _, _ => (List.Perm.nil_eq p)
  | x :: l, [], p, _, _ => absurd p.length_eq (by simp)
  | x :: l, y :: m, p, h, g => by
    rw [List.pairwise_cons] at h g
    have h1 : x ≤ y := by
      rcases List.mem_cons.mp (p.mem_iff.mpr List.mem_cons_self) with e | e
      · rw [e]
        exact Nat.le_refl _
      · exact h.1 _ e
    have h2 : y ≤ x := by
      rcases List.mem_cons.mp (p.mem_iff.mp List.mem_cons_self) with e | e
      · rw [e]
        exact Nat.le_refl _
      · exact g.1 _ e
    have e := Nat.le_antisymm h1 h2
    subst e
    rw [pw_uniq ((List.perm_cons x).mp p) h.2 g.2]
theorem sorted_uniq {l m : List Nat} (p : m.Perm l) (h : m.Pairwise (· ≤ ·)) : m = sorted l := pw_uniq (p.trans (sorted_perm l).symm) h (sorted_pw l)
/-! ### the cuts -/
/-- a way to cut -/
structure Cut (size n m : Nat) (c : List Nat) : Prop where
  few : c.length ≤ n
  one : ∀ x ∈ c, 1 ≤ x ∧ x ≤ size
  all : c.sum = m
theorem cut_nil {size n : Nat} : Cut size n 0 [] := ⟨Nat.zero_le _, (fun _ h => nomatch h), rfl⟩
theorem cut_zero {size n : Nat} {c : List Nat} (h : Cut size n 0 c) : c = [] := by
  cases c with
  | nil => rfl
  | cons x r =>
    have h1 := (h.one x List.mem_cons_self).1
    have h2 := h.all
    rw [List.sum_cons] at h2
    omega
theorem cut_cons {size n m x : Nat} {r : List Nat} : Cut size (n + 1) m (x :: r) ↔ (1 ≤ x ∧ x ≤ size ∧ x ≤ m) ∧ Cut size n (m - x) r := by
  constructor
  · intro h
    have h2 := h.all
    have h1 := h.one x List.mem_cons_self
    have h3 := h.few
    rw [List.sum_cons] at h2
    rw [List.length_cons] at h3
    exact ⟨⟨h1.1, h1.2, by omega⟩, ⟨by omega, fun y hy => h.one y (List.mem_cons_of_mem _ hy), by omega⟩⟩
  · rintro ⟨⟨h1, h2, h3⟩, h⟩
    refine ⟨?_, fun y hy => ?_, ?_⟩
    · rw [List.length_cons]
      have := h.few
      omega
    · rcases List.mem_cons.mp hy with e | e
      · rw [e]
        exact ⟨h1, h2⟩
      · exact h.one y e
    · rw [List.sum_cons, h.all]
      omega
theorem cuts_zero (size n : Nat) : cuts size n 0 = [[]] := by
  cases n with
  | zero => rfl
  | succ n =>
    unfold cuts
    rfl
theorem cuts_none {size m : Nat} (h : m ≠ 0) : cuts size 0 m = [] := by
  unfold cuts
  rw [if_neg h]
theorem cuts_succ {size n m : Nat} (h : m ≠ 0) : cuts size (n + 1) m = (List.range (min size m)).flatMap fun i => (cuts size n (m - (i + 1))).map fun r => (i + 1) :: r := by
  rw [cuts]
  rw [if_neg h]
theorem mem_cuts : ∀ {n size m : Nat} {c : List Nat}, c ∈ cuts size n m ↔ Cut size n m c
  | 0, size, m, c => by
    by_cases h : m = 0
    · subst h
      rw [cuts_zero, List.mem_singleton]
      exact ⟨fun e => e ▸ cut_nil, cut_zero⟩
    · rw [cuts_none h]
      refine ⟨(fun q => nomatch q), fun q => ?_⟩
      have h1 := q.few
      have h2 := q.all
      cases c with
      | nil => exact absurd h2.symm h
      | cons x r =>
        rw [List.length_cons] at h1
        omega
  | n + 1, size, m, c => by
    by_cases h : m = 0
    · subst h
      rw [cuts_zero, List.mem_singleton]
      exact ⟨fun e => e ▸ cut_nil, cut_zero⟩
    · rw [cuts_succ h, List.mem_flatMap]
      constructor
      · rintro ⟨i, hi, hc⟩
        obtain ⟨r, hr, rfl⟩ := List.mem_map.mp hc
        have hi' := List.mem_range.mp hi
        exact cut_cons.mpr ⟨⟨by omega, by omega, by omega⟩, mem_cuts.mp hr⟩
      · intro q
        cases c with
        | nil => exact absurd q.all.symm h
        | cons x r =>
          obtain ⟨⟨h1, h2, h3⟩, q⟩ := cut_cons.mp q
          have e : x - 1 + 1 = x := by omega
          refine ⟨x - 1, List.mem_range.mpr (by omega), List.mem_map.mpr ⟨r, ?_, by rw [e]⟩⟩
          rw [e]
          exact mem_cuts.mpr q
/-- which comes first: the shorter piece where they first differ -/
def Bef : List Nat → List Nat → Prop
  | x :: r, y :: s => x < y ∨ (x = y ∧ Bef r s)
  | _, _ => False
theorem bef_irr : ∀ c : List Nat, ¬ Bef c c
  | [] => fun h => h
  | x :: r => fun h => by
    rcases h with h | h
    · exact Nat.lt_irrefl _ h
    · exact bef_irr r h.2
theorem bef_asym : ∀ {c d : List Nat}, Bef c d → ¬ Bef d c
  | [], _, h, _ => h
  | _ :: _, [], h, _ => h
  | x :: r, y :: s, h, g => by
    rcases h with h | h <;> rcases g with g | g
    · omega
    · omega
    · omega
    · exact bef_asym h.2 g.2
/-- two ways to cut the same: one comes first -/
theorem bef_tri : ∀ {c d : List Nat} {size n m : Nat}, Cut size n m c → Cut size n m d → c = d ∨ Bef c d ∨ Bef d c
  | [], [], _, _, _, _, _ => .inl rfl
  | [], y :: s, _, _, m, h, g => by
    have e : m = 0 := h.all.symm
    subst e
    exact .inl (cut_zero g).symm
  | x :: r, [], _, _, m, h, g => by
    have e : m = 0 := g.all.symm
    subst e
    exact .inl (cut_zero h)
  | x :: r, y :: s, size, 0, m, h, g => absurd h.few (by rw [List.length_cons]; omega)
  | x :: r, y :: s, size, n + 1, m, h, g => by
    rcases Nat.lt_trichotomy x y with e | e | e
    · exact .inr (.inl (.inl e))
    · subst e
      rcases bef_tri (cut_cons.mp h).2 (cut_cons.mp g).2 with q | q | q
      · exact .inl (by rw [q])
      · exact .inr (.inl (.inr ⟨rfl, q⟩))
      · exact .inr (.inr (.inr ⟨rfl, q⟩))
    · exact .inr (.inr (.inl e))
theorem pw_flat {α β : Type} {R : β → β → Prop} {f : α → List β} : ∀ {l : List α}, (∀ a ∈ l, (f a).Pairwise R) → l.Pairwise (fun a b => ∀ x ∈ f a, ∀ y ∈ f b, R x y) → (l.flatMap f).Pairwise R
  | [], _, _ => List.Pairwise.nil
  | a :: l, h, g => by
    rw [List.flatMap_cons, List.pairwise_append]
    rw [List.pairwise_cons] at g
    refine ⟨h a List.mem_cons_self, pw_flat (fun b hb => h b (List.mem_cons_of_mem _ hb)) g.2, fun x hx y hy => ?_⟩
    obtain ⟨b, hb, hy⟩ := List.mem_flatMap.mp hy
    exact g.1 b hb x hx y hy
theorem cuts_pw : ∀ (n size m : Nat), (cuts size n m).Pairwise Bef
  | 0, size, m => by
    by_cases h : m = 0
    · subst h
      rw [cuts_zero]
      exact List.pairwise_singleton _ _
    · rw [cuts_none h]
      exact List.Pairwise.nil
  | n + 1, size, m => by
    by_cases h : m = 0
    · subst h
      rw [cuts_zero]
      exact List.pairwise_singleton _ _
    · rw [cuts_succ h]
      refine pw_flat (fun i _ => ?_) ?_
      · rw [List.pairwise_map]
        exact (cuts_pw n size _).imp fun h => .inr ⟨rfl, h⟩
      · refine List.Pairwise.imp ?_ List.pairwise_lt_range
        intro i j hij x hx y hy
        obtain ⟨r, _, rfl⟩ := List.mem_map.mp hx
        obtain ⟨s, _, rfl⟩ := List.mem_map.mp hy
        exact .inl (by omega)
/-! ### the first of the least -/
/-- c is in l, none is less, and what is as good stands behind it -/
structure Fst (f : List Nat → Nat) (l : List (List Nat)) (c : List Nat) : Prop where
  isIn : c ∈ l
  least : ∀ x ∈ l, f c ≤ f x
theorem fold_first (f : List Nat → Nat) : ∀ (r : List (List Nat)) (a : List Nat),
    ∃ p q, (a :: r) = p ++ (r.foldl (fun b c => if f c < f b then c else b) a) :: q ∧ (∀ x ∈ p, f (r.foldl (fun b c => if f c < f b then c else b) a) < f x) ∧ ∀ x ∈ q, f (r.foldl (fun b c => if f c < f b then c else b) a) ≤ f x
  | [], a => ⟨[], [], rfl, (fun _ h => nomatch h), (fun _ h => nomatch h)⟩
  | b :: r, a => by
    rw [List.foldl_cons]
    by_cases h : f b < f a
    · rw [if_pos h]
      obtain ⟨p, q, e, h1, h2⟩ := fold_first f r b
      refine ⟨a :: p, q, by rw [e]; rfl, fun x hx => ?_, h2⟩
      rcases List.mem_cons.mp hx with g | g
      · rw [g]
        refine Nat.lt_of_le_of_lt ?_ h
        have hb : b ∈ p ++ (r.foldl (fun b c => if f c < f b then c else b) b) :: q := by
          rw [← e]
          exact List.mem_cons_self
        rcases List.mem_append.mp hb with k | k
        · exact Nat.le_of_lt (h1 b k)
        · rcases List.mem_cons.mp k with k | k
          · rw [← k]
            exact Nat.le_refl _
          · exact h2 b k
      · exact h1 x g
    · rw [if_neg h]
      obtain ⟨p, q, e, h1, h2⟩ := fold_first f r a
      cases p with
      | nil =>
        have e1 : a = r.foldl (fun b c => if f c < f b then c else b) a := (List.cons.inj e).1
        have e2 : r = q := (List.cons.inj e).2
        refine ⟨[], b :: q, ?_, (fun _ h => nomatch h), fun x hx => ?_⟩
        · show a :: b :: r = _ :: b :: q
          rw [← e1, e2]
        · rcases List.mem_cons.mp hx with g | g
          · rw [g, ← e1]
            omega
          · exact h2 x g
      | cons y p =>
        have e1 : a = y := (List.cons.inj e).1
        have e2 := (List.cons.inj e).2
        subst e1
        refine ⟨a :: b :: p, q, ?_, fun x hx => ?_, h2⟩
        · show a :: b :: r = a :: b :: (p ++ _)
          exact congrArg (fun t => a :: b :: t) e2
        · rcases List.mem_cons.mp hx with g | g
          · exact h1 x (g ▸ List.mem_cons_self)
          · rcases List.mem_cons.mp g with g | g
            · rw [g]
              exact Nat.lt_of_lt_of_le (h1 a List.mem_cons_self) (Nat.le_of_not_lt h)
            · exact h1 x (List.mem_cons_of_mem _ g)
theorem first_split {f : List Nat → Nat} {l : List (List Nat)} {c : List Nat} (h : first f l = some c) : ∃ p q, l = p ++ c :: q ∧ (∀ x ∈ p, f c < f x) ∧ ∀ x ∈ q, f c ≤ f x := by
  cases l with
  | nil => cases h
  | cons a r =>
    have e : r.foldl (fun b c => if f c < f b then c else b) a = c := Option.some.inj h
    obtain ⟨p, q, e1, h1, h2⟩ := fold_first f r a
    rw [e] at e1 h1 h2
    exact ⟨p, q, e1, h1, h2⟩
theorem first_none {f : List Nat → Nat} {l : List (List Nat)} : first f l = none ↔ l = [] := by
  cases l with
  | nil => exact ⟨fun _ => rfl, fun _ => rfl⟩
  | cons a r => exact ⟨(fun h => nomatch h), (fun h => nomatch h)⟩
theorem first_mem {f : List Nat → Nat} {l : List (List Nat)} {c : List Nat} (h : first f l = some c) : c ∈ l := by
  obtain ⟨p, q, e, _, _⟩ := first_split h
  rw [e]
  exact List.mem_append.mpr (.inr List.mem_cons_self)
theorem first_least {f : List Nat → Nat} {l : List (List Nat)} {c : List Nat} (h : first f l = some c) : ∀ x ∈ l, f c ≤ f x := by
  obtain ⟨p, q, e, h1, h2⟩ := first_split h
  intro x hx
  rw [e] at hx
  rcases List.mem_append.mp hx with k | k
  · exact Nat.le_of_lt (h1 x k)
  · rcases List.mem_cons.mp k with k | k
    · rw [k]
      exact Nat.le_refl _
    · exact h2 x k
/-- THE WAY TO SHOW IT: c is a cut, none is less, and what is as good isn't ahead of c -/
theorem first_is {f : List Nat → Nat} {size n m : Nat} {c : List Nat} (h : Cut size n m c) (g : ∀ x, Cut size n m x → f c ≤ f x) (k : ∀ x, Cut size n m x → f x = f c → ¬ Bef x c) : first f (cuts size n m) = some c := by
  cases e : first f (cuts size n m) with
  | none =>
    have q := mem_cuts.mpr h
    rw [first_none.mp e] at q
    cases q
  | some d =>
    have hd := mem_cuts.mp (first_mem e)
    have e1 := first_least e c (mem_cuts.mpr h)
    have e2 := g d hd
    rcases bef_tri hd h with q | q | q
    · rw [q]
    · exact absurd q (k d hd (by omega))
    · obtain ⟨p, r, e3, h1, h2⟩ := first_split e
      have pw := cuts_pw n size m
      have hc : c ∈ p ++ d :: r := by
        rw [← e3]
        exact mem_cuts.mpr h
      rw [e3] at pw
      rcases List.mem_append.mp hc with z | z
      · have := h1 c z
        omega
      · rcases List.mem_cons.mp z with z | z
        · rw [z]
        · have := List.rel_of_pairwise_cons ((List.pairwise_append.mp pw).2.1) z
          exact absurd q (bef_asym this)
/-- and what it says of what it gives -/
theorem first_bef {f : List Nat → Nat} {size n m : Nat} {c : List Nat} (h : first f (cuts size n m) = some c) : ∀ x, Cut size n m x → f x = f c → ¬ Bef x c := by
  intro x hx e b
  obtain ⟨p, r, e3, h1, h2⟩ := first_split h
  have hm := mem_cuts.mpr hx
  have pw := cuts_pw n size m
  rw [e3] at pw hm
  rcases List.mem_append.mp hm with z | z
  · have := h1 x z
    omega
  · rcases List.mem_cons.mp z with z | z
    · rw [z] at b
      exact bef_irr _ b
    · exact bef_asym b (List.rel_of_pairwise_cons ((List.pairwise_append.mp pw).2.1) z)
/-- there is a cut just if all fit -/
theorem cut_fits {size n m : Nat} {c : List Nat} (h : Cut size n m c) : m ≤ n * size := by
  have : ∀ c : List Nat, (∀ x ∈ c, x ≤ size) → c.sum ≤ c.length * size := by
    intro c
    induction c with
    | nil => intro _; exact Nat.zero_le _
    | cons x r ih =>
      intro h
      have h1 := ih fun y hy => h y (List.mem_cons_of_mem _ hy)
      have h2 := h x List.mem_cons_self
      rw [List.sum_cons, List.length_cons, Nat.succ_mul]
      omega
  have h1 := this c fun x hx => (h.one x hx).2
  rw [h.all] at h1
  exact Nat.le_trans h1 (Nat.mul_le_mul_right _ h.few)
theorem fits_cut {size : Nat} (hs : 1 ≤ size) : ∀ (n m : Nat), m ≤ n * size → ∃ c, Cut size n m c
  | 0, m, h => by
    rw [Nat.zero_mul] at h
    have e : m = 0 := by omega
    subst e
    exact ⟨[], cut_nil⟩
  | n + 1, m, h => by
    by_cases e : m = 0
    · subst e
      exact ⟨[], cut_nil⟩
    · rw [Nat.succ_mul] at h
      obtain ⟨c, hc⟩ := fits_cut hs n (m - min size m) (by omega)
      exact ⟨min size m :: c, cut_cons.mpr ⟨⟨by omega, by omega, by omega⟩, hc⟩⟩
theorem cuts_empty {size n m : Nat} (hs : 1 ≤ size) : cuts size n m = [] ↔ n * size < m := by
  constructor
  · intro h
    apply Nat.lt_of_not_le
    intro k
    obtain ⟨c, hc⟩ := fits_cut hs n m k
    have := mem_cuts.mpr hc
    rw [h] at this
    cases this
  · intro h
    cases e : cuts size n m with
    | nil => rfl
    | cons c r =>
      have hc : c ∈ cuts size n m := by
        rw [e]
        exact List.mem_cons_self
      have := cut_fits (mem_cuts.mp hc)
      omega
end Lk
namespace Lk
open Ks438
theorem foldl_max (a : Nat) : ∀ (l : List Nat) , l.foldl max a = max a (l.foldl max 0) := by
  intro l
  induction l generalizing a with
  | nil => simp
  | cons x r ih =>
    rw [List.foldl_cons, List.foldl_cons, ih (max a x), ih (max 0 x)]
    omega
theorem pieces_nil (s : List Nat) : pieces s [] = [] := by
  unfold pieces
  rfl
theorem pieces_cons (s : List Nat) (k : Nat) (r : List Nat) : pieces s (k :: r) = s.take k :: pieces (s.drop k) r := by
  rw [pieces]
theorem sum_nil (s : List Nat) : Ks438.sum s [] = 0 := by
  unfold Ks438.sum
  rw [pieces_nil]
  rfl
theorem sum_cons (s : List Nat) (k : Nat) (r : List Nat) : Ks438.sum s (k :: r) = spread (s.take k) + Ks438.sum (s.drop k) r := by
  unfold Ks438.sum
  rw [pieces_cons, List.map_cons, List.sum_cons]
theorem greatest_nil (s : List Nat) : greatest s [] = 0 := by
  unfold greatest
  rw [pieces_nil]
  rfl
theorem greatest_cons (s : List Nat) (k : Nat) (r : List Nat) : greatest s (k :: r) = max (spread (s.take k)) (greatest (s.drop k) r) := by
  unfold greatest
  rw [pieces_cons, List.map_cons, List.foldl_cons, foldl_max]
  omega
/-- within a row that rises: the last less the first -/
theorem fold_max_pw : ∀ (r : List Nat) (a : Nat), (a :: r).Pairwise (· ≤ ·) → r.foldl max a = (a :: r).getLast (List.cons_ne_nil _ _)
  | [], a, _ => rfl
  | b :: r, a, h => by
    rw [List.pairwise_cons] at h
    have e : max a b = b := Nat.max_eq_right (h.1 b List.mem_cons_self)
    rw [List.foldl_cons, e, fold_max_pw r b h.2]
    rfl
theorem fold_min_pw : ∀ (r : List Nat) (a : Nat), (∀ x ∈ r, a ≤ x) → r.foldl min a = a
  | [], a, _ => rfl
  | b :: r, a, h => by
    have e : min a b = a := Nat.min_eq_left (h b List.mem_cons_self)
    rw [List.foldl_cons, e, fold_min_pw r a fun x hx => h x (List.mem_cons_of_mem _ hx)]
theorem spread_pw {a : Nat} {r : List Nat} (h : (a :: r).Pairwise (· ≤ ·)) : spread (a :: r) = (a :: r).getLast (List.cons_ne_nil _ _) - a := by
  show r.foldl max a - r.foldl min a = _
  rw [fold_max_pw r a h, fold_min_pw r a (List.pairwise_cons.mp h).1]
/-- a piece from place i on, of k + 1 children -/
theorem spread_at {s : List Nat} (h : s.Pairwise (· ≤ ·)) {i k : Nat} (hk : i + k < s.length) : spread ((s.drop i).take (k + 1)) = s[i + k] - s[i] := by
  have e : (s.drop i).take (k + 1) = s[i] :: (s.drop (i + 1)).take k := by
    rw [List.drop_eq_getElem_cons (by omega : i < s.length), List.take_succ_cons]
  have pw : ((s.drop i).take (k + 1)).Pairwise (· ≤ ·) := (h.sublist (List.drop_sublist _ _)).sublist (List.take_sublist _ _)
  rw [e] at pw
  rw [e, spread_pw pw]
  have e2 : (s[i] :: (s.drop (i + 1)).take k).getLast (List.cons_ne_nil _ _) = s[i + k] := by
    rw [List.getLast_eq_getElem]
    have hl : (s[i] :: (s.drop (i + 1)).take k).length = k + 1 := by
      rw [List.length_cons, List.length_take, List.length_drop]
      omega
    apply Option.some.inj
    rw [← List.getElem?_eq_getElem, ← List.getElem?_eq_getElem, hl, Nat.add_sub_cancel, ← e, List.getElem?_take, if_pos (Nat.lt_succ_self k), List.getElem?_drop]
  rw [e2]
theorem best_none {n size : Nat} {l : List Nat} : best n size l = none ↔ cuts size n l.length = [] := first_none
theorem even_none {n size : Nat} {l : List Nat} : even n size l = none ↔ cuts size n l.length = [] := first_none
/-! ### how few -/
/-- that so many are enough -/
def Enough (size most : Nat) (l : List Nat) (n : Nat) : Prop := ∃ c, Cut size n l.length c ∧ greatest (sorted l) c ≤ most
theorem even_enough {size most n : Nat} {l : List Nat} : (match even n size l with
    | none => false
    | some c => decide (greatest (sorted l) c ≤ most)) = true ↔ Enough size most l n := by
  cases e : even n size l with
  | none =>
    refine ⟨(fun h => nomatch h), fun ⟨c, hc, _⟩ => ?_⟩
    have := mem_cuts.mpr hc
    rw [even_none.mp e] at this
    cases this
  | some c =>
    constructor
    · intro h
      exact ⟨c, mem_cuts.mp (first_mem e), of_decide_eq_true h⟩
    · rintro ⟨d, hd, hm⟩
      exact decide_eq_true (Nat.le_trans (first_least e d (mem_cuts.mpr hd)) hm)
theorem find_range {p : Nat → Bool} {k n : Nat} (hk : k < n) (h : p k = true) (g : ∀ j, j < k → p j = false) : (List.range n).find? p = some k := by
  have e : List.range n = List.range k ++ k :: (List.range' (k + 1) (n - k - 1)) := by
    have e1 : n = k + (1 + (n - k - 1)) := by omega
    have e2 : List.range' k (1 + (n - k - 1)) = k :: List.range' (k + 1) (n - k - 1) := by
      rw [Nat.add_comm 1, List.range'_succ]
    rw [← e2]
    conv => lhs; rw [e1]
    rw [List.range_eq_range', List.range_eq_range', ← List.range'_append]
    simp
  rw [e, List.find?_append, List.find?_eq_none.mpr, Option.none_or, List.find?_cons_of_pos h]
  intro x hx
  rw [g x (List.mem_range.mp hx)]
  exact Bool.false_ne_true
theorem few_is {size most k : Nat} {l : List Nat} (hk : k ≤ l.length) (h : Enough size most l k) (g : ∀ j, j < k → ¬ Enough size most l j) : few size most l = some k := by
  unfold few
  refine find_range (by omega) (even_enough.mpr h) fun j hj => ?_
  exact Bool.eq_false_iff.mpr fun q => g j hj (even_enough.mp q)
theorem greatest_ones : ∀ (k : Nat) (s : List Nat), greatest s (List.replicate k 1) = 0
  | 0, s => greatest_nil s
  | k + 1, s => by
    rw [List.replicate_succ, greatest_cons, greatest_ones k]
    cases s with
    | nil => rfl
    | cons x r =>
      show max (spread [x]) 0 = 0
      show max (x - x) 0 = 0
      omega
theorem enough_all {size most : Nat} (hs : 1 ≤ size) (l : List Nat) : Enough size most l l.length :=
  ⟨List.replicate l.length 1, ⟨by rw [List.length_replicate]; exact Nat.le_refl _, fun x hx => by rw [List.eq_of_mem_replicate hx]; exact ⟨Nat.le_refl _, hs⟩, by rw [List.sum_replicate_nat]; omega⟩, by rw [greatest_ones]; exact Nat.zero_le _⟩
/-! ### the first of the least, part by part (for a program that makes the ways one behind the other) -/
/-- of two, the earlier, where the later isn't less -/
def pick (f : List Nat → Nat) : Option (List Nat) → Option (List Nat) → Option (List Nat)
  | none, b => b
  | a, none => a
  | some a, some b => if f b < f a then some b else some a
theorem pick_pick (f : List Nat → Nat) (a c : List Nat) : ∀ x : Option (List Nat), pick f (some (if f c < f a then c else a)) x = pick f (some a) (pick f (some c) x)
  | none => by
    show some (if f c < f a then c else a) = if f c < f a then some c else some a
    by_cases h : f c < f a
    · rw [if_pos h, if_pos h]
    · rw [if_neg h, if_neg h]
  | some d => by
    show (if f d < f (if f c < f a then c else a) then some d else some (if f c < f a then c else a)) = pick f (some a) (if f d < f c then some d else some c)
    by_cases h : f c < f a
    · rw [if_pos h]
      by_cases q : f d < f c
      · rw [if_pos q]
        show some d = if f d < f a then some d else some a
        rw [if_pos (by omega)]
      · rw [if_neg q]
        show some c = if f c < f a then some c else some a
        rw [if_pos h]
    · rw [if_neg h]
      by_cases q : f d < f c
      · rw [if_pos q]
        rfl
      · rw [if_neg q, if_neg (by omega)]
        show some a = if f c < f a then some c else some a
        rw [if_neg h]
theorem fold_pick (f : List Nat → Nat) : ∀ (r : List (List Nat)) (a : List Nat), some (r.foldl (fun b c => if f c < f b then c else b) a) = pick f (some a) (first f r)
  | [], a => rfl
  | c :: r, a => by
    rw [List.foldl_cons, fold_pick f r, pick_pick]
    show pick f (some a) (pick f (some c) (first f r)) = pick f (some a) (some (r.foldl (fun b c => if f c < f b then c else b) c))
    rw [fold_pick f r c]
theorem first_append (f : List Nat → Nat) (a b : List (List Nat)) : first f (a ++ b) = pick f (first f a) (first f b) := by
  cases a with
  | nil => rfl
  | cons x r =>
    show some ((r ++ b).foldl _ x) = pick f (some (r.foldl _ x)) (first f b)
    rw [List.foldl_append]
    exact fold_pick f b _
theorem first_map {f g : List Nat → Nat} (h : List Nat → List Nat) (hm : ∀ x y, f (h x) < f (h y) ↔ g x < g y) (l : List (List Nat)) : first f (l.map h) = (first g l).map h := by
  cases l with
  | nil => rfl
  | cons a r =>
    show some ((r.map h).foldl _ (h a)) = some (h (r.foldl _ a))
    congr 1
    induction r generalizing a with
    | nil => rfl
    | cons b r ih =>
      rw [List.map_cons, List.foldl_cons, List.foldl_cons]
      by_cases c : g b < g a
      · rw [if_pos c, if_pos ((hm b a).mpr c)]
        exact ih b
      · rw [if_neg c, if_neg fun q => c ((hm b a).mp q)]
        exact ih a
end Lk
namespace Lk
open Ks438
/-! ### the cuts, made by a stack of begun ones -/
/-- all cuts that begin so -/
def goOn (size n m : Nat) (p : List Nat) : List (List Nat) := (cuts size (n - p.length) (m - p.sum)).map fun r => p ++ r
theorem goOn_nil (size n m : Nat) : goOn size n m [] = cuts size n m := by
  unfold goOn
  simp
theorem goOn_done {size n m : Nat} {p : List Nat} (h : m - p.sum = 0) : goOn size n m p = [p] := by
  unfold goOn
  rw [h, cuts_zero]
  simp
theorem goOn_full {size n m : Nat} {p : List Nat} (h : m - p.sum ≠ 0) (k : n ≤ p.length) : goOn size n m p = [] := by
  unfold goOn
  have e : n - p.length = 0 := by omega
  rw [e, cuts_none h]
  rfl
theorem goOn_more {size n m : Nat} {p : List Nat} (h : m - p.sum ≠ 0) (k : p.length < n) : goOn size n m p = (List.range (min size (m - p.sum))).flatMap fun i => goOn size n m (p ++ [i + 1]) := by
  unfold goOn
  have e : n - p.length = (n - p.length - 1) + 1 := by omega
  rw [e, cuts_succ h, List.map_flatMap]
  congr 1
  funext i
  rw [List.map_map]
  have e1 : n - (p ++ [i + 1]).length = n - p.length - 1 := by
    rw [List.length_append, List.length_singleton]
    omega
  have e2 : m - (p ++ [i + 1]).sum = m - p.sum - (i + 1) := by
    rw [List.sum_append, List.sum_singleton]
    omega
  rw [e1, e2]
  congr 1
  funext r
  simp
/-- what is put in, from the longest on: j of them -/
def putIn (p : List Nat) (L : Nat) (j : Nat) : List (List Nat) := (List.range j).map fun t => p ++ [L - t]
theorem putIn_succ (p : List Nat) (L j : Nat) : putIn p L (j + 1) = putIn p L j ++ [p ++ [L - j]] := by
  unfold putIn
  rw [List.range_succ, List.map_append]
  rfl
theorem putIn_rev (p : List Nat) (L : Nat) : (putIn p L L).reverse = (List.range L).map fun i => p ++ [i + 1] := by
  unfold putIn
  apply List.ext_getElem
  · simp
  · intro i h1 h2
    simp only [List.length_reverse, List.length_map, List.length_range] at h1
    rw [List.getElem_reverse]
    simp only [List.getElem_map, List.getElem_range, List.length_map, List.length_range]
    congr 2
    omega
/-- what is left to do of one -/
def weight (m : Nat) (p : List Nat) : Nat := 2 ^ (m - p.sum)
def weights (m : Nat) (b : List (List Nat)) : Nat := (b.map (weight m)).sum
theorem weights_app (m : Nat) (a b : List (List Nat)) : weights m (a ++ b) = weights m a + weights m b := by
  unfold weights
  rw [List.map_append, List.sum_append]
theorem weights_one (m : Nat) (p : List Nat) : weights m [p] = weight m p := by
  unfold weights
  simp
theorem weight_pos (m : Nat) (p : List Nat) : 1 ≤ weight m p := Nat.one_le_two_pow
theorem weights_len (m : Nat) : ∀ b : List (List Nat), b.length ≤ weights m b
  | [] => Nat.zero_le _
  | p :: b => by
    have h1 := weights_len m b
    have h2 := weight_pos m p
    have e : weights m (p :: b) = weight m p + weights m b := by
      unfold weights
      rw [List.map_cons, List.sum_cons]
    rw [e, List.length_cons]
    omega
/-- those put in weigh less than what they go on from -/
theorem putIn_weight {m : Nat} {p : List Nat} {L : Nat} (h : L ≤ m - p.sum) : ∀ j, j ≤ L → weights m (putIn p L j) + 2 ^ (m - p.sum - L) ≤ 2 ^ (m - p.sum - L + j)
  | 0, _ => by
    show 0 + _ ≤ _
    rw [Nat.zero_add, Nat.add_zero]
    exact Nat.le_refl _
  | j + 1, hj => by
    have ih := putIn_weight h j (by omega)
    rw [putIn_succ, weights_app, weights_one]
    have e : weight m (p ++ [L - j]) = 2 ^ (m - p.sum - L + j) := by
      unfold weight
      congr 1
      rw [List.sum_append, List.sum_singleton]
      omega
    rw [e, ← Nat.add_assoc, Nat.pow_succ]
    omega
theorem putIn_less {m : Nat} {p : List Nat} {L : Nat} (h : L ≤ m - p.sum) : weights m (putIn p L L) < weight m p := by
  have h1 := putIn_weight h L (Nat.le_refl _)
  have e : m - p.sum - L + L = m - p.sum := by omega
  rw [e] at h1
  have h2 : 1 ≤ 2 ^ (m - p.sum - L) := Nat.one_le_two_pow
  unfold weight
  omega
theorem putIn_len (p : List Nat) (L j : Nat) : (putIn p L j).length = j := by
  unfold putIn
  rw [List.length_map, List.length_range]
/-- how it stands: those made, and those begun (the next one last) -/
structure Stk (size n m : Nat) (made begun : List (List Nat)) : Prop where
  all : made ++ begun.reverse.flatMap (goOn size n m) = cuts size n m
  few : made.length + weights m begun ≤ 2 ^ m
  len : ∀ p ∈ begun, p.length ≤ n
  sum : ∀ p ∈ begun, p.sum ≤ m
theorem stk_start (size n m : Nat) : Stk size n m [] [[]] := by
  refine ⟨?_, ?_, fun p hp => ?_, fun p hp => ?_⟩
  · simp [goOn_nil]
  · rw [weights_one]
    show 0 + 2 ^ (m - 0) ≤ 2 ^ m
    simp
  · rw [List.mem_singleton.mp hp]
    exact Nat.zero_le _
  · rw [List.mem_singleton.mp hp]
    exact Nat.zero_le _
theorem stk_made {size n m : Nat} {made begun : List (List Nat)} {p : List Nat} (h : Stk size n m made (begun ++ [p])) (e : m - p.sum = 0) : Stk size n m (made ++ [p]) begun := by
  refine ⟨?_, ?_, fun q hq => h.len q (List.mem_append_left _ hq), fun q hq => h.sum q (List.mem_append_left _ hq)⟩
  · have a := h.all
    rw [List.reverse_append, List.reverse_singleton, List.singleton_append, List.flatMap_cons, goOn_done e, ← List.append_assoc] at a
    exact a
  · have f := h.few
    rw [weights_app, weights_one] at f
    have := weight_pos m p
    rw [List.length_append, List.length_singleton]
    omega
theorem stk_full {size n m : Nat} {made begun : List (List Nat)} {p : List Nat} (h : Stk size n m made (begun ++ [p])) (e : m - p.sum ≠ 0) (k : n ≤ p.length) : Stk size n m made begun := by
  refine ⟨?_, ?_, fun q hq => h.len q (List.mem_append_left _ hq), fun q hq => h.sum q (List.mem_append_left _ hq)⟩
  · have a := h.all
    rw [List.reverse_append, List.reverse_singleton, List.singleton_append, List.flatMap_cons, goOn_full e k, List.nil_append] at a
    exact a
  · have f := h.few
    rw [weights_app, weights_one] at f
    omega
theorem stk_more {size n m : Nat} {made begun : List (List Nat)} {p : List Nat} (h : Stk size n m made (begun ++ [p])) (e : m - p.sum ≠ 0) (k : p.length < n) : Stk size n m made (begun ++ putIn p (min size (m - p.sum)) (min size (m - p.sum))) := by
  have hp : p ∈ begun ++ [p] := List.mem_append_right _ List.mem_cons_self
  have s1 := h.sum p hp
  have mem : ∀ q ∈ putIn p (min size (m - p.sum)) (min size (m - p.sum)), q.length ≤ n ∧ q.sum ≤ m := by
    intro q hq
    unfold putIn at hq
    obtain ⟨t, ht, rfl⟩ := List.mem_map.mp hq
    have := List.mem_range.mp ht
    rw [List.length_append, List.length_singleton, List.sum_append, List.sum_singleton]
    omega
  refine ⟨?_, ?_, fun q hq => ?_, fun q hq => ?_⟩
  · have a := h.all
    rw [List.reverse_append, List.reverse_singleton, List.singleton_append, List.flatMap_cons, goOn_more e k] at a
    rw [List.reverse_append, List.flatMap_append, putIn_rev, List.flatMap_map]
    exact a
  · have f := h.few
    rw [weights_app, weights_one] at f
    have := putIn_less (p := p) (m := m) (L := min size (m - p.sum)) (Nat.min_le_right _ _)
    rw [weights_app]
    omega
  · rcases List.mem_append.mp hq with z | z
    · exact h.len q (List.mem_append_left _ z)
    · exact (mem q z).1
  · rcases List.mem_append.mp hq with z | z
    · exact h.sum q (List.mem_append_left _ z)
    · exact (mem q z).2
theorem stk_end {size n m : Nat} {made : List (List Nat)} (h : Stk size n m made []) : made = cuts size n m := by
  have a := h.all
  simpa using a
/-! ### the pieces' spreads -/
theorem pieces_at : ∀ {s c : List Nat} {i x : Nat}, c[i]? = some x → (pieces s c)[i]? = some ((s.drop (c.take i).sum).take x)
  | s, [], i, x, h => by
    cases h
  | s, y :: r, 0, x, h => by
    have e : y = x := Option.some.inj h
    rw [pieces_cons, e]
    rfl
  | s, y :: r, i + 1, x, h => by
    have h' : r[i]? = some x := h
    rw [pieces_cons, List.getElem?_cons_succ, pieces_at h', List.take_succ_cons, List.sum_cons, List.drop_drop]
theorem pieces_len : ∀ (s c : List Nat), (pieces s c).length = c.length
  | s, [] => by
    rw [pieces_nil]
    rfl
  | s, y :: r => by
    rw [pieces_cons, List.length_cons, pieces_len, List.length_cons]
/-- the spreads of the pieces -/
def spreads (s c : List Nat) : List Nat := (pieces s c).map spread
theorem spreads_len (s c : List Nat) : (spreads s c).length = c.length := by
  unfold spreads
  rw [List.length_map, pieces_len]
theorem spreads_more {s c : List Nat} {i x : Nat} (h : c[i]? = some x) : (spreads s c).take (i + 1) = (spreads s c).take i ++ [spread ((s.drop (c.take i).sum).take x)] := by
  unfold spreads
  rw [List.take_add_one, List.getElem?_map, pieces_at h]
  rfl
theorem sum_take {c : List Nat} {i x : Nat} (h : c[i]? = some x) : (c.take (i + 1)).sum = (c.take i).sum + x := by
  rw [List.take_add_one, h, List.sum_append]
  show _ + [x].sum = _
  rw [List.sum_singleton]
theorem sum_take_le (c : List Nat) (i : Nat) : (c.take i).sum ≤ c.sum := by
  have : c.sum = (c.take i).sum + (c.drop i).sum := by
    rw [← List.sum_append, List.take_append_drop]
  omega
/-! ### the first of the least, by its place -/
theorem first_at {f : List Nat → Nat} {l : List (List Nat)} {j : Nat} {c : List Nat} (h : l[j]? = some c) (g : ∀ x ∈ l, f c ≤ f x) (k : ∀ (i : Nat) (x : List Nat), i < j → l[i]? = some x → f x ≠ f c) : first f l = some c := by
  cases e : first f l with
  | none =>
    rw [first_none.mp e] at h
    cases h
  | some d =>
    obtain ⟨p, q, e1, h1, h2⟩ := first_split e
    have hc := List.mem_of_getElem? h
    have hd := first_mem e
    have l1 := first_least e c hc
    have l2 := g d hd
    have ed : l[p.length]? = some d := by
      rw [e1, List.getElem?_append_right (Nat.le_refl _), Nat.sub_self]
      rfl
    rcases Nat.lt_trichotomy j p.length with z | z | z
    · have hm : c ∈ p := by
        rw [e1, List.getElem?_append_left z] at h
        exact List.mem_of_getElem? h
      have := h1 c hm
      omega
    · rw [z, ed] at h
      rw [h]
    · exact absurd (by omega) (k _ d z ed)
end Lk
namespace Lk
open Ks438
/-- what best and even answer: by what is to be least -/
def cutM (f : List Nat → Nat) (n z : Nat) (l : List Nat) : List Int :=
  if (countsM n z && levelsM l) = true then
    match first f (cuts z n l.length) with
    | none => [-33]
    | some c => Int.ofNat (f c) :: Int.ofNat c.length :: toI c
  else [-22]
theorem given_yes {n z : Nat} {l : List Nat} (f : Unit → Ans) (c : (countsM n z && levelsM l) = true) : given z l (okN n) f = f () := by
  have c' : (okN n && decide (1 ≤ z) && decide (z ≤ CHILDREN) && decide (l.length ≤ CHILDREN) && l.all (fun v => decide (v ≤ 1000))) = true := by
    unfold countsM levelsM at c
    unfold okN CHILDREN
    simp only [Bool.and_eq_true, decide_eq_true_eq] at c ⊢
    exact ⟨⟨⟨c.1.1, c.1.2.1⟩, c.1.2.2⟩, c.2.1⟩ |> fun h => ⟨h, c.2.2⟩
  unfold given
  rw [if_pos c']
theorem given_no {n z : Nat} {l : List Nat} (f : Unit → Ans) (c : ¬ (countsM n z && levelsM l) = true) : given z l (okN n) f = no (-22) := by
  have c' : ¬ (okN n && decide (1 ≤ z) && decide (z ≤ CHILDREN) && decide (l.length ≤ CHILDREN) && l.all (fun v => decide (v ≤ 1000))) = true := by
    intro h
    apply c
    unfold okN CHILDREN at h
    unfold countsM levelsM
    simp only [Bool.and_eq_true, decide_eq_true_eq] at h ⊢
    exact ⟨⟨h.1.1.1.1, h.1.1.1.2, h.1.1.2⟩, h.1.2, h.2⟩
  unfold given
  rw [if_neg c']
theorem call_best (n s : Nat) (l : List Nat) : PyKs438.best (Int.ofNat n) (Int.ofNat s) (toI l) = Ks438Neutral.out (answer (.best n s l)) := by
  show Ks438Neutral.out (answer (.best n s (Ks438Neutral.nats (toI l)))) = _
  rw [nats_toI]
theorem call_even (n s : Nat) (l : List Nat) : PyKs438.even (Int.ofNat n) (Int.ofNat s) (toI l) = Ks438Neutral.out (answer (.even n s l)) := by
  show Ks438Neutral.out (answer (.even n s (Ks438Neutral.nats (toI l)))) = _
  rw [nats_toI]
theorem best_eq (n s : Nat) (l : List Nat) : PyKs438.best (Int.ofNat n) (Int.ofNat s) (toI l) = cutM (Ks438.sum (sorted l)) n s l := by
  rw [call_best]
  unfold cutM answer
  by_cases c : (countsM n s && levelsM l) = true
  · rw [if_pos c]
    dsimp only
    rw [given_yes _ c]
    unfold best
    cases first (Ks438.sum (sorted l)) (cuts s n l.length) <;> rfl
  · rw [if_neg c]
    dsimp only
    rw [given_no _ c]
    rfl
theorem even_eq (n s : Nat) (l : List Nat) : PyKs438.even (Int.ofNat n) (Int.ofNat s) (toI l) = cutM (greatest (sorted l)) n s l := by
  rw [call_even]
  unfold cutM answer
  by_cases c : (countsM n s && levelsM l) = true
  · rw [if_pos c]
    dsimp only
    rw [given_yes _ c]
    unfold even
    cases first (greatest (sorted l)) (cuts s n l.length) <;> rfl
  · rw [if_neg c]
    dsimp only
    rw [given_no _ c]
    rfl
theorem cutM_none {f : List Nat → Nat} {n z : Nat} {l : List Nat} (c : (countsM n z && levelsM l) = true) (h : n * z < l.length) : cutM f n z l = [-33] := by
  have hz : 1 ≤ z := by
    unfold countsM at c
    simp only [Bool.and_eq_true, decide_eq_true_eq] at c
    exact c.1.2.1
  unfold cutM
  rw [if_pos c, (cuts_empty hz).mpr h]
  rfl
theorem cutM_some {f : List Nat → Nat} {n z : Nat} {l c : List Nat} (h : (countsM n z && levelsM l) = true) (e : first f (cuts z n l.length) = some c) : cutM f n z l = Int.ofNat (f c) :: Int.ofNat c.length :: toI c := by
  unfold cutM
  rw [if_pos h, e]
theorem sum_spreads (s c : List Nat) : (spreads s c).sum = Ks438.sum s c := rfl
theorem max_spreads (s c : List Nat) : (spreads s c).foldl max 0 = greatest s c := rfl
end Lk
namespace Lk
open Ks438
/-! what the new small functions answer -/
def sizeM (z : Nat) : Bool := decide (1 ≤ z) && decide (z ≤ 9)
theorem countsM_eq (n z : Nat) : countsM n z = ((decide (1 ≤ n) && decide (n ≤ 9)) && sizeM z) := rfl
/-- what refusal_of_pieces answers -/
def refM (n z : Nat) (l : List Nat) : Int := if (countsM n z && levelsM l) = true then (if n * z < l.length then -33 else 0) else -22
theorem refM_neg {n z : Nat} {l : List Nat} {f : List Nat → Nat} (h : refM n z l < 0) : cutM f n z l = [refM n z l] := by
  unfold refM at h ⊢
  by_cases c : (countsM n z && levelsM l) = true
  · rw [if_pos c] at h ⊢
    by_cases d : n * z < l.length
    · rw [if_pos d]
      exact cutM_none c d
    · rw [if_neg d] at h
      omega
  · rw [if_neg c]
    unfold cutM
    rw [if_neg c]
theorem refM_not {n z : Nat} {l : List Nat} (h : ¬ refM n z l < 0) : (countsM n z && levelsM l) = true ∧ l.length ≤ n * z := by
  unfold refM at h
  by_cases c : (countsM n z && levelsM l) = true
  · rw [if_pos c] at h
    by_cases d : n * z < l.length
    · rw [if_pos d] at h
      omega
    · exact ⟨c, Nat.le_of_not_lt d⟩
  · rw [if_neg c] at h
    omega
theorem sorted_toI {l : List Nat} {r : List Int} (p : r.Perm (toI l)) (h : r.Pairwise (· ≤ ·)) : r = toI (Ks438.sorted l) := by
  have e : r = toI (r.map Int.toNat) := by
    unfold toI
    rw [List.map_map]
    refine (List.map_id r).symm.trans (List.map_congr_left fun x hx => ?_)
    obtain ⟨y, _, rfl⟩ := mem_toI (p.mem_iff.mp hx)
    rfl
  have p2 : (r.map Int.toNat).Perm l := by
    have t := p.map Int.toNat
    have n : (toI l).map Int.toNat = l := nats_toI l
    rw [n] at t
    exact t
  have h2 : (r.map Int.toNat).Pairwise (· ≤ ·) := by
    rw [List.pairwise_map]
    exact h.imp fun t => Int.toNat_le_toNat t
  rw [← sorted_uniq p2 h2]
  exact e
end Lk
namespace Lk
open PySem PySem.Spec PyProof.Rows L2
/-- whole numbers from 0 on, as values -/
abbrev vN (l : List Nat) : List V := (toI l).map V.int
theorem same_upd {H : Hp} {p : Addr} {o : HO} (h : H p = none) : Same H (upd H p o) := fun b x e => by
  rw [upd_ne (ne_of_none e h)]
  exact e
/-- a change at what was not tracked before -/
theorem same_over {H0 H : Hp} {p : Addr} {o : HO} (s : Same H0 H) (h : H0 p = none) : Same H0 (upd H p o) := fun b x e => by
  rw [upd_ne (ne_of_none e h)]
  exact s _ _ e
theorem vN_at {l : List Nat} {i : Nat} {x : V} (h : (vN l)[i]? = some x) : ∃ z, l[i]? = some z ∧ x = .int (Int.ofNat z) := by
  rw [List.getElem?_map, List.getElem?_map] at h
  cases e : l[i]? with
  | none =>
    rw [e] at h
    cases h
  | some z =>
    rw [e] at h
    exact ⟨z, rfl, (Option.some.inj h).symm⟩
theorem vN_len (l : List Nat) : (vN l).length = l.length := by
  rw [List.length_map, List.length_map]
/-- a comprehension over a list whose step leaves all that is tracked as it is -/
theorem lc_keep {K : PySem.W.Frag} {a : Addr} {xs ys : List V} {i : Nat} {te : TE} {σ : L2.St} {H1 : Hp} {D : Addr} {Qd : Hp → Prop} (hD : H1 D = none) (hS : SqL K H1 a xs) (hl : ys.length = xs.length) (hz : xs.length ≤ 1000)
    (step : ∀ (j : Nat) (x y : V) (H : Hp) (Q : VK), xs[j]? = some x → ys[j]? = some y → Same H1 H → (∀ H', Same H H' → Q y H') → te ((σ.set i none).set i (some x)) H Q)
    (done : ∀ H, Same H1 H → H D = some (.lst ys) → Qd H) :
    ∃ W : Nat → Nat → Hp → Prop, (∃ m, W 0 m (upd H1 D (.lst []))) ∧ ∀ i' m H, W i' m H →
      ((Itl K a).stop i' H ∧ Qd H) ∨ ((Itl K a).go i' H ∧ ∃ Nx : Hp → Prop, (∀ H', Nx H' → ∃ m', m' < m ∧ W (i' + 1) m' H') ∧ ∀ x H', (Itl K a).yld i' H x H' → gName i x (wipe σ [i]) H' fun σ2 H2 => wipe σ2 [i] = wipe σ [i] ∧ tYes σ2 H2 fun b H3 =>
        if b = true then te σ2 H3 fun y H4 => ∃ acc, H4 D = some (.lst acc) ∧ acc.length < sizeLine ∧ Nx (upd H4 D (.lst (acc ++ [y]))) else Nx H3) := by
  refine lc_list (xs := xs) (fun j H => Same H1 H ∧ H D = some (.lst (ys.take j))) ⟨same_upd hD, upd_same⟩ (fun j H _ h => h.1.seq hS) (fun j x H hx h => ?_) (fun H h => done H h.1 ?_)
  · have hj : j < xs.length := (List.getElem?_eq_some_iff.mp hx).1
    have hy : ys[j]? = some ys[j] := List.getElem?_eq_getElem (by omega)
    refine ⟨?_, ?_⟩
    · show ((σ.set i none).set i (some x)).set i none = σ.set i none
      rw [List.set_set, List.set_set]
    · show te ((σ.set i none).set i (some x)) H _
      refine step j x _ H _ hx hy h.1 fun H' sm => ⟨ys.take j, sm _ _ h.2, ?_, ?_, ?_⟩
      · rw [List.length_take]
        exact Nat.lt_of_le_of_lt (Nat.min_le_left _ _) (small1000 (by omega))
      · exact same_over (h.1.trans sm) hD
      · rw [upd_same, List.take_add_one, hy]
        rfl
  · rw [← hl, List.take_length] at h
    exact h.2
/-- rows: a list of lists of whole numbers, each at its own place -/
def Rows (H : Hp) (ps : List Addr) (ls : List (List Nat)) : Prop := ps.length = ls.length ∧ ∀ (k : Nat) (p : Addr) (l : List Nat), ps[k]? = some p → ls[k]? = some l → H p = some (.lst (vN l))
theorem Rows.same {H H' : Hp} {ps : List Addr} {ls : List (List Nat)} (h : Rows H ps ls) (s : Same H H') : Rows H' ps ls := ⟨h.1, fun k p l e f => s _ _ (h.2 k p l e f)⟩
end Lk
namespace Lk
open PySem PySem.Spec PyProof.Rows L2
/-! max(xs, default=d) over a list of whole numbers -/
section
variable {prog : Program} {w : World} {A : Around} {E : Value → Shared → Prop} {s : Shared} {l : Addr} {its : List Value} {ns : List Int} {Q : Value → Shared → Prop} {d : Value}
theorem maxd_raw (calm : A.handled = none) (isl : s.heap.IsList l its.toArray) (are : IntsAre its ns)
    (none_ : ns = [] → ∀ hp tk, (∀ b o, s.heap.get? b = some o → hp.get? b = some o) → Q d { s with heap := hp, toks := tk })
    (some_ : ∀ hp tk top tt, (∀ b o, s.heap.get? b = some o → hp.get? b = some o) → top ∈ ns → (∀ y ∈ ns, y ≤ top) → Q (.int top tt) { s with heap := hp, toks := tk }) :
    wpAny (model prog w) A (call (.builtin "max") [.ref l] [(Str.ofString "default", d)]) Q E s := by
  obtain ⟨zs, ez⟩ := are.allInts.items
  have same : numsOf (intItems zs).toList = ns := by
    refine (congrArg (fun a : Array Value => numsOf a.toList) ez.symm).trans ?_
    exact are.numsOf
  rw [nums_intItems] at same
  subst same
  rw [ez] at isl
  have len : (intItems zs).size = zs.size := by simp [intItems]
  refine call_max_walkD (PySem.W.iter_listW (A := A.in1) calm isl fun s₂ e2 walks start inside apart kept => ?_)
  refine ⟨_, _, _, _, _, _, _, s.heap, (fun i j => decide (numAt zs i > numAt zs j)), rfl, walks, start, inside, apart, kept, fun hz s3 mv => ?_, fun hp => ⟨fun i j vi vj s4 Q4 E4 _ => CmpOf.ints_gt (numAt zs) (fun _ _ => intItems_at) i j vi vj s4 Q4 E4, fun v s3 at_ mv => ?_⟩⟩
  · obtain ⟨hp, tk, rfl, keep⟩ := PySem.W.moved_old e2 rfl mv
    refine none_ (List.eq_nil_of_length_eq_zero ?_) hp tk keep
    rw [List.length_map, Array.length_toList, ← len]
    exact hz
  · obtain ⟨hp2, tk, rfl, keep⟩ := PySem.W.moved_old e2 rfl mv
    obtain ⟨tt, rfl⟩ := intItems_at at_
    have best := argBest_gt (numAt zs) (zs.size - 1)
    rw [len]
    refine some_ hp2 tk _ tt keep ?_ fun y hy => ?_
    · rw [numAt_eq]
      refine PySem.getD_mem ?_
      rw [List.length_map, Array.length_toList]
      have := best.1
      omega
    · obtain ⟨j, hj, rfl⟩ := mem_getD hy
      rw [List.length_map, Array.length_toList] at hj
      have t := best.2 j (by omega)
      rw [numAt_eq] at t
      exact t
end
section
variable {X : Cx}
def rMaxDf (K : PySem.W.Frag) : List V → List V → Hp → VK → Prop := fun vs zs H Q => ∃ (a : Addr) (ns : List Int) (z : Int), vs = [V.ref a] ∧ zs = [V.int z] ∧ SqL K H a (ns.map V.int) ∧ (ns = [] → Q (.int z) H) ∧ ∀ m, m ∈ ns → (∀ y, y ∈ ns → y ≤ m) → Q (.int m) H
theorem cr_maxDf (hc : X.calm = true) : CallRK X (.builtin "max") [Str.ofString "default"] (rMaxDf X.K) := by
  intro pins s σ H vs zs us ws Q I rel relK want
  obtain ⟨a, ns, z, rfl, rfl, isl, q0, q1⟩ := want
  obtain ⟨its, rv, at_, _⟩ := I.list isl
  have e0 := Vals.ref1 rel
  subst e0
  obtain ⟨dv, rfl, rd⟩ := vals1 relK
  obtain ⟨td, rfl⟩ : ∃ t, dv = Value.int z t := rd
  exact maxd_raw (I.ok.hd hc) at_.isList rv.ints (fun mt hp tk keep => ⟨.int _, H, I.kept keep, ⟨_, rfl⟩, q0 mt⟩) fun hp tk top tt keep h1 h2 => ⟨.int _, H, I.kept keep, ⟨_, rfl⟩, q1 top h1 h2⟩
end
end Lk
namespace Lk
open PySem PySem.Spec PyProof.Rows L2
open PySem.W (Codec)
def top (i : Nat) : Stmt := PySem.Challenge.pw_levelgroups_s03_even.main.body.getD i (.Pass ⟨0, 0, 0, 0⟩)
abbrev sEven : Stmt := top 5
abbrev sRef : Stmt := top 6
abbrev sCounts : Stmt := top 7
abbrev sSize : Stmt := top 8
abbrev sLevels : Stmt := top 9
abbrev sSpread : Stmt := top 10
abbrev sCuts : Stmt := top 11
abbrev sPieces : Stmt := top 12
abbrev sFirst : Stmt := top 13
end Lk
namespace Lk
open PySem PySem.Spec PyProof.Rows L2
open PySem.W (Codec)
theorem scZ : FnScope ["size"] ["size"] (defScope sSize) := ⟨rfl, rfl, rfl, by decide +kernel, rfl, by decide +kernel, by decide +kernel⟩
theorem scL : FnScope ["levels", "level"] ["levels"] (defScope sLevels) := ⟨rfl, rfl, rfl, by decide +kernel, rfl, by decide +kernel, by decide +kernel⟩
/-- what the top has written, and that Python's own names are still Python's own -/
structure Txt (mg : Str → Option Value) : Prop where
  chi : ∃ t, mg "MOST_CHILDREN" = some (.int 9 t)
  lev : ∃ t, mg "MOST_LEVEL" = some (.int 1000 t)
  siz : ∃ t, mg "MOST_SIZE" = some (.int 9 t)
  len : mg "len" = none
  all : mg "all" = none
  any : mg "any" = none
  sum : mg "sum" = none
  max : mg "max" = none
  min : mg "min" = none
  range : mg "range" = none
  zip : mg "zip" = none
  sorted : mg "sorted" = none
theorem ifT {c : Bool} {A B : Prop} (hc : c = true) (h : A) : if c = true then A else B := by
  rw [if_pos hc]
  exact h
theorem ifF {c : Bool} {A B : Prop} (hc : c = false) (h : B) : if c = true then A else B := by
  rw [hc, if_neg Bool.false_ne_true]
  exact h
def rLn (K : PySem.W.Frag) : List V → Hp → VK → Prop := fun xs H Q => ∃ p ys, xs = [.ref p] ∧ (SqL K H p ys ∨ SqT K H p ys) ∧ Q (.int ys.length) H
theorem rows_at {H : Hp} {ps : List Addr} {rows : List (List Nat)} (R : Rows H ps rows) {j : Nat} {x : V} (h : (ps.map V.ref)[j]? = some x) : ∃ p r, x = .ref p ∧ rows[j]? = some r ∧ H p = some (.lst (vN r)) := by
  rw [List.getElem?_map] at h
  cases e : ps[j]? with
  | none =>
    rw [e] at h
    cases h
  | some p =>
    rw [e] at h
    have hj : j < rows.length := by
      rw [← R.1]
      exact (List.getElem?_eq_some_iff.mp e).1
    have hr := List.getElem?_eq_getElem hj
    exact ⟨p, _, (Option.some.inj h).symm, hr, R.2 j p _ e hr⟩
section
variable {P : Program} {w : World} {K : PySem.W.Frag} {mg : Str → Option Value} {base : Heap}
/-! size_is_right -/
def spSize : Sp := fun us H Q _ => ∃ z : Nat, us = [.int (Int.ofNat z)] ∧ Q (.bl (sizeM z)) H
theorem ok_size {f : Addr} {fd : FuncData} {k : Nat} (F : Fun K "size_is_right" "size_is_right" sSize f fd) (T : Txt mg) : FnOk P w K mg base CX0 (k + 1) f fd ["size"] spSize := by
  obtain ⟨t2, g2⟩ := T.siz
  refine F.ok scZ (fun us H Q E h => ?_) (fun cdv A outer s H us Q E hr h => ?_)
  · obtain ⟨z, rfl, _⟩ := h
    rfl
  · obtain ⟨z, rfl, q⟩ := h
    refine ⟨_, pss_one (ps_ret (pe_chain op_le op_le pe_int (pv 0) (pe_glob (v := V.int 9) rfl g2 ⟨_, rfl⟩))), ?_⟩
    have e3 : decide ((1 : Int) ≤ Int.ofNat z) = decide (1 ≤ z) := decide_eq_decide.mpr Int.ofNat_le
    have e4 : decide (Int.ofNat z ≤ (9 : Int)) = decide (z ≤ 9) := decide_eq_decide.mpr Int.ofNat_le
    unfold sizeM at q
    rw [← e3, ← e4] at q
    refine ⟨_, rfl, _, _, rfl, rfl, _, rfl, ite2 (fun c3 => ?_) (fun c3 => ?_)⟩
    · rw [c3, Bool.true_and] at q
      exact ⟨_, _, rfl, rfl, q⟩
    · rw [Bool.eq_false_iff.mpr c3, Bool.false_and] at q
      exact q
/-! levels_are_right -/
def spLevels (K : PySem.W.Frag) : Sp := fun us H Q _ => ∃ (a : Addr) (l : List Nat), us = [.ref a] ∧ SqL K H a (vN l) ∧ l.length ≤ 15 ∧ ∀ H', Same H H' → Q (.bl (levelsM l)) H'
theorem all_bl (l : List Nat) (p : Nat → Bool) : (l.map p).all id = l.all p := by
  rw [List.all_map]
  rfl
theorem bl_at {l : List Nat} {p : Nat → Bool} {j : Nat} {z : Nat} {y : V} (h : l[j]? = some z) (g : ((l.map p).map V.bl)[j]? = some y) : y = .bl (p z) := by
  rw [List.getElem?_map, List.getElem?_map, h] at g
  exact (Option.some.inj g).symm
theorem ok_levels {f : Addr} {fd : FuncData} {k : Nat} (F : Fun K "levels_are_right" "levels_are_right" sLevels f fd) (T : Txt mg) : FnOk P w K mg base CX0 (k + 1) f fd ["levels"] (spLevels K) := by
  obtain ⟨t1, g1⟩ := T.chi
  obtain ⟨t2, g2⟩ := T.lev
  refine F.ok scL (fun us H Q E h => ?_) (fun cdv A outer s H us Q E hr h => ?_)
  · obtain ⟨a, l, rfl, _⟩ := h
    rfl
  · obtain ⟨a, l, rfl, hS, hlen, q⟩ := h
    refine ⟨_, pss_one (ps_ret (pe_and (pe_cmpR op_le (pe_callB call_len_seq (by rfl) T.len PySem.boot_len (pa_cons (pv 0) pa_nil)) (pe_glob (v := V.int 9) rfl g1 ⟨_, rfl⟩) (nomark _))
      (pe_one (pe_callB (cr_all rfl) (by rfl) T.all (by decide +kernel) (pa_cons (pe_lc (own := [("level", 1)]) (g := gName 1) (tt := tYes) rfl scL.nd (pi_list (pv 0)) (blkOk_by (N := ["levels", "level"]) (sc := defScope sLevels) (by decide +kernel))
        (fun _ _ _ _ _ => pg_name (i := 1) scL.nd rfl (Or.inl rfl)) (fun _ _ _ _ _ => pts_nil) (fun _ _ _ _ _ => pe_cmpR op_le (pv 1) (pe_glob (v := V.int 1000) rfl g2 ⟨_, rfl⟩) (nomark _))) pa_nil))))), ?_⟩
    have e1 : decide ((((vN l).length : Nat) : Int) ≤ (9 : Int)) = decide (l.length ≤ 9) := by
      rw [vN_len]
      exact decide_eq_decide.mpr Int.ofNat_le
    unfold levelsM at q
    rw [← e1] at q
    refine ⟨_, rfl, a, _, rfl, .inl hS, _, _, rfl, rfl, _, rfl, ite2 (fun c => ?_) (fun c => ?_)⟩
    · rw [c, Bool.true_and] at q
      refine ⟨_, rfl, a, rfl, ⟨_, hS⟩, fun D hD => lc_keep (xs := vN l) (ys := (l.map fun x => decide (x ≤ 1000)).map V.bl) hD hS ?_ ?_ (fun j x y H1 Q1 hx hy sm g => ?_) (fun H1 sm hL => ?_)⟩
      · rw [vN_len, List.length_map, List.length_map]
      · rw [vN_len]
        omega
      · obtain ⟨z, hz, rfl⟩ := vN_at hx
        refine ⟨_, rfl, _, _, rfl, rfl, ?_⟩
        rw [bl_at hz hy] at g
        have e : decide (Int.ofNat z ≤ (1000 : Int)) = decide (z ≤ 1000) := decide_eq_decide.mpr Int.ofNat_le
        show Q1 (.bl (decide (Int.ofNat z ≤ (1000 : Int)))) H1
        rw [e]
        exact g _ (Same.refl _)
      · refine ⟨D, _, rfl, SqL.of hL, ?_⟩
        rw [all_bl]
        exact q _ sm
    · rw [Bool.eq_false_iff.mpr c, Bool.false_and] at q
      exact q _ (Same.refl _)
end
end Lk
namespace Lk
open PySem PySem.Spec PyProof.Rows L2
open PySem.W (Codec)
theorem scC : FnScope ["n", "size"] ["n", "size"] (defScope sCounts) := ⟨rfl, rfl, rfl, by decide +kernel, rfl, by decide +kernel, by decide +kernel⟩
theorem scS : FnScope ["members"] ["members"] (defScope sSpread) := ⟨rfl, rfl, rfl, by decide +kernel, rfl, by decide +kernel, by decide +kernel⟩
section
variable {P : Program} {w : World} {K : PySem.W.Frag} {mg : Str → Option Value} {base : Heap}
/-! counts_are_right -/
def spCounts : Sp := fun us H Q _ => ∃ n s : Nat, us = [.int (Int.ofNat n), .int (Int.ofNat s)] ∧ Q (.bl (countsM n s)) H
theorem ok_counts {f fZ : Addr} {fd dZ : FuncData} {k : Nat} (F : Fun K "counts_are_right" "counts_are_right" sCounts f fd) (T : Txt mg) (TG : ∃ t, mg "MOST_GROUPS" = some (.int 9 t))
    (FZ : Fun K "size_is_right" "size_is_right" sSize fZ dZ) (bZ : Binds K dZ ["size"] []) (gZ : mg "size_is_right" = some (.ref fZ)) : FnOk P w K mg base CX0 (k + 2) f fd ["n", "size"] spCounts := by
  have GZ : FnOk P w K mg base CX0 (k + 1) fZ dZ ["size"] spSize := ok_size FZ T
  obtain ⟨t1, g1⟩ := TG
  refine F.ok scC (fun us H Q E h => ?_) (fun cdv A outer s H us Q E hr h => ?_)
  · obtain ⟨n, s, rfl, _⟩ := h
    rfl
  · obtain ⟨n, z, rfl, q⟩ := h
    refine ⟨_, pss_one (ps_ret (pe_and (pe_chain op_le op_le pe_int (pv 0) (pe_glob (v := V.int 9) rfl g1 ⟨_, rfl⟩)) (pe_one (pe_call GZ hr (by rfl) gZ FZ.kp bZ .nil pass0 (pa_cons (pv 1) pa_nil))))), ?_⟩
    have e1 : decide ((1 : Int) ≤ Int.ofNat n) = decide (1 ≤ n) := decide_eq_decide.mpr Int.ofNat_le
    have e2 : decide (Int.ofNat n ≤ (9 : Int)) = decide (n ≤ 9) := decide_eq_decide.mpr Int.ofNat_le
    rw [countsM_eq, ← e1, ← e2] at q
    refine ⟨_, rfl, _, _, rfl, rfl, _, rfl, ite2 (fun c1 => ?_) (fun c1 => ?_)⟩
    · rw [c1, Bool.true_and] at q
      refine ⟨_, _, rfl, rfl, _, rfl, ite2 (fun c2 => ?_) (fun c2 => ?_)⟩
      · rw [c2, Bool.true_and] at q
        exact ⟨_, rfl, z, rfl, q⟩
      · rw [Bool.eq_false_iff.mpr c2, Bool.false_and] at q
        exact q
    · rw [Bool.eq_false_iff.mpr c1, Bool.false_and, Bool.false_and] at q
      exact ⟨_, rfl, iteF q⟩
/-! spread -/
def spSpread (K : PySem.W.Frag) : Sp := fun us H Q _ => ∃ (a : Addr) (l : List Nat), us = [.ref a] ∧ SqL K H a (vN l) ∧ Q (.int (Int.ofNat (Ks438.spread l))) H
theorem ok_spread {f : Addr} {fd : FuncData} {k : Nat} (F : Fun K "spread" "spread" sSpread f fd) (T : Txt mg) : FnOk P w K mg base CX0 (k + 1) f fd ["members"] (spSpread K) := by
  refine F.ok scS (fun us H Q E h => ?_) (fun cdv A outer s H us Q E hr h => ?_)
  · obtain ⟨a, l, rfl, _⟩ := h
    rfl
  · obtain ⟨a, l, rfl, hS, q⟩ := h
    refine ⟨_, pss_cons (ps_if (pt_not (pt_truth (pv 0) (by intro _; rfl))) (pss_one (ps_ret pe_int)) pss_nil)
      (pss_one (ps_ret (pe_op op_sub (pe_callB (cr_max rfl) (by rfl) T.max (by decide +kernel) (pa_cons (pv 0) pa_nil)) (pe_callB (cr_min rfl) (by rfl) T.min (by decide +kernel) (pa_cons (pv 0) pa_nil))))), ?_⟩
    refine ⟨_, rfl, _, .inl ⟨_, hS, rfl⟩, ?_⟩
    cases l with
    | nil => exact q
    | cons x r =>
      refine ⟨_, rfl, a, _, rfl, hS, Nat.zero_lt_succ _, fun m hm ge => ⟨_, rfl, a, _, rfl, hS, Nat.zero_lt_succ _, fun m2 hm2 le2 => ?_⟩⟩
      rw [max_is hm ge, min_is hm2 le2]
      refine ⟨_, _, rfl, rfl, ?_⟩
      show Q (.int (Int.ofNat (List.foldl max x r) - Int.ofNat (List.foldl min x r))) H
      rw [spread_is]
      exact q
end
end Lk
namespace Lk
open PySem PySem.Spec PyProof.Rows L2
open PySem.W (Codec)
theorem Rows.add {H : Hp} {ps : List Addr} {ls : List (List Nat)} {p : Addr} {l : List Nat} (h : Rows H ps ls) (hp : H p = some (.lst (vN l))) : Rows H (ps ++ [p]) (ls ++ [l]) := by
  refine ⟨by rw [List.length_append, List.length_append, h.1]; rfl, fun k q r e f => ?_⟩
  rcases Nat.lt_or_ge k ps.length with g | g
  · rw [List.getElem?_append_left g] at e
    rw [List.getElem?_append_left (h.1 ▸ g)] at f
    exact h.2 k q r e f
  · rw [List.getElem?_append_right g] at e
    rw [List.getElem?_append_right (h.1 ▸ g), ← h.1] at f
    rcases Nat.eq_zero_or_pos (k - ps.length) with z | z
    · rw [z] at e f
      rw [← Option.some.inj e, ← Option.some.inj f]
      exact hp
    · rw [List.getElem?_eq_none (by rw [List.length_singleton]; omega)] at e
      cases e
theorem Rows.last {H : Hp} {ps : List Addr} {ls : List (List Nat)} {p : Addr} {l : List Nat} (h : Rows H (ps ++ [p]) (ls ++ [l])) : Rows H ps ls ∧ H p = some (.lst (vN l)) := by
  have e : ps.length = ls.length := by
    have := h.1
    rw [List.length_append, List.length_append, List.length_singleton, List.length_singleton] at this
    omega
  refine ⟨⟨e, fun k q r a b => h.2 k q r ?_ ?_⟩, h.2 ps.length p l ?_ ?_⟩
  · rw [List.getElem?_append_left (List.getElem?_eq_some_iff.mp a).1]
    exact a
  · rw [List.getElem?_append_left (List.getElem?_eq_some_iff.mp b).1]
    exact b
  · rw [List.getElem?_append_right (Nat.le_refl _), Nat.sub_self]
    rfl
  · rw [List.getElem?_append_right (by omega), e, Nat.sub_self]
    rfl
theorem Rows.upd {H : Hp} {ps : List Addr} {ls : List (List Nat)} {b : Addr} {o : HO} (h : Rows H ps ls) (hb : b ∉ ps) : Rows (upd H b o) ps ls := ⟨h.1, fun k q r e f => by
  rw [upd_ne fun z : q = b => hb (z ▸ List.mem_of_getElem? e)]
  exact h.2 k q r e f⟩
theorem Rows.nil {H : Hp} : Rows H [] [] := ⟨rfl, fun k q r e f => nomatch e⟩
theorem snoc_of {α : Type} {l : List α} (h : l ≠ []) : ∃ a x, l = a ++ [x] := ⟨l.dropLast, l.getLast h, (List.dropLast_concat_getLast h).symm⟩
/-- two lists of rows that are worked on: C holds those made, B those begun -/
structure Work (H0 H : Hp) (C B : Addr) (pm : List Addr) (made : List (List Nat)) (pb : List Addr) (begun : List (List Nat)) : Prop where
  same : Same H0 H
  newC : H0 C = none
  newB : H0 B = none
  ne : C ≠ B
  atC : H C = some (.lst (pm.map V.ref))
  atB : H B = some (.lst (pb.map V.ref))
  rowsC : Rows H pm made
  rowsB : Rows H pb begun
  cm : C ∉ pm
  cb : C ∉ pb
  bm : B ∉ pm
  bb : B ∉ pb
section
variable {H0 H : Hp} {C B : Addr} {pm pb : List Addr} {made begun : List (List Nat)}
theorem Work.grow {q : Addr} {o : HO} (w : Work H0 H C B pm made pb begun) (hq : H q = none) : Work H0 (upd H q o) C B pm made pb begun := by
  have s : Same H (upd H q o) := same_upd hq
  exact ⟨same_over w.same (w.same.free hq), w.newC, w.newB, w.ne, s _ _ w.atC, s _ _ w.atB, w.rowsC.same s, w.rowsB.same s, w.cm, w.cb, w.bm, w.bb⟩
theorem Work.setB {pb' : List Addr} {begun' : List (List Nat)} {xs : List V} (w : Work H0 H C B pm made pb begun) (e : xs = pb'.map V.ref) (r : Rows H pb' begun') (c : C ∉ pb') (b : B ∉ pb') : Work H0 (upd H B (.lst xs)) C B pm made pb' begun' := by
  refine ⟨same_over w.same w.newB, w.newC, w.newB, w.ne, ?_, ?_, w.rowsC.upd w.bm, r.upd b, w.cm, c, w.bm, b⟩
  · rw [upd_ne w.ne]
    exact w.atC
  · rw [upd_same, e]
theorem Work.setC {pm' : List Addr} {made' : List (List Nat)} {xs : List V} (w : Work H0 H C B pm made pb begun) (e : xs = pm'.map V.ref) (r : Rows H pm' made') (c : C ∉ pm') (b : B ∉ pm') : Work H0 (upd H C (.lst xs)) C B pm' made' pb begun := by
  refine ⟨same_over w.same w.newC, w.newC, w.newB, w.ne, ?_, ?_, r.upd c, w.rowsB.upd w.cb, c, w.cb, b, w.bb⟩
  · rw [upd_same, e]
  · rw [upd_ne w.ne.symm]
    exact w.atB
theorem not_mem_snoc {q x : Addr} {ps : List Addr} (h : q ∉ ps) (g : q ≠ x) : q ∉ ps ++ [x] := by
  intro z
  rcases List.mem_append.mp z with z | z
  · exact h z
  · exact g (List.mem_singleton.mp z)
end
end Lk
namespace Lk
open PySem PySem.Spec PyProof.Rows L2
open PySem.W (Codec)
theorem scU : FnScope ["n", "size", "children", "cuts", "begun", "lengths", "left", "length"] ["n", "size", "children"] (defScope sCuts) := ⟨rfl, rfl, rfl, by decide +kernel, rfl, by decide +kernel, by decide +kernel⟩
section
variable {P : Program} {w : World} {K : PySem.W.Frag} {mg : Str → Option Value} {base : Heap}
/-! cuts_in_order -/
def spCuts : Sp := fun us H Q _ => ∃ n z m : Nat, us = [.int (Int.ofNat n), .int (Int.ofNat z), .int (Int.ofNat m)] ∧ n ≤ 9 ∧ z ≤ 9 ∧ m ≤ 9 ∧
  ∀ (H' : Hp) (C : Addr) (ps : List Addr), Same H H' → H' C = some (.lst (ps.map V.ref)) → Rows H' ps (Ks438.cuts z n m) → ps.length ≤ 512 → Q (.ref C) H'
theorem rI0_of {f : Int → Int → V} {x y v : V} {i j : Int} {H : Hp} {Q : VK} (hx : x = .int i) (hy : y = .int j) (hv : f i j = v) (g : Q v H) : rI0 f x y H Q := ⟨i, j, hx, hy, by
  rw [hv]
  exact g⟩
theorem min_if (a b : Nat) : (if Int.ofNat b < Int.ofNat a then Int.ofNat b else Int.ofNat a) = Int.ofNat (min a b) := by
  by_cases g : b < a
  · have g' : Int.ofNat b < Int.ofNat a := Int.ofNat_lt.mpr g
    rw [if_pos g', Nat.min_eq_right (Nat.le_of_lt g)]
  · have g' : ¬ Int.ofNat b < Int.ofNat a := fun t => g (Int.ofNat_lt.mp t)
    rw [if_neg g', Nat.min_eq_left (Nat.le_of_not_lt g)]
theorem pow_small {m : Nat} (h : m ≤ 9) : 2 ^ m ≤ 512 := Nat.pow_le_pow_right (n := 2) (by decide) h
theorem ok_cuts {f : Addr} {fd : FuncData} {k : Nat} (F : Fun K "cuts_in_order" "cuts_in_order" sCuts f fd) (T : Txt mg) : FnOk P w K mg base CX0 (k + 1) f fd ["n", "size", "children"] spCuts := by
  refine F.ok scU (fun us H Q E h => ?_) (fun cdv A outer s H us Q E hr h => ?_)
  · obtain ⟨n, z, m, rfl, _⟩ := h
    rfl
  · obtain ⟨n, z, m, rfl, hn, hz, hm, q⟩ := h
    refine ⟨_, pss_cons (ps_set (i := 3) scU.nd rfl (Or.inl rfl) (pe_lst pa_nil)) (pss_cons (ps_set (i := 4) scU.nd rfl (Or.inl rfl) (pe_lst (pa_cons (pe_lst pa_nil) pa_nil)))
      (pss_cons (ps_while PassesOwn.never (pt_truth (pv 4) (by intro _; rfl))
        (pss_cons (ps_set (i := 5) scU.nd rfl (Or.inl rfl) (pe_bm0 PySem.F.plainAttrs_list PySem.F.slot_list_pop PySem.F.type_list_pop mt_pop (pv 4)))
        (pss_cons (ps_set (i := 6) scU.nd rfl (Or.inl rfl) (pe_op op_sub (pv 2) (pe_callB (cr_sum rfl) (by rfl) T.sum (by decide +kernel) (pa_cons (pv 5) pa_nil))))
        (pss_one (ps_if (pt_cmpR op_eq (pv 6) pe_int (nomark _))
          (pss_one (ps_expr (pe_bm PySem.F.plainAttrs_list PySem.F.slot_list_append PySem.F.type_list_append mt_append (pv 3) (pa_cons (pv 5) pa_nil))))
          (pss_one (ps_if (pt_cmpR op_lt (pe_callB call_len_seq (by rfl) T.len PySem.boot_len (pa_cons (pv 5) pa_nil)) (pv 0) (nomark _))
            (pss_one (ps_for PassesOwn.never rfl (pi_range3 (by rfl) T.range (pa_cons (pe_callB (call_min2 rfl) (by rfl) T.min (by decide +kernel) (pa_cons (pv 1) (pa_cons (pv 6) pa_nil))) (pa_cons pe_int (pa_cons (pe_un un_neg pe_int) pa_nil)))) (pg_name (i := 7) scU.nd rfl (Or.inl rfl))
              (pss_one (ps_expr (pe_bm PySem.F.plainAttrs_list PySem.F.slot_list_append PySem.F.type_list_append mt_append (pv 4) (pa_cons (pe_op op_cat (pv 5) (pe_lst (pa_cons (pv 7) pa_nil))) pa_nil))))))
            pss_nil)))))))
      (pss_one (ps_ret (pv 3))))), ?_⟩
    -- cuts = []; begun = [[]]
    refine ⟨Nat.zero_le _, fun C hC => ⟨Nat.zero_le _, fun e he => ⟨by show 1 ≤ sizeLine; decide, fun B hB => ?_⟩⟩⟩
    have sH : Same (upd H C (.lst [])) (upd (upd H C (.lst [])) e (.lst [])) := same_upd he
    have nCe : C ≠ e := ne_of_none upd_same he
    have nCB : C ≠ B := ne_of_none upd_same (sH.free hB)
    have neB : e ≠ B := ne_of_none upd_same hB
    have w0 : Work H (upd (upd (upd H C (.lst [])) e (.lst [])) B (.lst [.ref e])) C B [] [] [e] [[]] := by
      have s1 : Same H (upd (upd H C (.lst [])) e (.lst [])) := (same_upd hC).trans sH
      have s2 : Same (upd (upd H C (.lst [])) e (.lst [])) (upd (upd (upd H C (.lst [])) e (.lst [])) B (.lst [.ref e])) := same_upd hB
      refine ⟨s1.trans s2, hC, s1.free hB, nCB, s2 _ _ (sH _ _ upd_same), upd_same, Rows.nil, Rows.add Rows.nil (s2 _ _ upd_same), List.not_mem_nil, fun h => ?_, List.not_mem_nil, fun h => ?_⟩
      · exact nCe (List.mem_singleton.mp h)
      · exact neB (List.mem_singleton.mp h).symm
    -- while begun
    refine ⟨fun t σ H1 => ∃ pm made pb begun v5 v6 v7, σ = [some (.int (Int.ofNat n)), some (.int (Int.ofNat z)), some (.int (Int.ofNat m)), some (.ref C), some (.ref B), v5, v6, v7] ∧ Work H H1 C B pm made pb begun ∧ Stk z n m made begun ∧ t = weights m begun,
      ⟨_, [], [], [e], [[]], none, none, none, rfl, w0, stk_start z n m, rfl⟩, ?_⟩
    rintro t σ H1 ⟨pm, made, pb, begun, v5, v6, v7, rfl, wk, stk, rfl⟩
    refine ⟨_, rfl, _, .inl ⟨_, SqL.of wk.atB, rfl⟩, ?_⟩
    by_cases hb : pb = []
    · -- the end
      subst hb
      have eb : begun = [] := List.length_eq_zero_iff.mp wk.rowsB.1.symm
      subst eb
      refine ifF rfl ⟨_, rfl, q H1 C pm wk.same wk.atC ?_ ?_⟩
      · rw [← stk_end stk]
        exact wk.rowsC
      · have := stk.few
        have := pow_small hm
        rw [wk.rowsC.1]
        omega
    · obtain ⟨pb, p, rfl⟩ := snoc_of hb
      have hb2 : begun ≠ [] := fun z => by
        have := wk.rowsB.1
        rw [z, List.length_append, List.length_singleton] at this
        cases this
      obtain ⟨begun, l, rfl⟩ := snoc_of hb2
      have rl := wk.rowsB.last
      have hlm : l.sum ≤ m := stk.sum l (List.mem_append_right _ List.mem_cons_self)
      have hln : l.length ≤ n := stk.len l (List.mem_append_right _ List.mem_cons_self)
      have hpC : C ≠ p := fun z => wk.cb (z ▸ List.mem_append_right _ List.mem_cons_self)
      have hpB : B ≠ p := fun z => wk.bb (z ▸ List.mem_append_right _ List.mem_cons_self)
      have hC' : C ∉ pb := fun z => wk.cb (List.mem_append_left _ z)
      have hB' : B ∉ pb := fun z => wk.bb (List.mem_append_left _ z)
      refine ifT (by rw [List.map_append]; simp) ⟨fun σ' H' => ∃ m', m' < weights m (begun ++ [l]) ∧ _, fun _ _ h => h, ?_⟩
      -- lengths = begun.pop()
      have wk1 : Work H (upd H1 B (.lst ((pb ++ [p]).map V.ref).dropLast)) C B pm made pb begun := wk.setB (by rw [List.map_append]; simp) rl.1 hC' hB'
      have hp1 : upd H1 B (.lst ((pb ++ [p]).map V.ref).dropLast) p = some (.lst (vN l)) := by
        rw [upd_ne hpB.symm]
        exact rl.2
      refine ⟨_, rfl, .inl ⟨rfl, _, SqL.of wk.atB⟩, B, _, .ref p, rfl, rfl, wk.atB, ?_, ?_⟩
      · rw [List.length_map, List.getElem?_map]
        simp
      · -- left = children - sum(lengths)
        have eleft : Int.ofNat m - (toI l).sum = Int.ofNat (m - l.sum) := by
          rw [sum_toI]
          show ((m : Nat) : Int) - ((l.sum : Nat) : Int) = ((m - l.sum : Nat) : Int)
          omega
        refine ⟨_, rfl, _, rfl, p, _, rfl, SqL.of hp1, rI0_of rfl rfl (congrArg V.int eleft) ?_⟩
        -- if left == 0
        refine ⟨_, rfl, rfl, _, rfl, ite2 (fun c => ?_) (fun c => ?_)⟩
        · have e0 : m - l.sum = 0 := by
            have c2 : V.int (Int.ofNat (m - l.sum)) = V.int 0 := of_decide_eq_true c
            have c3 := V.int.inj c2
            exact Int.ofNat.inj c3
          -- cuts.append(lengths)
          refine ⟨_, rfl, .inl ⟨rfl, _, SqL.of wk1.atC⟩, _, rfl, C, _, _, rfl, rfl, wk1.atC, ?_, ?_⟩
          · have := stk.few
            have := pow_small hm
            rw [List.length_map, wk.rowsC.1]
            exact small1000 (by omega)
          · have stk' := stk_made stk e0
            refine ⟨weights m begun, ?_, pm ++ [p], made ++ [l], pb, begun, _, _, _, rfl, wk1.setC (by rw [List.map_append]; rfl) (wk1.rowsC.add hp1) (not_mem_snoc wk1.cm hpC) (not_mem_snoc wk1.bm hpB), stk', rfl⟩
            rw [weights_app, weights_one]
            have := weight_pos m l
            omega
        · have e0 : m - l.sum ≠ 0 := fun z => c (decide_eq_true (congrArg (fun t : Nat => V.int (Int.ofNat t)) z))
          -- elif len(lengths) < n
          refine ⟨_, rfl, p, _, rfl, .inl (SqL.of hp1), _, rfl, _, _, rfl, rfl, _, rfl, ite2 (fun c2 => ?_) (fun c2 => ?_)⟩
          · have l1 : l.length < n := by
              have c3 := of_decide_eq_true c2
              rw [vN_len] at c3
              exact Int.ofNat_lt.mp c3
            have stk' := stk_more stk e0 l1
            generalize hL : min z (m - l.sum) = L at stk'
            have hL2 : L ≤ m - l.sum := by omega
            have hL9 : L ≤ 9 := by omega
            have eL : (if Int.ofNat (m - l.sum) < Int.ofNat z then Int.ofNat (m - l.sum) else Int.ofNat z) = Int.ofNat L := by
              rw [min_if, hL]
            have rg : RgC (Int.ofNat L) 0 (-1) L := by
              have t := RgC.neg (i := Int.ofNat L) (j := 0) (by show (-(2 ^ 62) : Int) ≤ ((L : Nat) : Int); omega) (by show ((L : Nat) : Int) < 2 ^ 62; omega) (by decide) (by decide)
              have t2 : (Int.ofNat L - 0).toNat = L := by
                show (((L : Nat) : Int) - 0).toNat = L
                omega
              rw [t2] at t
              exact t
            have sz : (putIn l L L).length ≤ 512 ∧ begun.length + L ≤ 512 := by
              have h1 := stk'.few
              have h2 := pow_small hm
              have h3 := weights_len m (begun ++ putIn l L L)
              rw [List.length_append, putIn_len] at h3
              rw [putIn_len]
              omega
            -- for length in range(min(size, left), 0, -1)
            refine ⟨_, rfl, _, rfl, _, _, rfl, _, rfl, Int.ofNat L, 0, -1, L, ?_, rg, ?_⟩
            · show [V.int (if Int.ofNat (m - l.sum) < Int.ofNat z then Int.ofNat (m - l.sum) else Int.ofNat z), V.int 0, V.int (-1)] = _
              rw [eL]
            refine for_rangeC (lo := Int.ofNat L) (c := -1) (n := L) (fun j σ H2 => ∃ qs v7, σ = [some (.int (Int.ofNat n)), some (.int (Int.ofNat z)), some (.int (Int.ofNat m)), some (.ref C), some (.ref B), some (.ref p), some (.int (Int.ofNat (m - l.sum))), v7] ∧ Work H H2 C B pm made (pb ++ qs) (begun ++ putIn l L j) ∧ H2 p = some (.lst (vN l)))
              ⟨[], v7, rfl, ?_, hp1⟩ ?_ ?_
            · rw [List.append_nil, show putIn l L 0 = [] from rfl, List.append_nil]
              exact wk1
            · rintro j σ H2 hj ⟨qs, v7, rfl, wk2, hp2⟩
              have ev : Int.ofNat L + (j : Nat) * (-1 : Int) = Int.ofNat (L - j) := by
                show ((L : Nat) : Int) + (j : Nat) * (-1 : Int) = ((L - j : Nat) : Int)
                omega
              rw [ev]
              -- begun.append(lengths + [length])
              refine ⟨_, rfl, .inl ⟨rfl, _, SqL.of wk2.atB⟩, _, rfl, _, rfl, by show 1 ≤ sizeLine; decide, fun o ho => ?_⟩
              have wk3 := wk2.grow (o := .lst [.int (Int.ofNat (L - j))]) ho
              have hp3 : upd H2 o (.lst [.int (Int.ofNat (L - j))]) p = some (.lst (vN l)) := same_upd ho _ _ hp2
              refine ⟨p, o, _, _, rfl, rfl, hp3, upd_same, ?_, fun r hr2 => ?_⟩
              · rw [vN_len]
                exact Nat.le_of_lt (small1000 (by show l.length + 1 ≤ 1000; omega))
              · have wk4 := wk3.grow (o := .lst (vN l ++ [.int (Int.ofNat (L - j))])) hr2
                have hp4 := same_upd (o := .lst (vN l ++ [.int (Int.ofNat (L - j))])) hr2 _ _ hp3
                have er : vN l ++ [.int (Int.ofNat (L - j))] = vN (l ++ [L - j]) := by
                  show _ = ((l ++ [L - j]).map Int.ofNat).map V.int
                  rw [List.map_append, List.map_append]
                  rfl
                have nC : C ≠ r := ne_of_none wk3.atC hr2
                have nB : B ≠ r := ne_of_none wk3.atB hr2
                have nBp : p ≠ B := hpB.symm
                refine ⟨B, _, _, rfl, rfl, wk4.atB, ?_, qs ++ [r], _, rfl, ?_, ?_⟩
                · rw [List.length_map, wk4.rowsB.1, List.length_append, putIn_len]
                  exact small1000 (by omega)
                · rw [putIn_succ, ← List.append_assoc, ← List.append_assoc]
                  refine wk4.setB (pb' := pb ++ qs ++ [r]) (by rw [List.map_append (l₁ := pb ++ qs)]; rfl) (wk4.rowsB.add ?_) (not_mem_snoc wk4.cb nC) (not_mem_snoc wk4.bb nB)
                  rw [upd_same, er]
                · rw [upd_ne nBp]
                  exact hp4
            · rintro σ H2 ⟨qs, v7, rfl, wk2, hp2⟩
              refine ⟨weights m (begun ++ putIn l L L), ?_, pm, made, pb ++ qs, _, _, _, _, rfl, wk2, stk', rfl⟩
              rw [weights_app, weights_app, weights_one]
              have := putIn_less (p := l) hL2
              omega
          · have l1 : n ≤ l.length := by
              have c3 : ¬ ((((vN l).length : Nat) : Int) < Int.ofNat n) := fun t => c2 (decide_eq_true t)
              rw [vN_len] at c3
              exact Nat.le_of_not_lt fun t => c3 (Int.ofNat_lt.mpr t)
            have stk' := stk_full stk e0 l1
            refine ⟨weights m begun, ?_, pm, made, pb, begun, _, _, _, rfl, wk1, stk', rfl⟩
            rw [weights_app, weights_one]
            have := weight_pos m l
            omega
end
end Lk
namespace Lk
open PySem PySem.Spec PyProof.Rows L2
open PySem.W (Codec)
theorem scP : FnScope ["row", "lengths", "spreads", "start", "length", "end"] ["row", "lengths"] (defScope sPieces) := ⟨rfl, rfl, rfl, by decide +kernel, rfl, by decide +kernel, by decide +kernel⟩
theorem scF : FnScope ["spreads", "cuts", "least", "told"] ["spreads", "cuts"] (defScope sFirst) := ⟨rfl, rfl, rfl, by decide +kernel, rfl, by decide +kernel, by decide +kernel⟩
theorem scR : FnScope ["n", "size", "levels"] ["n", "size", "levels"] (defScope sRef) := ⟨rfl, rfl, rfl, by decide +kernel, rfl, by decide +kernel, by decide +kernel⟩
theorem vN_app (l : List Nat) (x : Nat) : vN l ++ [.int (Int.ofNat x)] = vN (l ++ [x]) := by
  show _ = ((l ++ [x]).map Int.ofNat).map V.int
  rw [List.map_append, List.map_append]
  rfl
theorem cut_vN (s : List Nat) (u x : Nat) (h : u + x ≤ s.length) : cutV (vN s) (some (Int.ofNat u)) (some (Int.ofNat (u + x))) = vN ((s.drop u).take x) := by
  unfold cutV
  have e1 := HT.sIx_nat (vN s).length 0 u
  have e2 := HT.sIx_nat (vN s).length (vN s).length (u + x)
  have e1' : HT.sIx (vN s).length 0 (some (Int.ofNat u)) = u := by
    refine e1.trans ?_
    rw [vN_len]
    omega
  have e2' : HT.sIx (vN s).length (vN s).length (some (Int.ofNat (u + x))) = u + x := by
    refine e2.trans ?_
    rw [vN_len]
    omega
  rw [e1', e2', Nat.add_sub_cancel_left]
  unfold vN toI
  rw [← List.map_drop, ← List.map_drop, ← List.map_take, ← List.map_take]
theorem first_place {f : List Nat → Nat} {l : List (List Nat)} {c : List Nat} (h : Ks438.first f l = some c) : ∃ j, l[j]? = some c ∧ ∀ (i : Nat) (x : List Nat), i < j → l[i]? = some x → f c < f x := by
  obtain ⟨p, q, e, h1, h2⟩ := first_split h
  refine ⟨p.length, ?_, fun i x hi hx => h1 x ?_⟩
  · rw [e, List.getElem?_append_right (Nat.le_refl _), Nat.sub_self]
    rfl
  · rw [e, List.getElem?_append_left hi] at hx
    exact List.mem_of_getElem? hx
/-- the least of what a list of cuts has -/
theorem least_is {f : List Nat → Nat} {l : List (List Nat)} {c : List Nat} {m : Int} (h : Ks438.first f l = some c) (hm : m ∈ toI (l.map f)) (le : ∀ y ∈ toI (l.map f), m ≤ y) : m = Int.ofNat (f c) := by
  obtain ⟨x, hx, rfl⟩ := mem_toI hm
  obtain ⟨d, hd, rfl⟩ := List.mem_map.mp hx
  have a1 := first_least h d hd
  have a2 : f d ≤ f c := Int.ofNat_le.mp (le _ (toI_mem (List.mem_map.mpr ⟨c, first_mem h, rfl⟩)))
  rw [Nat.le_antisymm a2 a1]
section
variable {P : Program} {w : World} {K : PySem.W.Frag} {mg : Str → Option Value} {base : Heap}
/-! piece_spreads -/
def spPieces (K : PySem.W.Frag) : Sp := fun us H Q _ => ∃ (a b : Addr) (s c : List Nat), us = [.ref a, .ref b] ∧ SqL K H a (vN s) ∧ SqL K H b (vN c) ∧ c.length ≤ 9 ∧ c.sum ≤ s.length ∧
  ∀ (H' : Hp) (D : Addr), Same H H' → H' D = some (.lst (vN (spreads s c))) → Q (.ref D) H'
theorem ok_pieces {f fS : Addr} {fd dS : FuncData} {k : Nat} (F : Fun K "piece_spreads" "piece_spreads" sPieces f fd) (T : Txt mg)
    (FS : Fun K "spread" "spread" sSpread fS dS) (bS : Binds K dS ["members"] []) (gS : mg "spread" = some (.ref fS)) : FnOk P w K mg base CX0 (k + 2) f fd ["row", "lengths"] (spPieces K) := by
  have GS : FnOk P w K mg base CX0 (k + 1) fS dS ["members"] (spSpread K) := ok_spread FS T
  refine F.ok scP (fun us H Q E h => ?_) (fun cdv A outer s H us Q E hr h => ?_)
  · obtain ⟨a, b, s, c, rfl, _⟩ := h
    rfl
  · obtain ⟨a, b, s, c, rfl, hA, hB, hc, hs, q⟩ := h
    refine ⟨_, pss_cons (ps_set (i := 2) scP.nd rfl (Or.inl rfl) (pe_lst pa_nil)) (pss_cons (ps_set (i := 3) scP.nd rfl (Or.inl rfl) pe_int)
      (pss_cons (ps_for PassesOwn.never rfl (pi_list (pv 1)) (pg_name (i := 4) scP.nd rfl (Or.inl rfl))
        (pss_cons (ps_set (i := 5) scP.nd rfl (Or.inl rfl) (pe_op op_add (pv 3) (pv 4)))
        (pss_cons (ps_expr (pe_bm PySem.F.plainAttrs_list PySem.F.slot_list_append PySem.F.type_list_append mt_append (pv 2) (pa_cons (pe_call GS hr (by rfl) gS FS.kp bS .nil pass0 (pa_cons (pe_slice sl_list (pv 0) (po_some (pv 3)) (po_some (pv 5))) pa_nil)) pa_nil)))
        (pss_one (ps_set (i := 3) scP.nd rfl (Or.inl rfl) (pv 5))))))
      (pss_one (ps_ret (pv 2))))), ?_⟩
    refine ⟨Nat.zero_le _, fun D hD => ⟨_, rfl, b, rfl, ⟨_, (same_upd hD).seq hB⟩, ?_⟩⟩
    refine for_list (xs := vN c) (fun i σ H1 => ∃ v4 v5, σ = [some (.ref a), some (.ref b), some (.ref D), some (.int (Int.ofNat (c.take i).sum)), v4, v5] ∧ Same H H1 ∧ H1 D = some (.lst (vN ((spreads s c).take i))))
      ⟨none, none, rfl, same_upd hD, upd_same⟩ (fun i σ H1 _ ⟨_, _, _, sm, _⟩ => sm.seq hB) ?_ ?_
    · rintro i x σ H1 hx ⟨v4, v5, rfl, sm, hL⟩
      obtain ⟨x, hx', rfl⟩ := vN_at hx
      have es := sum_take hx'
      have hle := sum_take_le c (i + 1)
      have hi : i < c.length := (List.getElem?_eq_some_iff.mp hx').1
      -- end = start + length
      refine ⟨_, rfl, _, rfl, rI0_of (v := .int (Int.ofNat (c.take (i + 1)).sum)) rfl rfl (by rw [es]; rfl) ?_⟩
      -- spreads.append(spread(row[start:end]))
      refine ⟨_, rfl, .inl ⟨rfl, _, SqL.of hL⟩, _, rfl, _, rfl, _, rfl, _, rfl, _, rfl, a, _, rfl, sm.seq hA, fun p hp => ?_⟩
      have sm2 : Same H1 (upd H1 p (.lst (cutV (vN s) (some (Int.ofNat (c.take i).sum)) (some (Int.ofNat (c.take (i + 1)).sum))))) := same_upd hp
      have ecut : cutV (vN s) (some (Int.ofNat (c.take i).sum)) (some (Int.ofNat (c.take (i + 1)).sum)) = vN ((s.drop (c.take i).sum).take x) := by
        rw [es]
        exact cut_vN s _ x (by omega)
      refine ⟨p, (s.drop (c.take i).sum).take x, rfl, SqL.of ?_, ?_⟩
      · rw [upd_same, ecut]
      · refine ⟨D, _, _, rfl, rfl, sm2 _ _ hL, ?_, ?_⟩
        · rw [vN_len]
          refine small1000 (Nat.le_trans (List.length_take_le _ _) ?_)
          omega
        · refine ⟨_, rfl, _, _, rfl, same_over (sm.trans sm2) hD, ?_⟩
          rw [upd_same, spreads_more hx', ← vN_app]
    · rintro σ H1 ⟨v4, v5, rfl, sm, hL⟩
      refine ⟨_, rfl, q H1 D sm ?_⟩
      rw [vN_len, ← spreads_len s c, List.take_length] at hL
      exact hL
/-! refusal_of_pieces -/
def spRef (K : PySem.W.Frag) : Sp := fun us H Q _ => ∃ (n z : Nat) (a : Addr) (l : List Nat), us = [.int (Int.ofNat n), .int (Int.ofNat z), .ref a] ∧ SqL K H a (vN l) ∧ l.length ≤ 15 ∧
  ∀ H', Same H H' → Q (.int (refM n z l)) H'
theorem ok_ref {f fC fZ fL : Addr} {fd dC dZ dL : FuncData} {k : Nat} (F : Fun K "refusal_of_pieces" "refusal_of_pieces" sRef f fd) (T : Txt mg) (TG : ∃ t, mg "MOST_GROUPS" = some (.int 9 t))
    (FC : Fun K "counts_are_right" "counts_are_right" sCounts fC dC) (bC : Binds K dC ["n", "size"] []) (gC : mg "counts_are_right" = some (.ref fC))
    (FZ : Fun K "size_is_right" "size_is_right" sSize fZ dZ) (bZ : Binds K dZ ["size"] []) (gZ : mg "size_is_right" = some (.ref fZ))
    (FL : Fun K "levels_are_right" "levels_are_right" sLevels fL dL) (bL : Binds K dL ["levels"] []) (gL : mg "levels_are_right" = some (.ref fL)) :
    FnOk P w K mg base CX0 (k + 3) f fd ["n", "size", "levels"] (spRef K) := by
  have GC : FnOk P w K mg base CX0 (k + 2) fC dC ["n", "size"] spCounts := ok_counts FC T TG FZ bZ gZ
  have GL : FnOk P w K mg base CX0 (k + 2) fL dL ["levels"] (spLevels K) := ok_levels FL T
  refine F.ok scR (fun us H Q E h => ?_) (fun cdv A outer s H us Q E hr h => ?_)
  · obtain ⟨n, z, a, l, rfl, _⟩ := h
    rfl
  · obtain ⟨n, z, a, l, rfl, hA, hl, q⟩ := h
    refine ⟨_, pss_cons (ps_if (pt_not (PW.pt (pw_and (pt_val (pe_call GC hr (by rfl) gC FC.kp bC .nil pass0 (pa_cons (pv 0) (pa_cons (pv 1) pa_nil)))) (pw_and1 (pt_val (pe_call GL hr (by rfl) gL FL.kp bL .nil pass0 (pa_cons (pv 2) pa_nil))))))) (pss_one (ps_ret (pe_un un_neg pe_int))) pss_nil)
      (pss_cons (ps_if (pt_cmpR op_gt (pe_callB call_len_seq (by rfl) T.len PySem.boot_len (pa_cons (pv 2) pa_nil)) (pe_op op_mul (pv 0) (pv 1)) (nomark _)) (pss_one (ps_ret (pe_un un_neg pe_int))) pss_nil)
      (pss_one (ps_ret pe_int))), ?_⟩
    -- if not (counts_are_right(n, size) and levels_are_right(levels))
    refine ⟨_, rfl, _, rfl, n, z, rfl, _, rfl, ?_⟩
    by_cases c1 : countsM n z = true
    · refine ifT c1 ⟨_, rfl, a, l, rfl, hA, hl, fun H1 s1 => ⟨_, rfl, ?_⟩⟩
      by_cases c2 : levelsM l = true
      · refine ifF (by rw [c2]; rfl) ?_
        have c12 : (countsM n z && levelsM l) = true := by rw [c1, c2]; rfl
        have hnz : n ≤ 9 ∧ z ≤ 9 := by
          unfold countsM at c1
          simp only [Bool.and_eq_true, decide_eq_true_eq] at c1
          exact ⟨c1.1.2, c1.2.2⟩
        -- if len(levels) > n * size
        refine ⟨_, rfl, a, _, rfl, .inl (s1.seq hA), _, rfl, _, rfl, _, _, rfl, rfl, .inl ⟨by show (-(2 ^ 64) : Int) < ((n : Nat) : Int); omega, by show ((n : Nat) : Int) < 2 ^ 64; omega⟩, _, _, rfl, rfl, _, rfl, ite2 (fun c3 => ?_) (fun c3 => ?_)⟩
        · have d : n * z < l.length := by
            have c4 := of_decide_eq_true c3
            rw [vN_len] at c4
            exact Int.ofNat_lt.mp c4
          have g := q H1 s1
          unfold refM at g
          rw [if_pos c12, if_pos d] at g
          exact ⟨_, rfl, g⟩
        · have d : ¬ n * z < l.length := fun t => c3 (decide_eq_true (by
            rw [vN_len]
            exact Int.ofNat_lt.mpr t))
          have g := q H1 s1
          unfold refM at g
          rw [if_pos c12, if_neg d] at g
          exact g
      · have g := q H1 s1
        unfold refM at g
        rw [Bool.eq_false_iff.mpr c2, Bool.and_false, if_neg Bool.false_ne_true] at g
        exact ifT (by rw [Bool.eq_false_iff.mpr c2]; rfl) ⟨_, rfl, g⟩
    · have g := q H (Same.refl _)
      unfold refM at g
      rw [Bool.eq_false_iff.mpr c1, Bool.false_and, if_neg Bool.false_ne_true] at g
      exact ifF (Bool.eq_false_iff.mpr c1) (ifT rfl ⟨_, rfl, g⟩)
/-! first_of_least -/
def spFirst : Sp := fun us H Q _ => ∃ (S D : Addr) (g : List Nat → Nat) (ps : List Addr) (cs : List (List Nat)) (c : List Nat), us = [.ref S, .ref D] ∧ H S = some (.lst (vN (cs.map g))) ∧ H D = some (.lst (ps.map V.ref)) ∧ Rows H ps cs ∧ Ks438.first g cs = some c ∧ c.length ≤ 9 ∧
  ∀ (H' : Hp) (p : Addr), H' p = some (.lst ((Int.ofNat (g c) :: Int.ofNat c.length :: toI c).map V.int)) → Q (.ref p) H'
theorem ok_first {f : Addr} {fd : FuncData} {k : Nat} (F : Fun K "first_of_least" "first_of_least" sFirst f fd) (T : Txt mg) : FnOk P w K mg base CX0 (k + 1) f fd ["spreads", "cuts"] spFirst := by
  refine F.ok scF (fun us H Q E h => ?_) (fun cdv A outer s H us Q E hr h => ?_)
  · obtain ⟨S, D, g, ps, cs, c, rfl, _⟩ := h
    rfl
  · obtain ⟨S, D, g, ps, cs, c, rfl, hS, hD, rows, hc, h9, q⟩ := h
    refine ⟨_, pss_cons (ps_set (i := 2) scF.nd rfl (Or.inl rfl) (pe_callB (cr_min rfl) (by rfl) T.min (by decide +kernel) (pa_cons (pv 0) pa_nil)))
      (pss_cons (ps_set (i := 3) scF.nd rfl (Or.inl rfl) (pe_ix ix_list (pv 1) (pe_bm PySem.F.plainAttrs_list PySem.F.slot_list_index PySem.F.type_list_index mt_index (pv 0) (pa_cons (pv 2) pa_nil)) (fun _ _ => rfl)))
      (pss_one (ps_ret (pe_op op_cat (pe_lst (pa_cons (pv 2) (pa_cons (pe_callB call_len_seq (by rfl) T.len PySem.boot_len (pa_cons (pv 3) pa_nil)) pa_nil))) (pv 3))))), ?_⟩
    have eps : ps.length = cs.length := rows.1
    obtain ⟨j, hj, ahead⟩ := first_place hc
    -- least = min(spreads)
    refine ⟨_, rfl, S, _, rfl, SqL.of hS, ?_, fun t ht le => ?_⟩
    · rw [List.length_map, List.length_map]
      exact Nat.lt_of_le_of_lt (Nat.zero_le _) (List.getElem?_eq_some_iff.mp hj).1
    have et := least_is hc ht le
    subst et
    have rj : ∃ p, ps[j]? = some p ∧ H p = some (.lst (vN c)) := by
      have lt : j < ps.length := by
        rw [eps]
        exact (List.getElem?_eq_some_iff.mp hj).1
      exact ⟨_, List.getElem?_eq_getElem lt, rows.2 j _ c (List.getElem?_eq_getElem lt) hj⟩
    obtain ⟨p, hpj, hp⟩ := rj
    -- told = cuts[spreads.index(least)]
    refine ⟨_, rfl, _, rfl, .inl ⟨rfl, _, SqL.of hS⟩, _, rfl, S, _, _, j, .int (Int.ofNat (g c)), rfl, rfl, SqL.of hS, rfl, ?_, ?_, ?_, ?_, ?_⟩
    · refine List.all_eq_true.mpr fun y hy => ?_
      obtain ⟨u, _, rfl⟩ := List.mem_map.mp hy
      rfl
    · rw [List.getElem?_map, List.getElem?_map, List.getElem?_map, hj]
      rfl
    · exact beq_self_eq_true _
    · intro i y hi hy
      obtain ⟨u, hu, rfl⟩ := vN_at hy
      rw [List.getElem?_map] at hu
      cases ec : cs[i]? with
      | none =>
        rw [ec] at hu
        cases hu
      | some x =>
        rw [ec] at hu
        have eu := Option.some.inj hu
        subst eu
        have lt := ahead i x hi ec
        refine beq_eq_false_iff_ne.mpr fun t => ?_
        have := Int.ofNat.inj t
        omega
    · refine ⟨D, _, _, _, rfl, rfl, SqL.of hD, atI_nat (j := j) (v := .ref p) ?_, ?_⟩
      · rw [List.getElem?_map, hpj]
        rfl
      -- return [least, len(told)] + told
      refine ⟨_, rfl, _, rfl, p, _, rfl, .inl (SqL.of hp), by show 2 ≤ sizeLine; decide, fun o ho => ⟨_, rfl, o, p, _, _, rfl, rfl, upd_same, same_upd ho _ _ hp, ?_, fun r hr2 => ?_⟩⟩
      · rw [vN_len]
        exact Nat.le_of_lt (small1000 (by show 2 + c.length ≤ 1000; omega))
      · refine q _ r ?_
        rw [upd_same, vN_len]
        rfl
end
end Lk
namespace Lk
open PySem PySem.Spec PyProof.Rows L2
open PySem.W (Codec)
theorem scT : FnScope ["n", "size", "levels", "refusal", "row", "cuts", "widest", "cut"] ["n", "size", "levels"] (defScope sEven) := ⟨rfl, rfl, rfl, by decide +kernel, rfl, by decide +kernel, by decide +kernel⟩
section
variable {P : Program} {w : World} {K : PySem.W.Frag} {mg : Str → Option Value} {base : Heap}
/-! even -/
def spEven (K : PySem.W.Frag) : Sp := fun us H Q _ => ∃ (n z : Nat) (a : Addr) (l : List Nat), us = [.int (Int.ofNat n), .int (Int.ofNat z), .ref a] ∧ SqL K H a (vN l) ∧ l.length ≤ 15 ∧
  ∀ (H' : Hp) (p : Addr), H' p = some (.lst ((cutM (Ks438.greatest (Ks438.sorted l)) n z l).map V.int)) → Q (.ref p) H'
theorem ok_even {f fR fC fZ fL fU fP fS fF : Addr} {fd dR dC dZ dL dU dP dS dF : FuncData} {k : Nat} (F : Fun K "even" "even" sEven f fd) (T : Txt mg) (TG : ∃ t, mg "MOST_GROUPS" = some (.int 9 t))
    (FR : Fun K "refusal_of_pieces" "refusal_of_pieces" sRef fR dR) (bR : Binds K dR ["n", "size", "levels"] []) (gR : mg "refusal_of_pieces" = some (.ref fR))
    (FC : Fun K "counts_are_right" "counts_are_right" sCounts fC dC) (bC : Binds K dC ["n", "size"] []) (gC : mg "counts_are_right" = some (.ref fC))
    (FZ : Fun K "size_is_right" "size_is_right" sSize fZ dZ) (bZ : Binds K dZ ["size"] []) (gZ : mg "size_is_right" = some (.ref fZ))
    (FL : Fun K "levels_are_right" "levels_are_right" sLevels fL dL) (bL : Binds K dL ["levels"] []) (gL : mg "levels_are_right" = some (.ref fL))
    (FU : Fun K "cuts_in_order" "cuts_in_order" sCuts fU dU) (bU : Binds K dU ["n", "size", "children"] []) (gU : mg "cuts_in_order" = some (.ref fU))
    (FP : Fun K "piece_spreads" "piece_spreads" sPieces fP dP) (bP : Binds K dP ["row", "lengths"] []) (gP : mg "piece_spreads" = some (.ref fP))
    (FS : Fun K "spread" "spread" sSpread fS dS) (bS : Binds K dS ["members"] []) (gS : mg "spread" = some (.ref fS))
    (FF : Fun K "first_of_least" "first_of_least" sFirst fF dF) (bF : Binds K dF ["spreads", "cuts"] []) (gF : mg "first_of_least" = some (.ref fF)) :
    FnOk P w K mg base CX0 (k + 4) f fd ["n", "size", "levels"] (spEven K) := by
  have GR : FnOk P w K mg base CX0 (k + 3) fR dR ["n", "size", "levels"] (spRef K) := ok_ref FR T TG FC bC gC FZ bZ gZ FL bL gL
  have GU : FnOk P w K mg base CX0 (k + 3) fU dU ["n", "size", "children"] spCuts := ok_cuts FU T
  have GP : FnOk P w K mg base CX0 (k + 3) fP dP ["row", "lengths"] (spPieces K) := ok_pieces FP T FS bS gS
  have GF : FnOk P w K mg base CX0 (k + 3) fF dF ["spreads", "cuts"] spFirst := ok_first FF T
  refine F.ok scT (fun us H Q E h => ?_) (fun cdv A outer s H us Q E hr h => ?_)
  · obtain ⟨n, z, a, l, rfl, _⟩ := h
    rfl
  · obtain ⟨n, z, a, l, rfl, hA, hl, q⟩ := h
    refine ⟨_, pss_cons (ps_set (i := 3) scT.nd rfl (Or.inl rfl) (pe_call GR hr (by rfl) gR FR.kp bR .nil pass0 (pa_cons (pv 0) (pa_cons (pv 1) (pa_cons (pv 2) pa_nil)))))
      (pss_cons (ps_if (pt_cmpR op_lt (pv 3) pe_int (nomark _)) (pss_one (ps_ret (pe_lst (pa_cons (pv 3) pa_nil)))) pss_nil)
      (pss_cons (ps_set (i := 4) scT.nd rfl (Or.inr rfl) (pe_callB cr_sortedI (by rfl) T.sorted (by decide +kernel) (pa_cons (pv 2) pa_nil)))
      (pss_cons (ps_set (i := 5) scT.nd rfl (Or.inl rfl) (pe_call GU hr (by rfl) gU FU.kp bU .nil pass0 (pa_cons (pv 0) (pa_cons (pv 1) (pa_cons (pe_callB call_len_seq (by rfl) T.len PySem.boot_len (pa_cons (pv 4) pa_nil)) pa_nil)))))
      (pss_cons (ps_setLc (i := 6) (own := [("cut", 7)]) (g := gName 7) (tt := tYes) (by rfl) scT.nd rfl rfl (sw_true rfl rfl rfl (by decide +kernel)) (pi_list (pv 5)) (blkOk_by (N := ["n", "size", "levels", "refusal", "row", "cuts", "widest", "cut"]) (sc := defScope sEven) (by decide +kernel))
          (fun _ _ _ _ _ => pg_name (i := 7) scT.nd rfl (Or.inl rfl)) (fun _ _ _ _ _ => pts_nil) (fun _ _ _ _ _ => pe_callBK (r := rMaxDf K) (ks := [Str.ofString "default"]) (cr_maxDf rfl) (by rfl) T.max (by decide +kernel) (pa_cons (pe_call GP hr (by rfl) gP FP.kp bP .nil pass0 (pa_cons (pv 4) (pa_cons (pv 7) pa_nil))) pa_nil) (pk_cons pe_int pk_nil)))
      (pss_one (ps_ret (pe_call GF hr (by rfl) gF FF.kp bF .nil pass0 (pa_cons (pv 6) (pa_cons (pv 5) pa_nil))))))))), ?_⟩
    -- refusal = refusal_of_pieces(n, size, levels)
    refine ⟨_, rfl, _, rfl, _, rfl, n, z, a, l, rfl, hA, hl, fun H1 s1 => ?_⟩
    -- if refusal < 0
    refine ⟨_, rfl, _, _, rfl, rfl, _, rfl, ite2 (fun c => ?_) (fun c => ?_)⟩
    · refine ⟨_, rfl, by show 1 ≤ sizeLine; decide, fun p hp => q _ p ?_⟩
      rw [upd_same, refM_neg (of_decide_eq_true c)]
      rfl
    · obtain ⟨c12, fits⟩ := refM_not fun t => c (decide_eq_true t)
      have c12' := c12
      rw [Bool.and_eq_true] at c12'
      obtain ⟨c1, c2⟩ := c12'
      have hnz : n ≤ 9 ∧ 1 ≤ z ∧ z ≤ 9 := by
        unfold countsM at c1
        simp only [Bool.and_eq_true, decide_eq_true_eq] at c1
        exact ⟨c1.1.2, c1.2.1, c1.2.2⟩
      have hl9 : l.length ≤ 9 := by
        unfold levelsM at c2
        simp only [Bool.and_eq_true, decide_eq_true_eq] at c2
        exact c2.1
      -- row = sorted(levels)
      refine ⟨_, rfl, a, toI l, rfl, s1.seq hA, fun r R pm up hR => ?_⟩
      have er := sorted_toI pm up
      subst er
      have hRl : upd H1 R (.lst (vN (Ks438.sorted l))) R = some (.lst (vN (Ks438.sorted l))) := upd_same
      -- cuts = cuts_in_order(n, size, len(row))
      refine ⟨_, rfl, _, rfl, _, rfl, R, _, rfl, .inl (SqL.of hRl), n, z, l.length, ?_, hnz.1, hnz.2.2, hl9, fun H3 D ps s3 hD rows h512 => ?_⟩
      · rw [vN_len, sorted_len]
        rfl
      have hR3 := s3 _ _ hRl
      have eps : ps.length = (Ks438.cuts z n l.length).length := rows.1
      -- widest = [.. for cut in cuts]
      refine ⟨_, rfl, D, rfl, ⟨_, SqL.of hD⟩, fun D4 hD4 => lc_keep (xs := ps.map V.ref) (ys := vN ((Ks438.cuts z n l.length).map (Ks438.greatest (Ks438.sorted l)))) hD4 (SqL.of hD) ?_ ?_ (fun j x y H4 Q4 hx hy sm g => ?_) (fun H4 sm hT => ?_)⟩
      · rw [vN_len, List.length_map, List.length_map, eps]
      · rw [List.length_map]
        omega
      · obtain ⟨p, c, rfl, hc, hp⟩ := rows_at (rows.same sm) hx
        obtain ⟨u, hu, rfl⟩ := vN_at hy
        rw [List.getElem?_map, hc] at hu
        have eu := Option.some.inj hu
        subst eu
        have cc := mem_cuts.mp (List.mem_of_getElem? hc)
        refine ⟨_, rfl, _, rfl, R, p, Ks438.sorted l, c, rfl, sm.seq (SqL.of hR3), SqL.of hp, ?_, ?_, fun H5 D5 s5 hD5 => ?_⟩
        · have := cc.few
          omega
        · rw [cc.all, sorted_len]
          exact Nat.le_refl _
        · refine ⟨D5, _, _, rfl, rfl, SqL.of hD5, fun e => ?_, fun m hm ge => ?_⟩
          · have e2 : spreads (Ks438.sorted l) c = [] := List.map_eq_nil_iff.mp e
            have e3 : Ks438.greatest (Ks438.sorted l) c = 0 := by
              rw [← max_spreads, e2]
              rfl
            have t := g _ s5
            rw [e3] at t
            exact t
          · rw [top_is hm ge]
            exact g _ s5
      · obtain ⟨c, hc⟩ : ∃ c, Ks438.first (Ks438.greatest (Ks438.sorted l)) (Ks438.cuts z n l.length) = some c := by
          cases e : Ks438.first (Ks438.greatest (Ks438.sorted l)) (Ks438.cuts z n l.length) with
          | some c => exact ⟨c, rfl⟩
          | none =>
            have := (cuts_empty hnz.2.1).mp (first_none.mp e)
            omega
        have cc := (mem_cuts.mp (first_mem hc)).few
        -- return first_of_least(widest, cuts)
        refine ⟨_, rfl, _, rfl, D4, D, Ks438.greatest (Ks438.sorted l), ps, _, c, rfl, hT, sm _ _ hD, rows.same sm, hc, by omega, fun H5 p hp => q H5 p ?_⟩
        rw [hp, cutM_some c12 hc]
end
end Lk
namespace Lk
open PySem PySem.Spec PyProof.Rows L2
open PySem.W (Codec)
theorem all_mk {P : Program} {w : World} {K : PySem.W.Frag} {h : Heap} {mg : Str → Option Value} {fa f1 f2 f3 f4 f5 f6 f7 f8 f9 : Addr} (X : K.In h) (G : h.Ns mainGlobals mg) (hfa : mg "even" = some (.ref fa))
    {od1 an1 od2 an2 od3 an3 od4 an4 od5 an5 od6 an6 od7 an7 od8 an8 od9 an9 : Option Addr} {sl1 sl2 sl3 sl4 sl5 sl6 sl7 sl8 sl9 : Array (Option Value)} {oc1 kV1 dc1 pm1 cd1 ct1 oc2 kV2 dc2 pm2 cd2 ct2 oc3 kV3 dc3 pm3 cd3 ct3 oc4 kV4 dc4 pm4 cd4 ct4 oc5 kV5 dc5 pm5 cd5 ct5 oc6 kV6 dc6 pm6 cd6 ct6 oc7 kV7 dc7 pm7 cd7 ct7 oc8 kV8 dc8 pm8 cd8 ct8 oc9 kV9 dc9 pm9 cd9 ct9 : Value} {t1 t2 t3 t4 : Tok}
    (a1 : PySem.W.nsIn K mainGlobals "even" = some (some (.ref f1))) (l1 : K.lookup f1 = some ⟨oc1, od1, .func (PySem.W.fnOf "even" "even" (defArgs sEven) (defBody sEven) (defScope sEven) .none kV1 dc1 pm1 an1 cd1 ct1), sl1⟩) (c1 : PySem.W.codeIn K cd1 "even" = true) (k1 : PySem.W.keepIn K (.ref f1) = true)
    (a2 : PySem.W.nsIn K mainGlobals "refusal_of_pieces" = some (some (.ref f2))) (l2 : K.lookup f2 = some ⟨oc2, od2, .func (PySem.W.fnOf "refusal_of_pieces" "refusal_of_pieces" (defArgs sRef) (defBody sRef) (defScope sRef) .none kV2 dc2 pm2 an2 cd2 ct2), sl2⟩) (c2 : PySem.W.codeIn K cd2 "refusal_of_pieces" = true) (k2 : PySem.W.keepIn K (.ref f2) = true)
    (a3 : PySem.W.nsIn K mainGlobals "counts_are_right" = some (some (.ref f3))) (l3 : K.lookup f3 = some ⟨oc3, od3, .func (PySem.W.fnOf "counts_are_right" "counts_are_right" (defArgs sCounts) (defBody sCounts) (defScope sCounts) .none kV3 dc3 pm3 an3 cd3 ct3), sl3⟩) (c3 : PySem.W.codeIn K cd3 "counts_are_right" = true) (k3 : PySem.W.keepIn K (.ref f3) = true)
    (a4 : PySem.W.nsIn K mainGlobals "size_is_right" = some (some (.ref f4))) (l4 : K.lookup f4 = some ⟨oc4, od4, .func (PySem.W.fnOf "size_is_right" "size_is_right" (defArgs sSize) (defBody sSize) (defScope sSize) .none kV4 dc4 pm4 an4 cd4 ct4), sl4⟩) (c4 : PySem.W.codeIn K cd4 "size_is_right" = true) (k4 : PySem.W.keepIn K (.ref f4) = true)
    (a5 : PySem.W.nsIn K mainGlobals "levels_are_right" = some (some (.ref f5))) (l5 : K.lookup f5 = some ⟨oc5, od5, .func (PySem.W.fnOf "levels_are_right" "levels_are_right" (defArgs sLevels) (defBody sLevels) (defScope sLevels) .none kV5 dc5 pm5 an5 cd5 ct5), sl5⟩) (c5 : PySem.W.codeIn K cd5 "levels_are_right" = true) (k5 : PySem.W.keepIn K (.ref f5) = true)
    (a6 : PySem.W.nsIn K mainGlobals "cuts_in_order" = some (some (.ref f6))) (l6 : K.lookup f6 = some ⟨oc6, od6, .func (PySem.W.fnOf "cuts_in_order" "cuts_in_order" (defArgs sCuts) (defBody sCuts) (defScope sCuts) .none kV6 dc6 pm6 an6 cd6 ct6), sl6⟩) (c6 : PySem.W.codeIn K cd6 "cuts_in_order" = true) (k6 : PySem.W.keepIn K (.ref f6) = true)
    (a7 : PySem.W.nsIn K mainGlobals "piece_spreads" = some (some (.ref f7))) (l7 : K.lookup f7 = some ⟨oc7, od7, .func (PySem.W.fnOf "piece_spreads" "piece_spreads" (defArgs sPieces) (defBody sPieces) (defScope sPieces) .none kV7 dc7 pm7 an7 cd7 ct7), sl7⟩) (c7 : PySem.W.codeIn K cd7 "piece_spreads" = true) (k7 : PySem.W.keepIn K (.ref f7) = true)
    (a8 : PySem.W.nsIn K mainGlobals "spread" = some (some (.ref f8))) (l8 : K.lookup f8 = some ⟨oc8, od8, .func (PySem.W.fnOf "spread" "spread" (defArgs sSpread) (defBody sSpread) (defScope sSpread) .none kV8 dc8 pm8 an8 cd8 ct8), sl8⟩) (c8 : PySem.W.codeIn K cd8 "spread" = true) (k8 : PySem.W.keepIn K (.ref f8) = true)
    (a9 : PySem.W.nsIn K mainGlobals "first_of_least" = some (some (.ref f9))) (l9 : K.lookup f9 = some ⟨oc9, od9, .func (PySem.W.fnOf "first_of_least" "first_of_least" (defArgs sFirst) (defBody sFirst) (defScope sFirst) .none kV9 dc9 pm9 an9 cd9 ct9), sl9⟩) (c9 : PySem.W.codeIn K cd9 "first_of_least" = true) (k9 : PySem.W.keepIn K (.ref f9) = true)
    (q1 : PySem.W.nsIn K mainGlobals "MOST_CHILDREN" = some (some (.int 9 t1)))
    (q2 : PySem.W.nsIn K mainGlobals "MOST_LEVEL" = some (some (.int 1000 t2)))
    (q3 : PySem.W.nsIn K mainGlobals "MOST_SIZE" = some (some (.int 9 t3)))
    (q4 : PySem.W.nsIn K mainGlobals "MOST_GROUPS" = some (some (.int 9 t4)))
    (z_len : PySem.W.nsIn K mainGlobals "len" = some none)
    (z_all : PySem.W.nsIn K mainGlobals "all" = some none)
    (z_any : PySem.W.nsIn K mainGlobals "any" = some none)
    (z_sum : PySem.W.nsIn K mainGlobals "sum" = some none)
    (z_max : PySem.W.nsIn K mainGlobals "max" = some none)
    (z_min : PySem.W.nsIn K mainGlobals "min" = some none)
    (z_range : PySem.W.nsIn K mainGlobals "range" = some none)
    (z_zip : PySem.W.nsIn K mainGlobals "zip" = some none)
    (z_sorted : PySem.W.nsIn K mainGlobals "sorted" = some none)
    : ∃ fd : FuncData, (∀ (s : Shared) (us : List Value), us.length = (["n", "size", "levels"] : List Str).length → BindsTo s fd ⟨us, []⟩ ((["n", "size", "levels"] : List Str).zip us)) ∧ ∀ base : Heap, K.In base → base.Ns mainGlobals mg → FnOk P w K mg base CX0 4 fa fd ["n", "size", "levels"] (spEven K) := by
  have e := hfa.symm.trans (PySem.W.mg_of X G a1)
  cases e
  have T : Txt mg := ⟨⟨_, PySem.W.mg_of X G q1⟩, ⟨_, PySem.W.mg_of X G q2⟩, ⟨_, PySem.W.mg_of X G q3⟩, PySem.W.mg_none_of X G z_len, PySem.W.mg_none_of X G z_all, PySem.W.mg_none_of X G z_any, PySem.W.mg_none_of X G z_sum, PySem.W.mg_none_of X G z_max, PySem.W.mg_none_of X G z_min, PySem.W.mg_none_of X G z_range, PySem.W.mg_none_of X G z_zip, PySem.W.mg_none_of X G z_sorted⟩
  have F1 := fun_mk (st := sEven) l1 c1 k1
  have F2 := fun_mk (st := sRef) l2 c2 k2
  have F3 := fun_mk (st := sCounts) l3 c3 k3
  have F4 := fun_mk (st := sSize) l4 c4 k4
  have F5 := fun_mk (st := sLevels) l5 c5 k5
  have F6 := fun_mk (st := sCuts) l6 c6 k6
  have F7 := fun_mk (st := sPieces) l7 c7 k7
  have F8 := fun_mk (st := sSpread) l8 c8 k8
  have F9 := fun_mk (st := sFirst) l9 c9 k9
  have b2 := F2.binds (ps := ["n", "size", "levels"]) fun _ _ _ _ _ _ us hl => match us, hl with | [_, _, _], _ => rfl
  have b3 := F3.binds (ps := ["n", "size"]) fun _ _ _ _ _ _ us hl => match us, hl with | [_, _], _ => rfl
  have b4 := F4.binds (ps := ["size"]) fun _ _ _ _ _ _ us hl => match us, hl with | [_], _ => rfl
  have b5 := F5.binds (ps := ["levels"]) fun _ _ _ _ _ _ us hl => match us, hl with | [_], _ => rfl
  have b6 := F6.binds (ps := ["n", "size", "children"]) fun _ _ _ _ _ _ us hl => match us, hl with | [_, _, _], _ => rfl
  have b7 := F7.binds (ps := ["row", "lengths"]) fun _ _ _ _ _ _ us hl => match us, hl with | [_, _], _ => rfl
  have b8 := F8.binds (ps := ["members"]) fun _ _ _ _ _ _ us hl => match us, hl with | [_], _ => rfl
  have b9 := F9.binds (ps := ["spreads", "cuts"]) fun _ _ _ _ _ _ us hl => match us, hl with | [_, _], _ => rfl
  exact ⟨PySem.W.fnOf "even" "even" (defArgs sEven) (defBody sEven) (defScope sEven) .none kV1 dc1 pm1 an1 cd1 ct1, fun s us hu => match us, hu with | [_, _, _], _ => .of_eq rfl, fun base _ _ => ok_even F1 T ⟨_, PySem.W.mg_of X G q4⟩ F2 b2 (PySem.W.mg_of X G a2) F3 b3 (PySem.W.mg_of X G a3) F4 b4 (PySem.W.mg_of X G a4) F5 b5 (PySem.W.mg_of X G a5) F6 b6 (PySem.W.mg_of X G a6) F7 b7 (PySem.W.mg_of X G a7) F8 b8 (PySem.W.mg_of X G a8) F9 b9 (PySem.W.mg_of X G a9)⟩
/-- a whole number from 0 on is one of the naturals -/
theorem nat_of {i : Int} (h : 0 ≤ i) : ∃ n : Nat, i = Int.ofNat n := ⟨i.toNat, by
  show i = ((i.toNat : Nat) : Int)
  omega⟩
theorem nats_of : ∀ {l : List Int}, (∀ x ∈ l, 0 ≤ x) → ∃ m : List Nat, l = toI m
  | [], _ => ⟨[], rfl⟩
  | x :: r, h => by
    obtain ⟨n, e⟩ := nat_of (h x List.mem_cons_self)
    obtain ⟨m, f⟩ := nats_of (l := r) fun y hy => h y (List.mem_cons_of_mem _ hy)
    exact ⟨n :: m, by rw [e, f]; rfl⟩
end Lk
open PySem PySem.W PyProof.Rows
set_option maxRecDepth 100000 in
set_option maxHeartbeats 8000000 in
theorem PySem.Challenge.cw_levelgroups_s03_even_holds : PySem.Challenge.rw_levelgroups_s03_even.Holds := by
  w_on; k_headS; (case hw => exact ⟨[.int 0, .int 0, .list []], by decide +kernel, by decide +kernel⟩)
  k_fillS
  refine L2.walk_specK (r := PySem.Challenge.rw_levelgroups_s03_even) (k := 4) (CX := L2.CX0) (ps := ["n", "size", "levels"]) (sp := Lk.spEven) (by decide +kernel) rfl rfl ⟨rfl, by decide, by decide⟩ (fun w h Y => PySem.W.kIn_of Y) ?F ?S (fun _ _ _ _ z => z)
  case F =>
    intro w mg fa h Y KX G hmg
    refine' Lk.all_mk KX G hmg ?a1 ?l1 ?c1 ?k1 ?a2 ?l2 ?c2 ?k2 ?a3 ?l3 ?c3 ?k3 ?a4 ?l4 ?c4 ?k4 ?a5 ?l5 ?c5 ?k5 ?a6 ?l6 ?c6 ?k6 ?a7 ?l7 ?c7 ?k7 ?a8 ?l8 ?c8 ?k8 ?a9 ?l9 ?c9 ?k9 ?q1 ?q2 ?q3 ?q4 ?z_len ?z_all ?z_any ?z_sum ?z_max ?z_min ?z_range ?z_zip ?z_sorted
    (case a1 => k_is)
    (case l1 => k_is)
    (case c1 => k_is)
    (case k1 => k_is)
    (case a2 => k_is)
    (case l2 => k_is)
    (case c2 => k_is)
    (case k2 => k_is)
    (case a3 => k_is)
    (case l3 => k_is)
    (case c3 => k_is)
    (case k3 => k_is)
    (case a4 => k_is)
    (case l4 => k_is)
    (case c4 => k_is)
    (case k4 => k_is)
    (case a5 => k_is)
    (case l5 => k_is)
    (case c5 => k_is)
    (case k5 => k_is)
    (case a6 => k_is)
    (case l6 => k_is)
    (case c6 => k_is)
    (case k6 => k_is)
    (case a7 => k_is)
    (case l7 => k_is)
    (case c7 => k_is)
    (case k7 => k_is)
    (case a8 => k_is)
    (case l8 => k_is)
    (case c8 => k_is)
    (case k8 => k_is)
    (case a9 => k_is)
    (case l9 => k_is)
    (case c9 => k_is)
    (case k9 => k_is)
    (case q1 => k_is)
    (case q2 => k_is)
    (case q3 => k_is)
    (case q4 => k_is)
    (case z_len => k_is)
    (case z_all => k_is)
    (case z_any => k_is)
    (case z_sum => k_is)
    (case z_max => k_is)
    (case z_min => k_is)
    (case z_range => k_is)
    (case z_zip => k_is)
    (case z_sorted => k_is)
  case S =>
    intro K H xs a hO hwi hask hx
    cases hx with
    | cons h1 hx =>
    cases hx with
    | cons h2 hx =>
    cases hx with
    | cons h3 hx =>
    cases hx
    cases h1
    cases h2
    cases h3 with
    | lst hs3 ha3 =>
    have e3 := L2.ints_dw a.2.2.1 _ ha3
    subst e3
    have q : (Codec.inInt 0 4294967295 a.1 && (Codec.inInt 0 4294967295 a.2.1 && ((Codec.inLen 0 15 a.2.2.1 && a.2.2.1.all (Codec.inInt 0 4294967295)) && true))) = true := hwi
    simp only [Bool.and_eq_true, List.all_eq_true] at q
    obtain ⟨q1, q2, ⟨q3, q4⟩, _⟩ := q
    obtain ⟨n, u, l, z⟩ := a
    obtain ⟨n, rfl⟩ := Lk.nat_of (Codec.inInt_iff.mp q1).1
    obtain ⟨u, rfl⟩ := Lk.nat_of (Codec.inInt_iff.mp q2).1
    obtain ⟨l, rfl⟩ := Lk.nats_of fun x hx => (Codec.inInt_iff.mp (q4 x hx)).1
    have w3 := (Codec.inNat_iff.mp q3).2
    rw [List.length_map] at w3
    refine ⟨n, u, _, l, rfl, hs3, w3, fun H' p hp => ?_⟩
    show L2.Dw K H' (.ref p) (WData.list ((PyKs438.even (Int.ofNat n) (Int.ofNat u) (Lk.toI l)).map WData.int))
    rw [Lk.even_eq]
    exact .lst (L2.SqL.of hp) (L2.dw_ints _)
#print axioms PySem.Challenge.cw_levelgroups_s03_even_holds
