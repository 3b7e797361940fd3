import PyProof.Rows.All
import Wide.All
import OpenK.AllK
import Wide.FinOn
import Open.SpecLaws
import KE.OsGo
import HandS.ForSpec
import HandS.Comp
import HandS.Iter
import HandS.Zip
import PySem.Challenge.RW_levelgroups_s01_looks
set_option Elab.async false
set_option linter.all false
set_option maxRecDepth 100000
set_option maxHeartbeats 2000000
namespace Lk
open Ks438
abbrev toI (l : List Nat) : List Int := l.map Int.ofNat
def countsM (n s : Nat) : Bool := (decide (1 ≤ n) && decide (n ≤ 9)) && (decide (1 ≤ s) && decide (s ≤ 9))
def levelsM (l : List Nat) : Bool := decide (l.length ≤ 9) && l.all fun x => decide (x ≤ 1000)
def groupsM (n : Nat) (l g : List Nat) : Bool := decide (g.length = l.length) && g.all fun x => decide (x < n)
def rowsM (n : Nat) (l g : List Nat) : List (List Nat) := (List.range n).map fun k => group l g k
def looksM (n s : Nat) (l g : List Nat) : List Int :=
  if (countsM n s && levelsM l) = true then
    if groupsM n l g = true then
      if ((rowsM n l g).map fun r => decide (s < r.length)).any id = true then [-28]
      else [Int.ofNat ((rowsM n l g).map spread).sum, Int.ofNat (((rowsM n l g).map spread).foldl max 0)]
    else [-22]
  else [-22]
theorem nats_toI : ∀ l : List Nat, Ks438Neutral.nats (toI l) = l
  | [] => rfl
  | x :: r => by
    show Int.toNat (Int.ofNat x) :: Ks438Neutral.nats (toI r) = x :: r
    rw [nats_toI r]
    rfl
theorem call_looks (n s : Nat) (l g : List Nat) : PyKs438.looks (Int.ofNat n) (Int.ofNat s) (toI l) (toI g) = Ks438Neutral.out (answer (.looks n s l g)) := by
  show Ks438Neutral.out (answer (.looks n s (Ks438Neutral.nats (toI l)) (Ks438Neutral.nats (toI g)))) = _
  rw [nats_toI, nats_toI]
theorem looks_eq (n s : Nat) (l g : List Nat) : PyKs438.looks (Int.ofNat n) (Int.ofNat s) (toI l) (toI g) = looksM n s l g := by
  rw [call_looks]
  unfold looksM
  by_cases c : (countsM n s && levelsM l) = true
  · rw [if_pos c]
    have c' : (okN n && decide (1 ≤ s) && decide (s ≤ CHILDREN) && decide (l.length ≤ CHILDREN) && l.all (fun v => decide (v ≤ 1000))) = true := by
      unfold countsM levelsM at c
      unfold okN CHILDREN
      simp only [Bool.and_eq_true, decide_eq_true_eq] at c ⊢
      exact ⟨⟨⟨c.1.1, c.1.2.1⟩, c.1.2.2⟩, c.2.1⟩ |> fun h => ⟨h, c.2.2⟩
    unfold answer given
    simp only [c', if_true]
    by_cases d : groupsM n l g = true
    · rw [if_pos d]
      have d1 : g.length = l.length ∧ ∀ x ∈ g, x < n := by
        unfold groupsM at d
        simpa only [Bool.and_eq_true, decide_eq_true_eq, List.all_eq_true] using d
      have d2 : ¬ (g.length ≠ l.length ∨ g.any (fun v => decide (n ≤ v)) = true) := by
        rintro (h | h)
        · exact h d1.1
        · obtain ⟨x, hx, e⟩ := List.any_eq_true.mp h
          have := d1.2 x hx
          have := of_decide_eq_true e
          omega
      rw [if_neg d2]
      by_cases o : ((rowsM n l g).map fun r => decide (s < r.length)).any id = true
      · rw [if_pos o]
        have r0 : ¬ right n s l g = true := by
          intro h
          unfold right at h
          simp only [Bool.and_eq_true, List.all_eq_true, decide_eq_true_eq] at h
          obtain ⟨b, hb, e⟩ := List.any_eq_true.mp o
          obtain ⟨r, hr, rfl⟩ := List.mem_map.mp hb
          unfold rowsM at hr
          obtain ⟨k, hk, rfl⟩ := List.mem_map.mp hr
          have h2 := h.2 k hk
          have h3 : s < (group l g k).length := of_decide_eq_true e
          omega
        rw [if_neg r0]
        rfl
      · rw [if_neg o]
        have r1 : right n s l g = true := by
          unfold right
          simp only [Bool.and_eq_true, List.all_eq_true, decide_eq_true_eq, beq_iff_eq]
          refine ⟨⟨d1.1, d1.2⟩, fun k hk => ?_⟩
          apply Nat.le_of_not_lt
          intro h
          apply o
          refine List.any_eq_true.mpr ⟨true, List.mem_map.mpr ⟨group l g k, List.mem_map.mpr ⟨k, hk, rfl⟩, decide_eq_true h⟩, rfl⟩
        rw [if_pos r1]
        unfold cost worst rowsM
        rw [List.map_map]
        rfl
    · rw [if_neg d]
      have d2 : (g.length ≠ l.length ∨ g.any (fun v => decide (n ≤ v)) = true) := by
        apply Decidable.byContradiction
        intro h
        apply d
        unfold groupsM
        simp only [Bool.and_eq_true, decide_eq_true_eq, List.all_eq_true]
        refine ⟨Decidable.byContradiction fun e => h (.inl e), fun x hx => Nat.lt_of_not_le fun e => h (.inr (List.any_eq_true.mpr ⟨x, hx, decide_eq_true e⟩))⟩
      rw [if_pos d2]
      rfl
  · rw [if_neg c]
    have c' : ¬ (okN n && decide (1 ≤ s) && decide (s ≤ CHILDREN) && decide (l.length ≤ CHILDREN) && l.all (fun v => decide (v ≤ 1000))) = true := by
      intro h
      apply c
      unfold okN CHILDREN at h
      unfold countsM levelsM
      simp only [Bool.and_eq_true, decide_eq_true_eq] at h ⊢
      exact ⟨⟨h.1.1.1.1, h.1.1.1.2, h.1.1.2⟩, h.1.2, h.2⟩
    unfold answer given
    dsimp only
    rw [if_neg c']
    rfl
/-! greatest and least -/
theorem fmax_ge : ∀ (r : List Nat) (a : Nat), a ≤ r.foldl max a ∧ ∀ y ∈ r, y ≤ r.foldl max a
  | [], a => ⟨Nat.le_refl _, fun _ h => nomatch h⟩
  | x :: r, a => by
    obtain ⟨h1, h2⟩ := fmax_ge r (max a x)
    refine ⟨Nat.le_trans (Nat.le_max_left a x) h1, fun y hy => ?_⟩
    rcases List.mem_cons.mp hy with e | e
    · rw [e]
      exact Nat.le_trans (Nat.le_max_right a x) h1
    · exact h2 y e
theorem fmax_mem : ∀ (r : List Nat) (a : Nat), r.foldl max a = a ∨ r.foldl max a ∈ r
  | [], a => .inl rfl
  | x :: r, a => by
    rcases fmax_mem r (max a x) with h | h
    · rw [List.foldl_cons, h]
      rcases Nat.le_total a x with e | e
      · rw [Nat.max_eq_right e]
        exact .inr List.mem_cons_self
      · rw [Nat.max_eq_left e]
        exact .inl rfl
    · exact .inr (List.mem_cons_of_mem _ h)
theorem fmin_le : ∀ (r : List Nat) (a : Nat), r.foldl min a ≤ a ∧ ∀ y ∈ r, r.foldl min a ≤ y
  | [], a => ⟨Nat.le_refl _, fun _ h => nomatch h⟩
  | x :: r, a => by
    obtain ⟨h1, h2⟩ := fmin_le r (min a x)
    refine ⟨Nat.le_trans h1 (Nat.min_le_left a x), fun y hy => ?_⟩
    rcases List.mem_cons.mp hy with e | e
    · rw [e]
      exact Nat.le_trans h1 (Nat.min_le_right a x)
    · exact h2 y e
theorem fmin_mem : ∀ (r : List Nat) (a : Nat), r.foldl min a = a ∨ r.foldl min a ∈ r
  | [], a => .inl rfl
  | x :: r, a => by
    rcases fmin_mem r (min a x) with h | h
    · rw [List.foldl_cons, h]
      rcases Nat.le_total a x with e | e
      · rw [Nat.min_eq_left e]
        exact .inl rfl
      · rw [Nat.min_eq_right e]
        exact .inr List.mem_cons_self
    · exact .inr (List.mem_cons_of_mem _ h)
theorem mem_toI {l : List Nat} {m : Int} (h : m ∈ toI l) : ∃ x ∈ l, m = Int.ofNat x := by
  obtain ⟨x, hx, e⟩ := List.mem_map.mp h
  exact ⟨x, hx, e.symm⟩
theorem toI_mem {l : List Nat} {x : Nat} (h : x ∈ l) : Int.ofNat x ∈ toI l := List.mem_map.mpr ⟨x, h, rfl⟩
theorem max_is {a : Nat} {r : List Nat} {m : Int} (h : m ∈ toI (a :: r)) (g : ∀ y ∈ toI (a :: r), y ≤ m) : m = Int.ofNat (r.foldl max a) := by
  obtain ⟨x, hx, rfl⟩ := mem_toI h
  have t : x ≤ r.foldl max a := by
    rcases List.mem_cons.mp hx with e | e
    · rw [e]
      exact (fmax_ge r a).1
    · exact (fmax_ge r a).2 x e
  have u : r.foldl max a ∈ a :: r := by
    rcases fmax_mem r a with e | e
    · rw [e]
      exact List.mem_cons_self
    · exact List.mem_cons_of_mem _ e
  have v := g _ (toI_mem u)
  have w : r.foldl max a ≤ x := Int.ofNat_le.mp v
  rw [Nat.le_antisymm t w]
theorem min_is {a : Nat} {r : List Nat} {m : Int} (h : m ∈ toI (a :: r)) (g : ∀ y ∈ toI (a :: r), m ≤ y) : m = Int.ofNat (r.foldl min a) := by
  obtain ⟨x, hx, rfl⟩ := mem_toI h
  have t : r.foldl min a ≤ x := by
    rcases List.mem_cons.mp hx with e | e
    · rw [e]
      exact (fmin_le r a).1
    · exact (fmin_le r a).2 x e
  have u : r.foldl min a ∈ a :: r := by
    rcases fmin_mem r a with e | e
    · rw [e]
      exact List.mem_cons_self
    · exact List.mem_cons_of_mem _ e
  have v := g _ (toI_mem u)
  have w : x ≤ r.foldl min a := Int.ofNat_le.mp v
  rw [Nat.le_antisymm t w]
theorem spread_is (a : Nat) (r : List Nat) : Int.ofNat (r.foldl max a) - Int.ofNat (r.foldl min a) = Int.ofNat (spread (a :: r)) := by
  have h : r.foldl min a ≤ r.foldl max a := Nat.le_trans (fmin_le r a).1 (fmax_ge r a).1
  show ((r.foldl max a : Nat) : Int) - ((r.foldl min a : Nat) : Int) = ((r.foldl max a - r.foldl min a : Nat) : Int)
  omega
/-- the greatest of some -/
theorem top_is {l : List Nat} {m : Int} (h : m ∈ toI l) (g : ∀ y ∈ toI l, y ≤ m) : m = Int.ofNat (l.foldl max 0) := by
  obtain ⟨x, hx, rfl⟩ := mem_toI h
  have t : x ≤ l.foldl max 0 := (fmax_ge l 0).2 x hx
  have w : l.foldl max 0 ≤ x := by
    rcases fmax_mem l 0 with e | e
    · rw [e]
      exact Nat.zero_le _
    · exact Int.ofNat_le.mp (g _ (toI_mem e))
  rw [Nat.le_antisymm t w]
theorem sum_toI : ∀ l : List Nat, (toI l).sum = Int.ofNat l.sum
  | [] => rfl
  | x :: r => by
    show (Int.ofNat x :: toI r).sum = _
    rw [List.sum_cons, sum_toI r, List.sum_cons]
    rfl
/-! the groups, child by child -/
theorem group_nil (k : Nat) (g : List Nat) : group [] g k = [] := rfl
theorem zip_take : ∀ (l g : List Nat) (i : Nat), (l.take i).zip (g.take i) = (l.zip g).take i
  | _, _, 0 => by rw [List.take_zero, List.take_zero, List.take_zero]; rfl
  | [], g, i + 1 => by rw [List.take_nil, List.zip_nil_left, List.zip_nil_left, List.take_nil]
  | x :: l, [], i + 1 => by rw [List.take_nil, List.zip_nil_right, List.zip_nil_right, List.take_nil]
  | x :: l, y :: g, i + 1 => by
    show (x, y) :: (l.take i).zip (g.take i) = (x, y) :: (l.zip g).take i
    rw [zip_take l g i]
theorem group_more {l g : List Nat} {i : Nat} {x y : Nat} (k : Nat) (hx : l[i]? = some x) (hy : g[i]? = some y) :
    group (l.take (i + 1)) (g.take (i + 1)) k = if y = k then group (l.take i) (g.take i) k ++ [x] else group (l.take i) (g.take i) k := by
  unfold group
  rw [zip_take, zip_take]
  have hz : (l.zip g)[i]? = some (x, y) := by
    rw [List.getElem?_zip_eq_some]
    exact ⟨hx, hy⟩
  rw [List.take_add_one, hz, List.filter_append, List.map_append]
  by_cases e : y = k
  · rw [if_pos e]
    subst e
    simp
  · rw [if_neg e]
    have : ((y == k) = false) := by simp [e]
    simp [this]
theorem group_all {l g : List Nat} (h : l.length = g.length) (k : Nat) : group (l.take l.length) (g.take l.length) k = group l g k := by
  rw [List.take_length, h, List.take_length]
theorem group_len (l g : List Nat) (k : Nat) : (group l g k).length ≤ l.length := by
  unfold group
  rw [List.length_map]
  refine Nat.le_trans (List.length_filter_le _ _) ?_
  rw [List.length_zip]
  exact Nat.min_le_left _ _
end Lk
namespace Lk
open Ks438
/-! ### the row -/
theorem insert_perm (x : Nat) : ∀ l : List Nat, (Ks438.insert x l).Perm (x :: l)
  | [] => List.Perm.refl _
  | y :: l => by
    unfold Ks438.insert
    by_cases h : x ≤ y
    · rw [if_pos h]
    · rw [if_neg h]
      exact ((insert_perm x l).cons y).trans (List.Perm.swap x y l)
theorem sorted_perm : ∀ l : List Nat, (sorted l).Perm l
  | [] => List.Perm.refl _
  | x :: l => (insert_perm x (sorted l)).trans ((sorted_perm l).cons x)
theorem insert_pw (x : Nat) : ∀ l : List Nat, l.Pairwise (· ≤ ·) → (Ks438.insert x l).Pairwise (· ≤ ·)
  | [], _ => List.pairwise_singleton _ _
  | y :: l, h => by
    unfold Ks438.insert
    rw [List.pairwise_cons] at h
    by_cases c : x ≤ y
    · rw [if_pos c, List.pairwise_cons, List.pairwise_cons]
      refine ⟨fun z hz => ?_, h.1, h.2⟩
      rcases List.mem_cons.mp hz with e | e
      · rw [e]
        exact c
      · exact Nat.le_trans c (h.1 z e)
    · rw [if_neg c, List.pairwise_cons]
      refine ⟨fun z hz => ?_, insert_pw x l h.2⟩
      rcases List.mem_cons.mp ((insert_perm x l).mem_iff.mp hz) with e | e
      · rw [e]
        omega
      · exact h.1 z e
theorem sorted_pw : ∀ l : List Nat, (sorted l).Pairwise (· ≤ ·)
  | [] => List.Pairwise.nil
  | x :: l => insert_pw x _ (sorted_pw l)
theorem sorted_len (l : List Nat) : (sorted l).length = l.length := (sorted_perm l).length_eq
theorem pw_uniq : ∀ {l m : List Nat}, l.Perm m → l.Pairwise (· ≤ ·) → m.Pairwise (· ≤ ·) → l = m
  | [], m, p, _, _ => (List.Perm.nil_eq p)
  | x :: l, [], p, _, _ => absurd p.length_eq (by simp)
  | x :: l, y :: m, p, h, g => by
    rw [List.pairwise_cons] at h g
    have h1 : x ≤ y := by
      rcases List.mem_cons.mp (p.mem_iff.mpr List.mem_cons_self) with e | e
      · rw [e]
        exact Nat.le_refl _
      · exact h.1 _ e
    have h2 : y ≤ x := by
      rcases List.mem_cons.mp (p.mem_iff.mp List.mem_cons_self) with e | e
      · rw [e]
        exact Nat.le_refl _
      · exact g.1 _ e
    have e := Nat.le_antisymm h1 h2
    subst e
    rw [pw_uniq ((List.perm_cons x).mp p) h.2 g.2]
theorem sorted_uniq {l m : List Nat} (p : m.Perm l) (h : m.Pairwise (· ≤ ·)) : m = sorted l := pw_uniq (p.trans (sorted_perm l).symm) h (sorted_pw l)
/-! ### the cuts -/
/-- a way to cut -/
structure Cut (size n m : Nat) (c : List Nat) : Prop where
  few : c.length ≤ n
  one : ∀ x ∈ c, 1 ≤ x ∧ x ≤ size
  all : c.sum = m
theorem cut_nil {size n : Nat} : Cut size n 0 [] := ⟨Nat.zero_le _, (fun _ h => nomatch h), rfl⟩
theorem cut_zero {size n : Nat} {c : List Nat} (h : Cut size n 0 c) : c = [] := by
  cases c with
  | nil => rfl
  | cons x r =>
    have h1 := (h.one x List.mem_cons_self).1
    have h2 := h.all
    rw [List.sum_cons] at h2
    omega
theorem cut_cons {size n m x : Nat} {r : List Nat} : Cut size (n + 1) m (x :: r) ↔ (1 ≤ x ∧ x ≤ size ∧ x ≤ m) ∧ Cut size n (m - x) r := by
  constructor
  · intro h
    have h2 := h.all
    have h1 := h.one x List.mem_cons_self
    have h3 := h.few
    rw [List.sum_cons] at h2
    rw [List.length_cons] at h3
    exact ⟨⟨h1.1, h1.2, by omega⟩, ⟨by omega, fun y hy => h.one y (List.mem_cons_of_mem _ hy), by omega⟩⟩
  · rintro ⟨⟨h1, h2, h3⟩, h⟩
    refine ⟨?_, fun y hy => ?_, ?_⟩
    · rw [List.length_cons]
      have := h.few
      omega
    · rcases List.mem_cons.mp hy with e | e
      · rw [e]
        exact ⟨h1, h2⟩
      · exact h.one y e
    · rw [List.sum_cons, h.all]
      omega
theorem cuts_zero (size n : Nat) : cuts size n 0 = [[]] := by
  cases n with
  | zero => rfl
  | succ n =>
    unfold cuts
    rfl
theorem cuts_none {size m : Nat} (h : m ≠ 0) : cuts size 0 m = [] := by
  unfold cuts
  rw [if_neg h]
theorem cuts_succ {size n m : Nat} (h : m ≠ 0) : cuts size (n + 1) m = (List.range (min size m)).flatMap fun i => (cuts size n (m - (i + 1))).map fun r => (i + 1) :: r := by
  rw [cuts]
  rw [if_neg h]
theorem mem_cuts : ∀ {n size m : Nat} {c : List Nat}, c ∈ cuts size n m ↔ Cut size n m c
  | 0, size, m, c => by
    by_cases h : m = 0
    · subst h
      rw [cuts_zero, List.mem_singleton]
      exact ⟨fun e => e ▸ cut_nil, cut_zero⟩
    · rw [cuts_none h]
      refine ⟨(fun q => nomatch q), fun q => ?_⟩
      have h1 := q.few
      have h2 := q.all
      cases c with
      | nil => exact absurd h2.symm h
      | cons x r =>
        rw [List.length_cons] at h1
        omega
  | n + 1, size, m, c => by
    by_cases h : m = 0
    · subst h
      rw [cuts_zero, List.mem_singleton]
      exact ⟨fun e => e ▸ cut_nil, cut_zero⟩
    · rw [cuts_succ h, List.mem_flatMap]
      constructor
      · rintro ⟨i, hi, hc⟩
        obtain ⟨r, hr, rfl⟩ := List.mem_map.mp hc
        have hi' := List.mem_range.mp hi
        exact cut_cons.mpr ⟨⟨by omega, by omega, by omega⟩, mem_cuts.mp hr⟩
      · intro q
        cases c with
        | nil => exact absurd q.all.symm h
        | cons x r =>
          obtain ⟨⟨h1, h2, h3⟩, q⟩ := cut_cons.mp q
          have e : x - 1 + 1 = x := by omega
          refine ⟨x - 1, List.mem_range.mpr (by omega), List.mem_map.mpr ⟨r, ?_, by rw [e]⟩⟩
          rw [e]
          exact mem_cuts.mpr q
/-- which comes first: the shorter piece where they first differ -/
def Bef : List Nat → List Nat → Prop
  | x :: r, y :: s => x < y ∨ (x = y ∧ Bef r s)
  | _, _ => False
theorem bef_irr : ∀ c : List Nat, ¬ Bef c c
  | [] => fun h => h
  | x :: r => fun h => by
    rcases h with h | h
    · exact Nat.lt_irrefl _ h
    · exact bef_irr r h.2
theorem bef_asym : ∀ {c d : List Nat}, Bef c d → ¬ Bef d c
  | [], _, h, _ => h
  | _ :: _, [], h, _ => h
  | x :: r, y :: s, h, g => by
    rcases h with h | h <;> rcases g with g | g
    · omega
    · omega
    · omega
    · exact bef_asym h.2 g.2
/-- two ways to cut the same: one comes first -/
theorem bef_tri : ∀ {c d : List Nat} {size n m : Nat}, Cut size n m c → Cut size n m d → c = d ∨ Bef c d ∨ Bef d c
  | [], [], _, _, _, _, _ => .inl rfl
  | [], y :: s, _, _, m, h, g => by
    have e : m = 0 := h.all.symm
    subst e
    exact .inl (cut_zero g).symm
  | x :: r, [], _, _, m, h, g => by
    have e : m = 0 := g.all.symm
    subst e
    exact .inl (cut_zero h)
  | x :: r, y :: s, size, 0, m, h, g => absurd h.few (by rw [List.length_cons]; omega)
  | x :: r, y :: s, size, n + 1, m, h, g => by
    rcases Nat.lt_trichotomy x y with e | e | e
    · exact .inr (.inl (.inl e))
    · subst e
      rcases bef_tri (cut_cons.mp h).2 (cut_cons.mp g).2 with q | q | q
      · exact .inl (by rw [q])
      · exact .inr (.inl (.inr ⟨rfl, q⟩))
      · exact .inr (.inr (.inr ⟨rfl, q⟩))
    · exact .inr (.inr (.inl e))
theorem pw_flat {α β : Type} {R : β → β → Prop} {f : α → List β} : ∀ {l : List α}, (∀ a ∈ l, (f a).Pairwise R) → l.Pairwise (fun a b => ∀ x ∈ f a, ∀ y ∈ f b, R x y) → (l.flatMap f).Pairwise R
  | [], _, _ => List.Pairwise.nil
  | a :: l, h, g => by
    rw [List.flatMap_cons, List.pairwise_append]
    rw [List.pairwise_cons] at g
    refine ⟨h a List.mem_cons_self, pw_flat (fun b hb => h b (List.mem_cons_of_mem _ hb)) g.2, fun x hx y hy => ?_⟩
    obtain ⟨b, hb, hy⟩ := List.mem_flatMap.mp hy
    exact g.1 b hb x hx y hy
theorem cuts_pw : ∀ (n size m : Nat), (cuts size n m).Pairwise Bef
  | 0, size, m => by
    by_cases h : m = 0
    · subst h
      rw [cuts_zero]
      exact List.pairwise_singleton _ _
    · rw [cuts_none h]
      exact List.Pairwise.nil
  | n + 1, size, m => by
    by_cases h : m = 0
    · subst h
      rw [cuts_zero]
      exact List.pairwise_singleton _ _
    · rw [cuts_succ h]
      refine pw_flat (fun i _ => ?_) ?_
      · rw [List.pairwise_map]
        exact (cuts_pw n size _).imp fun h => .inr ⟨rfl, h⟩
      · refine List.Pairwise.imp ?_ List.pairwise_lt_range
        intro i j hij x hx y hy
        obtain ⟨r, _, rfl⟩ := List.mem_map.mp hx
        obtain ⟨s, _, rfl⟩ := List.mem_map.mp hy
        exact .inl (by omega)
/-! ### the first of the least -/
/-- c is in l, none is less, and what is as good stands behind it -/
structure Fst (f : List Nat → Nat) (l : List (List Nat)) (c : List Nat) : Prop where
  isIn : c ∈ l
  least : ∀ x ∈ l, f c ≤ f x
theorem fold_first (f : List Nat → Nat) : ∀ (r : List (List Nat)) (a : List Nat),
    ∃ p q, (a :: r) = p ++ (r.foldl (fun b c => if f c < f b then c else b) a) :: q ∧ (∀ x ∈ p, f (r.foldl (fun b c => if f c < f b then c else b) a) < f x) ∧ ∀ x ∈ q, f (r.foldl (fun b c => if f c < f b then c else b) a) ≤ f x
  | [], a => ⟨[], [], rfl, (fun _ h => nomatch h), (fun _ h => nomatch h)⟩
  | b :: r, a => by
    rw [List.foldl_cons]
    by_cases h : f b < f a
    · rw [if_pos h]
      obtain ⟨p, q, e, h1, h2⟩ := fold_first f r b
      refine ⟨a :: p, q, by rw [e]; rfl, fun x hx => ?_, h2⟩
      rcases List.mem_cons.mp hx with g | g
      · rw [g]
        refine Nat.lt_of_le_of_lt ?_ h
        have hb : b ∈ p ++ (r.foldl (fun b c => if f c < f b then c else b) b) :: q := by
          rw [← e]
          exact List.mem_cons_self
        rcases List.mem_append.mp hb with k | k
        · exact Nat.le_of_lt (h1 b k)
        · rcases List.mem_cons.mp k with k | k
          · rw [← k]
            exact Nat.le_refl _
          · exact h2 b k
      · exact h1 x g
    · rw [if_neg h]
      obtain ⟨p, q, e, h1, h2⟩ := fold_first f r a
      cases p with
      | nil =>
        have e1 : a = r.foldl (fun b c => if f c < f b then c else b) a := (List.cons.inj e).1
        have e2 : r = q := (List.cons.inj e).2
        refine ⟨[], b :: q, ?_, (fun _ h => nomatch h), fun x hx => ?_⟩
        · show a :: b :: r = _ :: b :: q
          rw [← e1, e2]
        · rcases List.mem_cons.mp hx with g | g
          · rw [g, ← e1]
            omega
          · exact h2 x g
      | cons y p =>
        have e1 : a = y := (List.cons.inj e).1
        have e2 := (List.cons.inj e).2
        subst e1
        refine ⟨a :: b :: p, q, ?_, fun x hx => ?_, h2⟩
        · show a :: b :: r = a :: b :: (p ++ _)
          exact congrArg (fun t => a :: b :: t) e2
        · rcases List.mem_cons.mp hx with g | g
          · exact h1 x (g ▸ List.mem_cons_self)
          · rcases List.mem_cons.mp g with g | g
            · rw [g]
              exact Nat.lt_of_lt_of_le (h1 a List.mem_cons_self) (Nat.le_of_not_lt h)
            · exact h1 x (List.mem_cons_of_mem _ g)
theorem first_split {f : List Nat → Nat} {l : List (List Nat)} {c : List Nat} (h : first f l = some c) : ∃ p q, l = p ++ c :: q ∧ (∀ x ∈ p, f c < f x) ∧ ∀ x ∈ q, f c ≤ f x := by
  cases l with
  | nil => cases h
  | cons a r =>
    have e : r.foldl (fun b c => if f c < f b then c else b) a = c := Option.some.inj h
    obtain ⟨p, q, e1, h1, h2⟩ := fold_first f r a
    rw [e] at e1 h1 h2
    exact ⟨p, q, e1, h1, h2⟩
theorem first_none {f : List Nat → Nat} {l : List (List Nat)} : first f l = none ↔ l = [] := by
  cases l with
  | nil => exact ⟨fun _ => rfl, fun _ => rfl⟩
  | cons a r => exact ⟨(fun h => nomatch h), (fun h => nomatch h)⟩
theorem first_mem {f : List Nat → Nat} {l : List (List Nat)} {c : List Nat} (h : first f l = some c) : c ∈ l := by
  obtain ⟨p, q, e, _, _⟩ := first_split h
  rw [e]
  exact List.mem_append.mpr (.inr List.mem_cons_self)
theorem first_least {f : List Nat → Nat} {l : List (List Nat)} {c : List Nat} (h : first f l = some c) : ∀ x ∈ l, f c ≤ f x := by
  obtain ⟨p, q, e, h1, h2⟩ := first_split h
  intro x hx
  rw [e] at hx
  rcases List.mem_append.mp hx with k | k
  · exact Nat.le_of_lt (h1 x k)
  · rcases List.mem_cons.mp k with k | k
    · rw [k]
      exact Nat.le_refl _
    · exact h2 x k
/-- THE WAY TO SHOW IT: c is a cut, none is less, and what is as good isn't ahead of c -/
theorem first_is {f : List Nat → Nat} {size n m : Nat} {c : List Nat} (h : Cut size n m c) (g : ∀ x, Cut size n m x → f c ≤ f x) (k : ∀ x, Cut size n m x → f x = f c → ¬ Bef x c) : first f (cuts size n m) = some c := by
  cases e : first f (cuts size n m) with
  | none =>
    have q := mem_cuts.mpr h
    rw [first_none.mp e] at q
    cases q
  | some d =>
    have hd := mem_cuts.mp (first_mem e)
    have e1 := first_least e c (mem_cuts.mpr h)
    have e2 := g d hd
    rcases bef_tri hd h with q | q | q
    · rw [q]
    · exact absurd q (k d hd (by omega))
    · obtain ⟨p, r, e3, h1, h2⟩ := first_split e
      have pw := cuts_pw n size m
      have hc : c ∈ p ++ d :: r := by
        rw [← e3]
        exact mem_cuts.mpr h
      rw [e3] at pw
      rcases List.mem_append.mp hc with z | z
      · have := h1 c z
        omega
      · rcases List.mem_cons.mp z with z | z
        · rw [z]
        · have := List.rel_of_pairwise_cons ((List.pairwise_append.mp pw).2.1) z
          exact absurd q (bef_asym this)
/-- and what it says of what it gives -/
theorem first_bef {f : List Nat → Nat} {size n m : Nat} {c : List Nat} (h : first f (cuts size n m) = some c) : ∀ x, Cut size n m x → f x = f c → ¬ Bef x c := by
  intro x hx e b
  obtain ⟨p, r, e3, h1, h2⟩ := first_split h
  have hm := mem_cuts.mpr hx
  have pw := cuts_pw n size m
  rw [e3] at pw hm
  rcases List.mem_append.mp hm with z | z
  · have := h1 x z
    omega
  · rcases List.mem_cons.mp z with z | z
    · rw [z] at b
      exact bef_irr _ b
    · exact bef_asym b (List.rel_of_pairwise_cons ((List.pairwise_append.mp pw).2.1) z)
/-- there is a cut just if all fit -/
theorem cut_fits {size n m : Nat} {c : List Nat} (h : Cut size n m c) : m ≤ n * size := by
  have : ∀ c : List Nat, (∀ x ∈ c, x ≤ size) → c.sum ≤ c.length * size := by
    intro c
    induction c with
    | nil => intro _; exact Nat.zero_le _
    | cons x r ih =>
      intro h
      have h1 := ih fun y hy => h y (List.mem_cons_of_mem _ hy)
      have h2 := h x List.mem_cons_self
      rw [List.sum_cons, List.length_cons, Nat.succ_mul]
      omega
  have h1 := this c fun x hx => (h.one x hx).2
  rw [h.all] at h1
  exact Nat.le_trans h1 (Nat.mul_le_mul_right _ h.few)
theorem fits_cut {size : Nat} (hs : 1 ≤ size) : ∀ (n m : Nat), m ≤ n * size → ∃ c, Cut size n m c
  | 0, m, h => by
    rw [Nat.zero_mul] at h
    have e : m = 0 := by omega
    subst e
    exact ⟨[], cut_nil⟩
  | n + 1, m, h => by
    by_cases e : m = 0
    · subst e
      exact ⟨[], cut_nil⟩
    · rw [Nat.succ_mul] at h
      obtain ⟨c, hc⟩ := fits_cut hs n (m - min size m) (by omega)
      exact ⟨min size m :: c, cut_cons.mpr ⟨⟨by omega, by omega, by omega⟩, hc⟩⟩
theorem cuts_empty {size n m : Nat} (hs : 1 ≤ size) : cuts size n m = [] ↔ n * size < m := by
  constructor
  · intro h
    apply Nat.lt_of_not_le
    intro k
    obtain ⟨c, hc⟩ := fits_cut hs n m k
    have := mem_cuts.mpr hc
    rw [h] at this
    cases this
  · intro h
    cases e : cuts size n m with
    | nil => rfl
    | cons c r =>
      have hc : c ∈ cuts size n m := by
        rw [e]
        exact List.mem_cons_self
      have := cut_fits (mem_cuts.mp hc)
      omega
end Lk
namespace Lk
open Ks438
theorem foldl_max (a : Nat) : ∀ (l : List Nat) , l.foldl max a = max a (l.foldl max 0) := by
  intro l
  induction l generalizing a with
  | nil => simp
  | cons x r ih =>
    rw [List.foldl_cons, List.foldl_cons, ih (max a x), ih (max 0 x)]
    omega
theorem pieces_nil (s : List Nat) : pieces s [] = [] := by
  unfold pieces
  rfl
theorem pieces_cons (s : List Nat) (k : Nat) (r : List Nat) : pieces s (k :: r) = s.take k :: pieces (s.drop k) r := by
  rw [pieces]
theorem sum_nil (s : List Nat) : Ks438.sum s [] = 0 := by
  unfold Ks438.sum
  rw [pieces_nil]
  rfl
theorem sum_cons (s : List Nat) (k : Nat) (r : List Nat) : Ks438.sum s (k :: r) = spread (s.take k) + Ks438.sum (s.drop k) r := by
  unfold Ks438.sum
  rw [pieces_cons, List.map_cons, List.sum_cons]
theorem greatest_nil (s : List Nat) : greatest s [] = 0 := by
  unfold greatest
  rw [pieces_nil]
  rfl
theorem greatest_cons (s : List Nat) (k : Nat) (r : List Nat) : greatest s (k :: r) = max (spread (s.take k)) (greatest (s.drop k) r) := by
  unfold greatest
  rw [pieces_cons, List.map_cons, List.foldl_cons, foldl_max]
  omega
/-- within a row that rises: the last less the first -/
theorem fold_max_pw : ∀ (r : List Nat) (a : Nat), (a :: r).Pairwise (· ≤ ·) → r.foldl max a = (a :: r).getLast (List.cons_ne_nil _ _)
  | [], a, _ => rfl
  | b :: r, a, h => by
    rw [List.pairwise_cons] at h
    have e : max a b = b := Nat.max_eq_right (h.1 b List.mem_cons_self)
    rw [List.foldl_cons, e, fold_max_pw r b h.2]
    rfl
theorem fold_min_pw : ∀ (r : List Nat) (a : Nat), (∀ x ∈ r, a ≤ x) → r.foldl min a = a
  | [], a, _ => rfl
  | b :: r, a, h => by
    have e : min a b = a := Nat.min_eq_left (h b List.mem_cons_self)
    rw [List.foldl_cons, e, fold_min_pw r a fun x hx => h x (List.mem_cons_of_mem _ hx)]
theorem spread_pw {a : Nat} {r : List Nat} (h : (a :: r).Pairwise (· ≤ ·)) : spread (a :: r) = (a :: r).getLast (List.cons_ne_nil _ _) - a := by
  show r.foldl max a - r.foldl min a = _
  rw [fold_max_pw r a h, fold_min_pw r a (List.pairwise_cons.mp h).1]
/-- a piece from place i on, of k + 1 children -/
theorem spread_at {s : List Nat} (h : s.Pairwise (· ≤ ·)) {i k : Nat} (hk : i + k < s.length) : spread ((s.drop i).take (k + 1)) = s[i + k] - s[i] := by
  have e : (s.drop i).take (k + 1) = s[i] :: (s.drop (i + 1)).take k := by
    rw [List.drop_eq_getElem_cons (by omega : i < s.length), List.take_succ_cons]
  have pw : ((s.drop i).take (k + 1)).Pairwise (· ≤ ·) := (h.sublist (List.drop_sublist _ _)).sublist (List.take_sublist _ _)
  rw [e] at pw
  rw [e, spread_pw pw]
  have e2 : (s[i] :: (s.drop (i + 1)).take k).getLast (List.cons_ne_nil _ _) = s[i + k] := by
    rw [List.getLast_eq_getElem]
    have hl : (s[i] :: (s.drop (i + 1)).take k).length = k + 1 := by
      rw [List.length_cons, List.length_take, List.length_drop]
      omega
    apply Option.some.inj
    rw [← List.getElem?_eq_getElem, ← List.getElem?_eq_getElem, hl, Nat.add_sub_cancel, ← e, List.getElem?_take, if_pos (Nat.lt_succ_self k), List.getElem?_drop]
  rw [e2]
theorem best_none {n size : Nat} {l : List Nat} : best n size l = none ↔ cuts size n l.length = [] := first_none
theorem even_none {n size : Nat} {l : List Nat} : even n size l = none ↔ cuts size n l.length = [] := first_none
/-! ### how few -/
/-- that so many are enough -/
def Enough (size most : Nat) (l : List Nat) (n : Nat) : Prop := ∃ c, Cut size n l.length c ∧ greatest (sorted l) c ≤ most
theorem even_enough {size most n : Nat} {l : List Nat} : (match even n size l with
    | none => false
    | some c => decide (greatest (sorted l) c ≤ most)) = true ↔ Enough size most l n := by
  cases e : even n size l with
  | none =>
    refine ⟨(fun h => nomatch h), fun ⟨c, hc, _⟩ => ?_⟩
    have := mem_cuts.mpr hc
    rw [even_none.mp e] at this
    cases this
  | some c =>
    constructor
    · intro h
      exact ⟨c, mem_cuts.mp (first_mem e), of_decide_eq_true h⟩
    · rintro ⟨d, hd, hm⟩
      exact decide_eq_true (Nat.le_trans (first_least e d (mem_cuts.mpr hd)) hm)
theorem find_range {p : Nat → Bool} {k n : Nat} (hk : k < n) (h : p k = true) (g : ∀ j, j < k → p j = false) : (List.range n).find? p = some k := by
  have e : List.range n = List.range k ++ k :: (List.range' (k + 1) (n - k - 1)) := by
    have e1 : n = k + (1 + (n - k - 1)) := by omega
    have e2 : List.range' k (1 + (n - k - 1)) = k :: List.range' (k + 1) (n - k - 1) := by
      rw [Nat.add_comm 1, List.range'_succ]
    rw [← e2]
    conv => lhs; rw [e1]
    rw [List.range_eq_range', List.range_eq_range', ← List.range'_append]
    simp
  rw [e, List.find?_append, List.find?_eq_none.mpr, Option.none_or, List.find?_cons_of_pos h]
  intro x hx
  rw [g x (List.mem_range.mp hx)]
  exact Bool.false_ne_true
theorem few_is {size most k : Nat} {l : List Nat} (hk : k ≤ l.length) (h : Enough size most l k) (g : ∀ j, j < k → ¬ Enough size most l j) : few size most l = some k := by
  unfold few
  refine find_range (by omega) (even_enough.mpr h) fun j hj => ?_
  exact Bool.eq_false_iff.mpr fun q => g j hj (even_enough.mp q)
theorem greatest_ones : ∀ (k : Nat) (s : List Nat), greatest s (List.replicate k 1) = 0
  | 0, s => greatest_nil s
  | k + 1, s => by
    rw [List.replicate_succ, greatest_cons, greatest_ones k]
    cases s with
    | nil => rfl
    | cons x r =>
      show max (spread [x]) 0 = 0
      show max (x - x) 0 = 0
      omega
theorem enough_all {size most : Nat} (hs : 1 ≤ size) (l : List Nat) : Enough size most l l.length :=
  ⟨List.replicate l.length 1, ⟨by rw [List.length_replicate]; exact Nat.le_refl _, fun x hx => by rw [List.eq_of_mem_replicate hx]; exact ⟨Nat.le_refl _, hs⟩, by rw [List.sum_replicate_nat]; omega⟩, by rw [greatest_ones]; exact Nat.zero_le _⟩
/-! ### the first of the least, part by part (for a program that makes the ways one behind the other) -/
/-- of two, the earlier, where the later isn't less -/
def pick (f : List Nat → Nat) : Option (List Nat) → Option (List Nat) → Option (List Nat)
  | none, b => b
  | a, none => a
  | some a, some b => if f b < f a then some b else some a
theorem pick_pick (f : List Nat → Nat) (a c : List Nat) : ∀ x : Option (List Nat), pick f (some (if f c < f a then c else a)) x = pick f (some a) (pick f (some c) x)
  | none => by
    show some (if f c < f a then c else a) = if f c < f a then some c else some a
    by_cases h : f c < f a
    · rw [if_pos h, if_pos h]
    · rw [if_neg h, if_neg h]
  | some d => by
    show (if f d < f (if f c < f a then c else a) then some d else some (if f c < f a then c else a)) = pick f (some a) (if f d < f c then some d else some c)
    by_cases h : f c < f a
    · rw [if_pos h]
      by_cases q : f d < f c
      · rw [if_pos q]
        show some d = if f d < f a then some d else some a
        rw [if_pos (by omega)]
      · rw [if_neg q]
        show some c = if f c < f a then some c else some a
        rw [if_pos h]
    · rw [if_neg h]
      by_cases q : f d < f c
      · rw [if_pos q]
        rfl
      · rw [if_neg q, if_neg (by omega)]
        show some a = if f c < f a then some c else some a
        rw [if_neg h]
theorem fold_pick (f : List Nat → Nat) : ∀ (r : List (List Nat)) (a : List Nat), some (r.foldl (fun b c => if f c < f b then c else b) a) = pick f (some a) (first f r)
  | [], a => rfl
  | c :: r, a => by
    rw [List.foldl_cons, fold_pick f r, pick_pick]
    show pick f (some a) (pick f (some c) (first f r)) = pick f (some a) (some (r.foldl (fun b c => if f c < f b then c else b) c))
    rw [fold_pick f r c]
theorem first_append (f : List Nat → Nat) (a b : List (List Nat)) : first f (a ++ b) = pick f (first f a) (first f b) := by
  cases a with
  | nil => rfl
  | cons x r =>
    show some ((r ++ b).foldl _ x) = pick f (some (r.foldl _ x)) (first f b)
    rw [List.foldl_append]
    exact fold_pick f b _
theorem first_map {f g : List Nat → Nat} (h : List Nat → List Nat) (hm : ∀ x y, f (h x) < f (h y) ↔ g x < g y) (l : List (List Nat)) : first f (l.map h) = (first g l).map h := by
  cases l with
  | nil => rfl
  | cons a r =>
    show some ((r.map h).foldl _ (h a)) = some (h (r.foldl _ a))
    congr 1
    induction r generalizing a with
    | nil => rfl
    | cons b r ih =>
      rw [List.map_cons, List.foldl_cons, List.foldl_cons]
      by_cases c : g b < g a
      · rw [if_pos c, if_pos ((hm b a).mpr c)]
        exact ih b
      · rw [if_neg c, if_neg fun q => c ((hm b a).mp q)]
        exact ih a
end Lk
namespace Lk
open Ks438
/-! ### the cuts, made by a stack of begun ones -/
/-- all cuts that begin so -/
def goOn (size n m : Nat) (p : List Nat) : List (List Nat) := (cuts size (n - p.length) (m - p.sum)).map fun r => p ++ r
theorem goOn_nil (size n m : Nat) : goOn size n m [] = cuts size n m := by
  unfold goOn
  simp
theorem goOn_done {size n m : Nat} {p : List Nat} (h : m - p.sum = 0) : goOn size n m p = [p] := by
  unfold goOn
  rw [h, cuts_zero]
  simp
theorem goOn_full {size n m : Nat} {p : List Nat} (h : m - p.sum ≠ 0) (k : n ≤ p.length) : goOn size n m p = [] := by
  unfold goOn
  have e : n - p.length = 0 := by omega
  rw [e, cuts_none h]
  rfl
theorem goOn_more {size n m : Nat} {p : List Nat} (h : m - p.sum ≠ 0) (k : p.length < n) : goOn size n m p = (List.range (min size (m - p.sum))).flatMap fun i => goOn size n m (p ++ [i + 1]) := by
  unfold goOn
  have e : n - p.length = (n - p.length - 1) + 1 := by omega
  rw [e, cuts_succ h, List.map_flatMap]
  congr 1
  funext i
  rw [List.map_map]
  have e1 : n - (p ++ [i + 1]).length = n - p.length - 1 := by
    rw [List.length_append, List.length_singleton]
    omega
  have e2 : m - (p ++ [i + 1]).sum = m - p.sum - (i + 1) := by
    rw [List.sum_append, List.sum_singleton]
    omega
  rw [e1, e2]
  congr 1
  funext r
  simp
/-- what is put in, from the longest on: j of them -/
def putIn (p : List Nat) (L : Nat) (j : Nat) : List (List Nat) := (List.range j).map fun t => p ++ [L - t]
theorem putIn_succ (p : List Nat) (L j : Nat) : putIn p L (j + 1) = putIn p L j ++ [p ++ [L - j]] := by
  unfold putIn
  rw [List.range_succ, List.map_append]
  rfl
theorem putIn_rev (p : List Nat) (L : Nat) : (putIn p L L).reverse = (List.range L).map fun i => p ++ [i + 1] := by
  unfold putIn
  apply List.ext_getElem
  · simp
  · intro i h1 h2
    simp only [List.length_reverse, List.length_map, List.length_range] at h1
    rw [List.getElem_reverse]
    simp only [List.getElem_map, List.getElem_range, List.length_map, List.length_range]
    congr 2
    omega
/-- what is left to do of one -/
def weight (m : Nat) (p : List Nat) : Nat := 2 ^ (m - p.sum)
def weights (m : Nat) (b : List (List Nat)) : Nat := (b.map (weight m)).sum
theorem weights_app (m : Nat) (a b : List (List Nat)) : weights m (a ++ b) = weights m a + weights m b := by
  unfold weights
  rw [List.map_append, List.sum_append]
theorem weights_one (m : Nat) (p : List Nat) : weights m [p] = weight m p := by
  unfold weights
  simp
theorem weight_pos (m : Nat) (p : List Nat) : 1 ≤ weight m p := Nat.one_le_two_pow
theorem weights_len (m : Nat) : ∀ b : List (List Nat), b.length ≤ weights m b
  | [] => Nat.zero_le _
  | p :: b => by
    have h1 := weights_len m b
    have h2 := weight_pos m p
    have e : weights m (p :: b) = weight m p + weights m b := by
      unfold weights
      rw [List.map_cons, List.sum_cons]
    rw [e, List.length_cons]
    omega
/-- those put in weigh less than what they go on from -/
theorem putIn_weight {m : Nat} {p : List Nat} {L : Nat} (h : L ≤ m - p.sum) : ∀ j, j ≤ L → weights m (putIn p L j) + 2 ^ (m - p.sum - L) ≤ 2 ^ (m - p.sum - L + j)
  | 0, _ => by
    show 0 + _ ≤ _
    rw [Nat.zero_add, Nat.add_zero]
    exact Nat.le_refl _
  | j + 1, hj => by
    have ih := putIn_weight h j (by omega)
    rw [putIn_succ, weights_app, weights_one]
    have e : weight m (p ++ [L - j]) = 2 ^ (m - p.sum - L + j) := by
      unfold weight
      congr 1
      rw [List.sum_append, List.sum_singleton]
      omega
    rw [e, ← Nat.add_assoc, Nat.pow_succ]
    omega
theorem putIn_less {m : Nat} {p : List Nat} {L : Nat} (h : L ≤ m - p.sum) : weights m (putIn p L L) < weight m p := by
  have h1 := putIn_weight h L (Nat.le_refl _)
  have e : m - p.sum - L + L = m - p.sum := by omega
  rw [e] at h1
  have h2 : 1 ≤ 2 ^ (m - p.sum - L) := Nat.one_le_two_pow
  unfold weight
  omega
theorem putIn_len (p : List Nat) (L j : Nat) : (putIn p L j).length = j := by
  unfold putIn
  rw [List.length_map, List.length_range]
/-- how it stands: those made, and those begun (the next one last) -/
structure Stk (size n m : Nat) (made begun : List (List Nat)) : Prop where
  all : made ++ begun.reverse.flatMap (goOn size n m) = cuts size n m
  few : made.length + weights m begun ≤ 2 ^ m
  len : ∀ p ∈ begun, p.length ≤ n
  sum : ∀ p ∈ begun, p.sum ≤ m
theorem stk_start (size n m : Nat) : Stk size n m [] [[]] := by
  refine ⟨?_, ?_, fun p hp => ?_, fun p hp => ?_⟩
  · simp [goOn_nil]
  · rw [weights_one]
    show 0 + 2 ^ (m - 0) ≤ 2 ^ m
    simp
  · rw [List.mem_singleton.mp hp]
    exact Nat.zero_le _
  · rw [List.mem_singleton.mp hp]
    exact Nat.zero_le _
theorem stk_made {size n m : Nat} {made begun : List (List Nat)} {p : List Nat} (h : Stk size n m made (begun ++ [p])) (e : m - p.sum = 0) : Stk size n m (made ++ [p]) begun := by
  refine ⟨?_, ?_, fun q hq => h.len q (List.mem_append_left _ hq), fun q hq => h.sum q (List.mem_append_left _ hq)⟩
  · have a := h.all
    rw [List.reverse_append, List.reverse_singleton, List.singleton_append, List.flatMap_cons, goOn_done e, ← List.append_assoc] at a
    exact a
  · have f := h.few
    rw [weights_app, weights_one] at f
    have := weight_pos m p
    rw [List.length_append, List.length_singleton]
    omega
theorem stk_full {size n m : Nat} {made begun : List (List Nat)} {p : List Nat} (h : Stk size n m made (begun ++ [p])) (e : m - p.sum ≠ 0) (k : n ≤ p.length) : Stk size n m made begun := by
  refine ⟨?_, ?_, fun q hq => h.len q (List.mem_append_left _ hq), fun q hq => h.sum q (List.mem_append_left _ hq)⟩
  · have a := h.all
    rw [List.reverse_append, List.reverse_singleton, List.singleton_append, List.flatMap_cons, goOn_full e k, List.nil_append] at a
    exact a
  · have f := h.few
    rw [weights_app, weights_one] at f
    omega
theorem stk_more {size n m : Nat} {made begun : List (List Nat)} {p : List Nat} (h : Stk size n m made (begun ++ [p])) (e : m - p.sum ≠ 0) (k : p.length < n) : Stk size n m made (begun ++ putIn p (min size (m - p.sum)) (min size (m - p.sum))) := by
  have hp : p ∈ begun ++ [p] := List.mem_append_right _ List.mem_cons_self
  have s1 := h.sum p hp
  have mem : ∀ q ∈ putIn p (min size (m - p.sum)) (min size (m - p.sum)), q.length ≤ n ∧ q.sum ≤ m := by
    intro q hq
    unfold putIn at hq
    obtain ⟨t, ht, rfl⟩ := List.mem_map.mp hq
    have := List.mem_range.mp ht
    rw [List.length_append, List.length_singleton, List.sum_append, List.sum_singleton]
    omega
  refine ⟨?_, ?_, fun q hq => ?_, fun q hq => ?_⟩
  · have a := h.all
    rw [List.reverse_append, List.reverse_singleton, List.singleton_append, List.flatMap_cons, goOn_more e k] at a
    rw [List.reverse_append, List.flatMap_append, putIn_rev, List.flatMap_map]
    exact a
  · have f := h.few
    rw [weights_app, weights_one] at f
    have := putIn_less (p := p) (m := m) (L := min size (m - p.sum)) (Nat.min_le_right _ _)
    rw [weights_app]
    omega
  · rcases List.mem_append.mp hq with z | z
    · exact h.len q (List.mem_append_left _ z)
    · exact (mem q z).1
  · rcases List.mem_append.mp hq with z | z
    · exact h.sum q (List.mem_append_left _ z)
    · exact (mem q z).2
theorem stk_end {size n m : Nat} {made : List (List Nat)} (h : Stk size n m made []) : made = cuts size n m := by
  have a := h.all
  simpa using a
/-! ### the pieces' spreads -/
theorem pieces_at : ∀ {s c : List Nat} {i x : Nat}, c[i]? = some x → (pieces s c)[i]? = some ((s.drop (c.take i).sum).take x)
  | s, [], i, x, h => by
    cases h
  | s, y :: r, 0, x, h => by
    have e : y = x := Option.some.inj h
    rw [pieces_cons, e]
    rfl
  | s, y :: r, i + 1, x, h => by
    have h' : r[i]? = some x := h
    rw [pieces_cons, List.getElem?_cons_succ, pieces_at h', List.take_succ_cons, List.sum_cons, List.drop_drop]
theorem pieces_len : ∀ (s c : List Nat), (pieces s c).length = c.length
  | s, [] => by
    rw [pieces_nil]
    rfl
  | s, y :: r => by
    rw [pieces_cons, List.length_cons, pieces_len, List.length_cons]
/-- the spreads of the pieces -/
def spreads (s c : List Nat) : List Nat := (pieces s c).map spread
theorem spreads_len (s c : List Nat) : (spreads s c).length = c.length := by
  unfold spreads
  rw [List.length_map, pieces_len]
theorem spreads_more {s c : List Nat} {i x : Nat} (h : c[i]? = some x) : (spreads s c).take (i + 1) = (spreads s c).take i ++ [spread ((s.drop (c.take i).sum).take x)] := by
  unfold spreads
  rw [List.take_add_one, List.getElem?_map, pieces_at h]
  rfl
theorem sum_take {c : List Nat} {i x : Nat} (h : c[i]? = some x) : (c.take (i + 1)).sum = (c.take i).sum + x := by
  rw [List.take_add_one, h, List.sum_append]
  show _ + [x].sum = _
  rw [List.sum_singleton]
theorem sum_take_le (c : List Nat) (i : Nat) : (c.take i).sum ≤ c.sum := by
  have : c.sum = (c.take i).sum + (c.drop i).sum := by
    rw [← List.sum_append, List.take_append_drop]
  omega
/-! ### the first of the least, by its place -/
theorem first_at {f : List Nat → Nat} {l : List (List Nat)} {j : Nat} {c : List Nat} (h : l[j]? = some c) (g : ∀ x ∈ l, f c ≤ f x) (k : ∀ (i : Nat) (x : List Nat), i < j → l[i]? = some x → f x ≠ f c) : first f l = some c := by
  cases e : first f l with
  | none =>
    rw [first_none.mp e] at h
    cases h
  | some d =>
    obtain ⟨p, q, e1, h1, h2⟩ := first_split e
    have hc := List.mem_of_getElem? h
    have hd := first_mem e
    have l1 := first_least e c hc
    have l2 := g d hd
    have ed : l[p.length]? = some d := by
      rw [e1, List.getElem?_append_right (Nat.le_refl _), Nat.sub_self]
      rfl
    rcases Nat.lt_trichotomy j p.length with z | z | z
    · have hm : c ∈ p := by
        rw [e1, List.getElem?_append_left z] at h
        exact List.mem_of_getElem? h
      have := h1 c hm
      omega
    · rw [z, ed] at h
      rw [h]
    · exact absurd (by omega) (k _ d z ed)
end Lk
namespace Lk
open Ks438
/-- what best and even answer: by what is to be least -/
def cutM (f : List Nat → Nat) (n z : Nat) (l : List Nat) : List Int :=
  if (countsM n z && levelsM l) = true then
    match first f (cuts z n l.length) with
    | none => [-33]
    | some c => Int.ofNat (f c) :: Int.ofNat c.length :: toI c
  else [-22]
theorem given_yes {n z : Nat} {l : List Nat} (f : Unit → Ans) (c : (countsM n z && levelsM l) = true) : given z l (okN n) f = f () := by
  have c' : (okN n && decide (1 ≤ z) && decide (z ≤ CHILDREN) && decide (l.length ≤ CHILDREN) && l.all (fun v => decide (v ≤ 1000))) = true := by
    unfold countsM levelsM at c
    unfold okN CHILDREN
    simp only [Bool.and_eq_true, decide_eq_true_eq] at c ⊢
    exact ⟨⟨⟨c.1.1, c.1.2.1⟩, c.1.2.2⟩, c.2.1⟩ |> fun h => ⟨h, c.2.2⟩
  unfold given
  rw [if_pos c']
theorem given_no {n z : Nat} {l : List Nat} (f : Unit → Ans) (c : ¬ (countsM n z && levelsM l) = true) : given z l (okN n) f = no (-22) := by
  have c' : ¬ (okN n && decide (1 ≤ z) && decide (z ≤ CHILDREN) && decide (l.length ≤ CHILDREN) && l.all (fun v => decide (v ≤ 1000))) = true := by
    intro h
    apply c
    unfold okN CHILDREN at h
    unfold countsM levelsM
    simp only [Bool.and_eq_true, decide_eq_true_eq] at h ⊢
    exact ⟨⟨h.1.1.1.1, h.1.1.1.2, h.1.1.2⟩, h.1.2, h.2⟩
  unfold given
  rw [if_neg c']
theorem call_best (n s : Nat) (l : List Nat) : PyKs438.best (Int.ofNat n) (Int.ofNat s) (toI l) = Ks438Neutral.out (answer (.best n s l)) := by
  show Ks438Neutral.out (answer (.best n s (Ks438Neutral.nats (toI l)))) = _
  rw [nats_toI]
theorem call_even (n s : Nat) (l : List Nat) : PyKs438.even (Int.ofNat n) (Int.ofNat s) (toI l) = Ks438Neutral.out (answer (.even n s l)) := by
  show Ks438Neutral.out (answer (.even n s (Ks438Neutral.nats (toI l)))) = _
  rw [nats_toI]
theorem best_eq (n s : Nat) (l : List Nat) : PyKs438.best (Int.ofNat n) (Int.ofNat s) (toI l) = cutM (Ks438.sum (sorted l)) n s l := by
  rw [call_best]
  unfold cutM answer
  by_cases c : (countsM n s && levelsM l) = true
  · rw [if_pos c]
    dsimp only
    rw [given_yes _ c]
    unfold best
    cases first (Ks438.sum (sorted l)) (cuts s n l.length) <;> rfl
  · rw [if_neg c]
    dsimp only
    rw [given_no _ c]
    rfl
theorem even_eq (n s : Nat) (l : List Nat) : PyKs438.even (Int.ofNat n) (Int.ofNat s) (toI l) = cutM (greatest (sorted l)) n s l := by
  rw [call_even]
  unfold cutM answer
  by_cases c : (countsM n s && levelsM l) = true
  · rw [if_pos c]
    dsimp only
    rw [given_yes _ c]
    unfold even
    cases first (greatest (sorted l)) (cuts s n l.length) <;> rfl
  · rw [if_neg c]
    dsimp only
    rw [given_no _ c]
    rfl
theorem cutM_none {f : List Nat → Nat} {n z : Nat} {l : List Nat} (c : (countsM n z && levelsM l) = true) (h : n * z < l.length) : cutM f n z l = [-33] := by
  have hz : 1 ≤ z := by
    unfold countsM at c
    simp only [Bool.and_eq_true, decide_eq_true_eq] at c
    exact c.1.2.1
  unfold cutM
  rw [if_pos c, (cuts_empty hz).mpr h]
  rfl
theorem cutM_some {f : List Nat → Nat} {n z : Nat} {l c : List Nat} (h : (countsM n z && levelsM l) = true) (e : first f (cuts z n l.length) = some c) : cutM f n z l = Int.ofNat (f c) :: Int.ofNat c.length :: toI c := by
  unfold cutM
  rw [if_pos h, e]
theorem sum_spreads (s c : List Nat) : (spreads s c).sum = Ks438.sum s c := rfl
theorem max_spreads (s c : List Nat) : (spreads s c).foldl max 0 = greatest s c := rfl
end Lk
namespace Lk
open Ks438
/-! what the new small functions answer -/
def sizeM (z : Nat) : Bool := decide (1 ≤ z) && decide (z ≤ 9)
theorem countsM_eq (n z : Nat) : countsM n z = ((decide (1 ≤ n) && decide (n ≤ 9)) && sizeM z) := rfl
/-- what refusal_of_pieces answers -/
def refM (n z : Nat) (l : List Nat) : Int := if (countsM n z && levelsM l) = true then (if n * z < l.length then -33 else 0) else -22
theorem refM_neg {n z : Nat} {l : List Nat} {f : List Nat → Nat} (h : refM n z l < 0) : cutM f n z l = [refM n z l] := by
  unfold refM at h ⊢
  by_cases c : (countsM n z && levelsM l) = true
  · rw [if_pos c] at h ⊢
    by_cases d : n * z < l.length
    · rw [if_pos d]
      exact cutM_none c d
    · rw [if_neg d] at h
      omega
  · rw [if_neg c]
    unfold cutM
    rw [if_neg c]
theorem refM_not {n z : Nat} {l : List Nat} (h : ¬ refM n z l < 0) : (countsM n z && levelsM l) = true ∧ l.length ≤ n * z := by
  unfold refM at h
  by_cases c : (countsM n z && levelsM l) = true
  · rw [if_pos c] at h
    by_cases d : n * z < l.length
    · rw [if_pos d] at h
      omega
    · exact ⟨c, Nat.le_of_not_lt d⟩
  · rw [if_neg c] at h
    omega
theorem sorted_toI {l : List Nat} {r : List Int} (p : r.Perm (toI l)) (h : r.Pairwise (· ≤ ·)) : r = toI (Ks438.sorted l) := by
  have e : r = toI (r.map Int.toNat) := by
    unfold toI
    rw [List.map_map]
    refine (List.map_id r).symm.trans (List.map_congr_left fun x hx => ?_)
    obtain ⟨y, _, rfl⟩ := mem_toI (p.mem_iff.mp hx)
    rfl
  have p2 : (r.map Int.toNat).Perm l := by
    have t := p.map Int.toNat
    have n : (toI l).map Int.toNat = l := nats_toI l
    rw [n] at t
    exact t
  have h2 : (r.map Int.toNat).Pairwise (· ≤ ·) := by
    rw [List.pairwise_map]
    exact h.imp fun t => Int.toNat_le_toNat t
  rw [← sorted_uniq p2 h2]
  exact e
end Lk
namespace Lk
open PySem PySem.Spec PyProof.Rows L2
/-- whole numbers from 0 on, as values -/
abbrev vN (l : List Nat) : List V := (toI l).map V.int
theorem same_upd {H : Hp} {p : Addr} {o : HO} (h : H p = none) : Same H (upd H p o) := fun b x e => by
  rw [upd_ne (ne_of_none e h)]
  exact e
/-- a change at what was not tracked before -/
theorem same_over {H0 H : Hp} {p : Addr} {o : HO} (s : Same H0 H) (h : H0 p = none) : Same H0 (upd H p o) := fun b x e => by
  rw [upd_ne (ne_of_none e h)]
  exact s _ _ e
theorem vN_at {l : List Nat} {i : Nat} {x : V} (h : (vN l)[i]? = some x) : ∃ z, l[i]? = some z ∧ x = .int (Int.ofNat z) := by
  rw [List.getElem?_map, List.getElem?_map] at h
  cases e : l[i]? with
  | none =>
    rw [e] at h
    cases h
  | some z =>
    rw [e] at h
    exact ⟨z, rfl, (Option.some.inj h).symm⟩
theorem vN_len (l : List Nat) : (vN l).length = l.length := by
  rw [List.length_map, List.length_map]
/-- a comprehension over a list whose step leaves all that is tracked as it is -/
theorem lc_keep {K : PySem.W.Frag} {a : Addr} {xs ys : List V} {i : Nat} {te : TE} {σ : L2.St} {H1 : Hp} {D : Addr} {Qd : Hp → Prop} (hD : H1 D = none) (hS : SqL K H1 a xs) (hl : ys.length = xs.length) (hz : xs.length ≤ 1000)
    (step : ∀ (j : Nat) (x y : V) (H : Hp) (Q : VK), xs[j]? = some x → ys[j]? = some y → Same H1 H → (∀ H', Same H H' → Q y H') → te ((σ.set i none).set i (some x)) H Q)
    (done : ∀ H, Same H1 H → H D = some (.lst ys) → Qd H) :
    ∃ W : Nat → Nat → Hp → Prop, (∃ m, W 0 m (upd H1 D (.lst []))) ∧ ∀ i' m H, W i' m H →
      ((Itl K a).stop i' H ∧ Qd H) ∨ ((Itl K a).go i' H ∧ ∃ Nx : Hp → Prop, (∀ H', Nx H' → ∃ m', m' < m ∧ W (i' + 1) m' H') ∧ ∀ x H', (Itl K a).yld i' H x H' → gName i x (wipe σ [i]) H' fun σ2 H2 => wipe σ2 [i] = wipe σ [i] ∧ tYes σ2 H2 fun b H3 =>
        if b = true then te σ2 H3 fun y H4 => ∃ acc, H4 D = some (.lst acc) ∧ acc.length < sizeLine ∧ Nx (upd H4 D (.lst (acc ++ [y]))) else Nx H3) := by
  refine lc_list (xs := xs) (fun j H => Same H1 H ∧ H D = some (.lst (ys.take j))) ⟨same_upd hD, upd_same⟩ (fun j H _ h => h.1.seq hS) (fun j x H hx h => ?_) (fun H h => done H h.1 ?_)
  · have hj : j < xs.length := (List.getElem?_eq_some_iff.mp hx).1
    have hy : ys[j]? = some ys[j] := List.getElem?_eq_getElem (by omega)
    refine ⟨?_, ?_⟩
    · show ((σ.set i none).set i (some x)).set i none = σ.set i none
      rw [List.set_set, List.set_set]
    · show te ((σ.set i none).set i (some x)) H _
      refine step j x _ H _ hx hy h.1 fun H' sm => ⟨ys.take j, sm _ _ h.2, ?_, ?_, ?_⟩
      · rw [List.length_take]
        exact Nat.lt_of_le_of_lt (Nat.min_le_left _ _) (small1000 (by omega))
      · exact same_over (h.1.trans sm) hD
      · rw [upd_same, List.take_add_one, hy]
        rfl
  · rw [← hl, List.take_length] at h
    exact h.2
/-- rows: a list of lists of whole numbers, each at its own place -/
def Rows (H : Hp) (ps : List Addr) (ls : List (List Nat)) : Prop := ps.length = ls.length ∧ ∀ (k : Nat) (p : Addr) (l : List Nat), ps[k]? = some p → ls[k]? = some l → H p = some (.lst (vN l))
theorem Rows.same {H H' : Hp} {ps : List Addr} {ls : List (List Nat)} (h : Rows H ps ls) (s : Same H H') : Rows H' ps ls := ⟨h.1, fun k p l e f => s _ _ (h.2 k p l e f)⟩
end Lk
namespace Lk
open PySem PySem.Spec PyProof.Rows L2
open PySem.W (Codec)
def top (i : Nat) : Stmt := PySem.Challenge.pw_levelgroups_s01_looks.main.body.getD i (.Pass ⟨0, 0, 0, 0⟩)
abbrev sLooks : Stmt := top 5
abbrev sCounts : Stmt := top 6
abbrev sSize : Stmt := top 7
abbrev sLevels : Stmt := top 8
abbrev sGroups : Stmt := top 9
abbrev sBy : Stmt := top 10
abbrev sSpread : Stmt := top 11
end Lk
namespace Lk
open PySem PySem.Spec PyProof.Rows L2
open PySem.W (Codec)
theorem scZ : FnScope ["size"] ["size"] (defScope sSize) := ⟨rfl, rfl, rfl, by decide +kernel, rfl, by decide +kernel, by decide +kernel⟩
theorem scL : FnScope ["levels", "level"] ["levels"] (defScope sLevels) := ⟨rfl, rfl, rfl, by decide +kernel, rfl, by decide +kernel, by decide +kernel⟩
/-- what the top has written, and that Python's own names are still Python's own -/
structure Txt (mg : Str → Option Value) : Prop where
  chi : ∃ t, mg "MOST_CHILDREN" = some (.int 9 t)
  lev : ∃ t, mg "MOST_LEVEL" = some (.int 1000 t)
  siz : ∃ t, mg "MOST_SIZE" = some (.int 9 t)
  len : mg "len" = none
  all : mg "all" = none
  any : mg "any" = none
  sum : mg "sum" = none
  max : mg "max" = none
  min : mg "min" = none
  range : mg "range" = none
  zip : mg "zip" = none
  sorted : mg "sorted" = none
theorem ifT {c : Bool} {A B : Prop} (hc : c = true) (h : A) : if c = true then A else B := by
  rw [if_pos hc]
  exact h
theorem ifF {c : Bool} {A B : Prop} (hc : c = false) (h : B) : if c = true then A else B := by
  rw [hc, if_neg Bool.false_ne_true]
  exact h
def rLn (K : PySem.W.Frag) : List V → Hp → VK → Prop := fun xs H Q => ∃ p ys, xs = [.ref p] ∧ (SqL K H p ys ∨ SqT K H p ys) ∧ Q (.int ys.length) H
theorem rows_at {H : Hp} {ps : List Addr} {rows : List (List Nat)} (R : Rows H ps rows) {j : Nat} {x : V} (h : (ps.map V.ref)[j]? = some x) : ∃ p r, x = .ref p ∧ rows[j]? = some r ∧ H p = some (.lst (vN r)) := by
  rw [List.getElem?_map] at h
  cases e : ps[j]? with
  | none =>
    rw [e] at h
    cases h
  | some p =>
    rw [e] at h
    have hj : j < rows.length := by
      rw [← R.1]
      exact (List.getElem?_eq_some_iff.mp e).1
    have hr := List.getElem?_eq_getElem hj
    exact ⟨p, _, (Option.some.inj h).symm, hr, R.2 j p _ e hr⟩
section
variable {P : Program} {w : World} {K : PySem.W.Frag} {mg : Str → Option Value} {base : Heap}
/-! size_is_right -/
def spSize : Sp := fun us H Q _ => ∃ z : Nat, us = [.int (Int.ofNat z)] ∧ Q (.bl (sizeM z)) H
theorem ok_size {f : Addr} {fd : FuncData} {k : Nat} (F : Fun K "size_is_right" "size_is_right" sSize f fd) (T : Txt mg) : FnOk P w K mg base CX0 (k + 1) f fd ["size"] spSize := by
  obtain ⟨t2, g2⟩ := T.siz
  refine F.ok scZ (fun us H Q E h => ?_) (fun cdv A outer s H us Q E hr h => ?_)
  · obtain ⟨z, rfl, _⟩ := h
    rfl
  · obtain ⟨z, rfl, q⟩ := h
    refine ⟨_, pss_one (ps_ret (pe_chain op_le op_le pe_int (pv 0) (pe_glob (v := V.int 9) rfl g2 ⟨_, rfl⟩))), ?_⟩
    have e3 : decide ((1 : Int) ≤ Int.ofNat z) = decide (1 ≤ z) := decide_eq_decide.mpr Int.ofNat_le
    have e4 : decide (Int.ofNat z ≤ (9 : Int)) = decide (z ≤ 9) := decide_eq_decide.mpr Int.ofNat_le
    unfold sizeM at q
    rw [← e3, ← e4] at q
    refine ⟨_, rfl, _, _, rfl, rfl, _, rfl, ite2 (fun c3 => ?_) (fun c3 => ?_)⟩
    · rw [c3, Bool.true_and] at q
      exact ⟨_, _, rfl, rfl, q⟩
    · rw [Bool.eq_false_iff.mpr c3, Bool.false_and] at q
      exact q
/-! levels_are_right -/
def spLevels (K : PySem.W.Frag) : Sp := fun us H Q _ => ∃ (a : Addr) (l : List Nat), us = [.ref a] ∧ SqL K H a (vN l) ∧ l.length ≤ 15 ∧ ∀ H', Same H H' → Q (.bl (levelsM l)) H'
theorem all_bl (l : List Nat) (p : Nat → Bool) : (l.map p).all id = l.all p := by
  rw [List.all_map]
  rfl
theorem bl_at {l : List Nat} {p : Nat → Bool} {j : Nat} {z : Nat} {y : V} (h : l[j]? = some z) (g : ((l.map p).map V.bl)[j]? = some y) : y = .bl (p z) := by
  rw [List.getElem?_map, List.getElem?_map, h] at g
  exact (Option.some.inj g).symm
theorem ok_levels {f : Addr} {fd : FuncData} {k : Nat} (F : Fun K "levels_are_right" "levels_are_right" sLevels f fd) (T : Txt mg) : FnOk P w K mg base CX0 (k + 1) f fd ["levels"] (spLevels K) := by
  obtain ⟨t1, g1⟩ := T.chi
  obtain ⟨t2, g2⟩ := T.lev
  refine F.ok scL (fun us H Q E h => ?_) (fun cdv A outer s H us Q E hr h => ?_)
  · obtain ⟨a, l, rfl, _⟩ := h
    rfl
  · obtain ⟨a, l, rfl, hS, hlen, q⟩ := h
    refine ⟨_, pss_one (ps_ret (pe_and (pe_cmpR op_le (pe_callB call_len_seq (by rfl) T.len PySem.boot_len (pa_cons (pv 0) pa_nil)) (pe_glob (v := V.int 9) rfl g1 ⟨_, rfl⟩) (nomark _))
      (pe_one (pe_callB (cr_all rfl) (by rfl) T.all (by decide +kernel) (pa_cons (pe_lc (own := [("level", 1)]) (g := gName 1) (tt := tYes) rfl scL.nd (pi_list (pv 0)) (blkOk_by (N := ["levels", "level"]) (sc := defScope sLevels) (by decide +kernel))
        (fun _ _ _ _ _ => pg_name (i := 1) scL.nd rfl (Or.inl rfl)) (fun _ _ _ _ _ => pts_nil) (fun _ _ _ _ _ => pe_cmpR op_le (pv 1) (pe_glob (v := V.int 1000) rfl g2 ⟨_, rfl⟩) (nomark _))) pa_nil))))), ?_⟩
    have e1 : decide ((((vN l).length : Nat) : Int) ≤ (9 : Int)) = decide (l.length ≤ 9) := by
      rw [vN_len]
      exact decide_eq_decide.mpr Int.ofNat_le
    unfold levelsM at q
    rw [← e1] at q
    refine ⟨_, rfl, a, _, rfl, .inl hS, _, _, rfl, rfl, _, rfl, ite2 (fun c => ?_) (fun c => ?_)⟩
    · rw [c, Bool.true_and] at q
      refine ⟨_, rfl, a, rfl, ⟨_, hS⟩, fun D hD => lc_keep (xs := vN l) (ys := (l.map fun x => decide (x ≤ 1000)).map V.bl) hD hS ?_ ?_ (fun j x y H1 Q1 hx hy sm g => ?_) (fun H1 sm hL => ?_)⟩
      · rw [vN_len, List.length_map, List.length_map]
      · rw [vN_len]
        omega
      · obtain ⟨z, hz, rfl⟩ := vN_at hx
        refine ⟨_, rfl, _, _, rfl, rfl, ?_⟩
        rw [bl_at hz hy] at g
        have e : decide (Int.ofNat z ≤ (1000 : Int)) = decide (z ≤ 1000) := decide_eq_decide.mpr Int.ofNat_le
        show Q1 (.bl (decide (Int.ofNat z ≤ (1000 : Int)))) H1
        rw [e]
        exact g _ (Same.refl _)
      · refine ⟨D, _, rfl, SqL.of hL, ?_⟩
        rw [all_bl]
        exact q _ sm
    · rw [Bool.eq_false_iff.mpr c, Bool.false_and] at q
      exact q _ (Same.refl _)
end
end Lk
namespace Lk
open PySem PySem.Spec PyProof.Rows L2
open PySem.W (Codec)
theorem scC : FnScope ["n", "size"] ["n", "size"] (defScope sCounts) := ⟨rfl, rfl, rfl, by decide +kernel, rfl, by decide +kernel, by decide +kernel⟩
theorem scS : FnScope ["members"] ["members"] (defScope sSpread) := ⟨rfl, rfl, rfl, by decide +kernel, rfl, by decide +kernel, by decide +kernel⟩
section
variable {P : Program} {w : World} {K : PySem.W.Frag} {mg : Str → Option Value} {base : Heap}
/-! counts_are_right -/
def spCounts : Sp := fun us H Q _ => ∃ n s : Nat, us = [.int (Int.ofNat n), .int (Int.ofNat s)] ∧ Q (.bl (countsM n s)) H
theorem ok_counts {f fZ : Addr} {fd dZ : FuncData} {k : Nat} (F : Fun K "counts_are_right" "counts_are_right" sCounts f fd) (T : Txt mg) (TG : ∃ t, mg "MOST_GROUPS" = some (.int 9 t))
    (FZ : Fun K "size_is_right" "size_is_right" sSize fZ dZ) (bZ : Binds K dZ ["size"] []) (gZ : mg "size_is_right" = some (.ref fZ)) : FnOk P w K mg base CX0 (k + 2) f fd ["n", "size"] spCounts := by
  have GZ : FnOk P w K mg base CX0 (k + 1) fZ dZ ["size"] spSize := ok_size FZ T
  obtain ⟨t1, g1⟩ := TG
  refine F.ok scC (fun us H Q E h => ?_) (fun cdv A outer s H us Q E hr h => ?_)
  · obtain ⟨n, s, rfl, _⟩ := h
    rfl
  · obtain ⟨n, z, rfl, q⟩ := h
    refine ⟨_, pss_one (ps_ret (pe_and (pe_chain op_le op_le pe_int (pv 0) (pe_glob (v := V.int 9) rfl g1 ⟨_, rfl⟩)) (pe_one (pe_call GZ hr (by rfl) gZ FZ.kp bZ .nil pass0 (pa_cons (pv 1) pa_nil))))), ?_⟩
    have e1 : decide ((1 : Int) ≤ Int.ofNat n) = decide (1 ≤ n) := decide_eq_decide.mpr Int.ofNat_le
    have e2 : decide (Int.ofNat n ≤ (9 : Int)) = decide (n ≤ 9) := decide_eq_decide.mpr Int.ofNat_le
    rw [countsM_eq, ← e1, ← e2] at q
    refine ⟨_, rfl, _, _, rfl, rfl, _, rfl, ite2 (fun c1 => ?_) (fun c1 => ?_)⟩
    · rw [c1, Bool.true_and] at q
      refine ⟨_, _, rfl, rfl, _, rfl, ite2 (fun c2 => ?_) (fun c2 => ?_)⟩
      · rw [c2, Bool.true_and] at q
        exact ⟨_, rfl, z, rfl, q⟩
      · rw [Bool.eq_false_iff.mpr c2, Bool.false_and] at q
        exact q
    · rw [Bool.eq_false_iff.mpr c1, Bool.false_and, Bool.false_and] at q
      exact ⟨_, rfl, iteF q⟩
/-! spread -/
def spSpread (K : PySem.W.Frag) : Sp := fun us H Q _ => ∃ (a : Addr) (l : List Nat), us = [.ref a] ∧ SqL K H a (vN l) ∧ Q (.int (Int.ofNat (Ks438.spread l))) H
theorem ok_spread {f : Addr} {fd : FuncData} {k : Nat} (F : Fun K "spread" "spread" sSpread f fd) (T : Txt mg) : FnOk P w K mg base CX0 (k + 1) f fd ["members"] (spSpread K) := by
  refine F.ok scS (fun us H Q E h => ?_) (fun cdv A outer s H us Q E hr h => ?_)
  · obtain ⟨a, l, rfl, _⟩ := h
    rfl
  · obtain ⟨a, l, rfl, hS, q⟩ := h
    refine ⟨_, pss_cons (ps_if (pt_not (pt_truth (pv 0) (by intro _; rfl))) (pss_one (ps_ret pe_int)) pss_nil)
      (pss_one (ps_ret (pe_op op_sub (pe_callB (cr_max rfl) (by rfl) T.max (by decide +kernel) (pa_cons (pv 0) pa_nil)) (pe_callB (cr_min rfl) (by rfl) T.min (by decide +kernel) (pa_cons (pv 0) pa_nil))))), ?_⟩
    refine ⟨_, rfl, _, .inl ⟨_, hS, rfl⟩, ?_⟩
    cases l with
    | nil => exact q
    | cons x r =>
      refine ⟨_, rfl, a, _, rfl, hS, Nat.zero_lt_succ _, fun m hm ge => ⟨_, rfl, a, _, rfl, hS, Nat.zero_lt_succ _, fun m2 hm2 le2 => ?_⟩⟩
      rw [max_is hm ge, min_is hm2 le2]
      refine ⟨_, _, rfl, rfl, ?_⟩
      show Q (.int (Int.ofNat (List.foldl max x r) - Int.ofNat (List.foldl min x r))) H
      rw [spread_is]
      exact q
end
end Lk
namespace Lk
open PySem PySem.Spec PyProof.Rows L2
open PySem.W (Codec)
theorem scG : FnScope ["n", "levels", "groups", "group"] ["n", "levels", "groups"] (defScope sGroups) := ⟨rfl, rfl, rfl, by decide +kernel, rfl, by decide +kernel, by decide +kernel⟩
theorem scB : FnScope ["n", "levels", "groups", "group", "grouped", "level"] ["n", "levels", "groups"] (defScope sBy) := ⟨rfl, rfl, rfl, by decide +kernel, rfl, by decide +kernel, by decide +kernel⟩
theorem scK : FnScope ["n", "size", "levels", "groups", "grouped", "spreads", "members"] ["n", "size", "levels", "groups"] (defScope sLooks) := ⟨rfl, rfl, rfl, by decide +kernel, rfl, by decide +kernel, by decide +kernel⟩
section
variable {P : Program} {w : World} {K : PySem.W.Frag} {mg : Str → Option Value} {base : Heap}
/-! groups_are_right -/
def spGroups (K : PySem.W.Frag) : Sp := fun us H Q _ => ∃ (n : Nat) (a b : Addr) (l g : List Nat), us = [.int (Int.ofNat n), .ref a, .ref b] ∧ SqL K H a (vN l) ∧ SqL K H b (vN g) ∧ g.length ≤ 15 ∧ ∀ H', Same H H' → Q (.bl (groupsM n l g)) H'
theorem ok_groups {f : Addr} {fd : FuncData} {k : Nat} (F : Fun K "groups_are_right" "groups_are_right" sGroups f fd) (T : Txt mg) : FnOk P w K mg base CX0 (k + 1) f fd ["n", "levels", "groups"] (spGroups K) := by
  refine F.ok scG (fun us H Q E h => ?_) (fun cdv A outer s H us Q E hr h => ?_)
  · obtain ⟨n, a, b, l, g, rfl, _⟩ := h
    rfl
  · obtain ⟨n, a, b, l, g, rfl, hA, hB, hlen, q⟩ := h
    refine ⟨_, pss_one (ps_ret (pe_and (pe_cmpR op_eq (pe_callB call_len_seq (by rfl) T.len PySem.boot_len (pa_cons (pv 2) pa_nil)) (pe_callB call_len_seq (by rfl) T.len PySem.boot_len (pa_cons (pv 1) pa_nil)) (nomark _))
      (pe_one (pe_callB (cr_all rfl) (by rfl) T.all (by decide +kernel) (pa_cons (pe_lc (own := [("group", 3)]) (g := gName 3) (tt := tYes) rfl scG.nd (pi_list (pv 2)) (blkOk_by (N := ["n", "levels", "groups", "group"]) (sc := defScope sGroups) (by decide +kernel))
        (fun _ _ _ _ _ => pg_name (i := 3) scG.nd rfl (Or.inl rfl)) (fun _ _ _ _ _ => pts_nil) (fun _ _ _ _ _ => pe_cmpR op_lt (pv 3) (pv 0) (nomark _))) pa_nil))))), ?_⟩
    have e1 : decide (V.int (((vN g).length : Nat) : Int) = V.int (((vN l).length : Nat) : Int)) = decide (g.length = l.length) := by
      rw [vN_len, vN_len]
      refine decide_eq_decide.mpr ⟨fun h => ?_, fun h => by rw [h]⟩
      have := V.int.inj h
      omega
    unfold groupsM at q
    rw [← e1] at q
    refine ⟨_, rfl, b, _, rfl, .inl hB, _, rfl, a, _, rfl, .inl hA, rfl, _, rfl, ite2 (fun c => ?_) (fun c => ?_)⟩
    · rw [c, Bool.true_and] at q
      refine ⟨_, rfl, b, rfl, ⟨_, hB⟩, fun D hD => lc_keep (xs := vN g) (ys := (g.map fun x => decide (x < n)).map V.bl) hD hB ?_ ?_ (fun j x y H1 Q1 hx hy sm r => ?_) (fun H1 sm hL => ?_)⟩
      · rw [vN_len, List.length_map, List.length_map]
      · rw [vN_len]
        omega
      · obtain ⟨z, hz, rfl⟩ := vN_at hx
        refine ⟨_, rfl, _, rfl, _, _, rfl, rfl, ?_⟩
        rw [bl_at hz hy] at r
        have e : decide (Int.ofNat z < Int.ofNat n) = decide (z < n) := decide_eq_decide.mpr Int.ofNat_lt
        show Q1 (.bl (decide (Int.ofNat z < Int.ofNat n))) H1
        rw [e]
        exact r _ (Same.refl _)
      · refine ⟨D, _, rfl, SqL.of hL, ?_⟩
        rw [all_bl]
        exact q _ sm
    · rw [Bool.eq_false_iff.mpr c, Bool.false_and] at q
      exact q _ (Same.refl _)
/-! levels_by_group -/
def spBy (K : PySem.W.Frag) : Sp := fun us H Q _ => ∃ (n : Nat) (a b : Addr) (l g : List Nat), us = [.int (Int.ofNat n), .ref a, .ref b] ∧ n ≤ 9 ∧ SqL K H a (vN l) ∧ SqL K H b (vN g) ∧ l.length ≤ 15 ∧ l.length = g.length ∧ (∀ x ∈ g, x < n) ∧
  ∀ (H' : Hp) (D : Addr) (ps : List Addr), Same H H' → H' D = some (.lst (ps.map V.ref)) → Rows H' ps (rowsM n l g) → Q (.ref D) H'
/-- what stands behind the first statement: as many empty lists as there are groups, each at its own new place -/
structure Empties (H0 H : Hp) (D : Addr) (ps : List Addr) : Prop where
  same : Same H0 H
  at_D : H D = some (.lst (ps.map V.ref))
  new_D : H0 D = none
  nd : ps.Nodup
  off : D ∉ ps
  new : ∀ p ∈ ps, H0 p = none
  mt : ∀ p ∈ ps, H p = some (.lst [])
theorem Empties.more {H0 H : Hp} {D p : Addr} {ps : List Addr} (e : Empties H0 H D ps) (hp : H p = none) : Empties H0 (upd (upd H p (.lst [])) D (.lst (ps.map V.ref ++ [.ref p]))) D (ps ++ [p]) := by
  have np0 : H0 p = none := e.same.free hp
  have pD : D ≠ p := ne_of_none e.at_D hp
  refine ⟨same_over (same_over e.same np0) e.new_D, ?_, e.new_D, ?_, ?_, ?_, ?_⟩
  · rw [upd_same, List.map_append]
    rfl
  · refine List.nodup_append.mpr ⟨e.nd, by simp, fun x hx y hy => ?_⟩
    rw [List.mem_singleton.mp hy]
    exact ne_of_none (e.mt x hx) hp
  · intro h
    rcases List.mem_append.mp h with h | h
    · exact e.off h
    · exact pD (List.mem_singleton.mp h)
  · intro x h
    rcases List.mem_append.mp h with h | h
    · exact e.new x h
    · rw [List.mem_singleton.mp h]
      exact np0
  · intro x h
    rcases List.mem_append.mp h with h | h
    · rw [upd_ne (fun q : x = D => e.off (q ▸ h)), upd_ne (ne_of_none (e.mt x h) hp)]
      exact e.mt x h
    · rw [List.mem_singleton.mp h, upd_ne pD.symm, upd_same]
/-- the rows in the midst of the loop -/
structure Mid (H0 H : Hp) (D : Addr) (ps : List Addr) (rows : Nat → List Nat) : Prop where
  same : Same H0 H
  at_D : H D = some (.lst (ps.map V.ref))
  at_p : ∀ (k : Nat) (p : Addr), ps[k]? = some p → H p = some (.lst (vN (rows k)))
theorem ok_by {f : Addr} {fd : FuncData} {k : Nat} (F : Fun K "levels_by_group" "levels_by_group" sBy f fd) (T : Txt mg) : FnOk P w K mg base CX0 (k + 1) f fd ["n", "levels", "groups"] (spBy K) := by
  refine F.ok scB (fun us H Q E h => ?_) (fun cdv A outer s H us Q E hr h => ?_)
  · obtain ⟨n, a, b, l, g, rfl, _⟩ := h
    rfl
  · obtain ⟨n, a, b, l, g, rfl, hn, hA, hB, hlen, hlg, hlt, q⟩ := h
    refine ⟨_, pss_cons (ps_setLc (i := 4) (own := [("group", 3)]) (g := gName 3) (tt := tYes) (by rfl) scB.nd rfl rfl (sw_true rfl rfl rfl (by decide +kernel)) (pi_range1 (by rfl) T.range (pa_cons (pv 0) pa_nil)) (blkOk_by (N := ["n", "levels", "groups", "group", "grouped", "level"]) (sc := defScope sBy) (by decide +kernel))
        (fun _ _ _ _ _ => pg_name (i := 3) scB.nd rfl (Or.inl rfl)) (fun _ _ _ _ _ => pts_nil) (fun _ _ _ _ _ => pe_lst pa_nil))
      (pss_cons (ps_for PassesOwn.never rfl (pi_zip (by rfl) T.zip (pa_cons (pv 1) (pa_cons (pv 2) pa_nil))) (pg_tup rfl (pgs_cons (pg_name (i := 5) scB.nd rfl (.inl rfl)) (pgs_cons (pg_name (i := 3) scB.nd rfl (.inl rfl)) pgs_nil)))
        (pss_one (ps_expr (pe_bm PySem.F.plainAttrs_list PySem.F.slot_list_append PySem.F.type_list_append mt_append (pe_ix ix_list (pv 4) (pv 3) (fun _ _ => rfl)) (pa_cons (pv 5) pa_nil)))))
      (pss_one (ps_ret (pv 4)))), ?_⟩
    -- grouped = [[] for group in range(n)]
    refine ⟨_, rfl, Int.ofNat n, rfl, by show (-(2 ^ 62) : Int) ≤ (n : Int); omega, by show (n : Int) < 2 ^ 62; omega, fun D hD => ?_⟩
    refine lc_range (lo := 0) (n := n) (fun i H1 => ∃ ps : List Addr, ps.length = i ∧ Empties H H1 D ps) ⟨[], rfl, same_upd hD, upd_same, hD, List.nodup_nil, (fun h => nomatch h), (fun _ h => nomatch h), (fun _ h => nomatch h)⟩ (fun i H1 hi ⟨ps, hps, e⟩ => ?_) (fun H1 ⟨ps, hps, e⟩ => ?_)
    · refine ⟨rfl, ?_⟩
      refine ifT (B := ∃ ps : List Addr, ps.length = i + 1 ∧ Empties H H1 D ps) rfl ?_
      refine ⟨Nat.zero_le _, fun p hp => ⟨ps.map V.ref, ?_, ?_, ps ++ [p], ?_, e.more hp⟩⟩
      · rw [upd_ne (ne_of_none e.at_D hp)]
        exact e.at_D
      · rw [List.length_map]
        exact small1000 (by omega)
      · rw [List.length_append, hps]
        rfl
    · -- for level, group in zip(levels, groups)
      have hA1 : SqL K H1 a (vN l) := e.same.seq hA
      have hB1 : SqL K H1 b (vN g) := e.same.seq hB
      refine ⟨_, rfl, _, rfl, a, b, _, _, rfl, hA1, hB1, ?_⟩
      refine RZ.for_zipL (xs := vN l) (ys := vN g) (by rw [vN_len, vN_len, hlg]) (fun i σ H2 => ∃ v3 v5, σ = [some (.int (Int.ofNat n)), some (.ref a), some (.ref b), v3, some (.ref D), v5] ∧ Mid H H2 D ps fun k => Ks438.group (l.take i) (g.take i) k)
        ⟨none, none, rfl, e.same, e.at_D, fun k p hp => ?_⟩ (fun i σ H2 ⟨_, _, _, m⟩ => ⟨m.same.seq hA, m.same.seq hB⟩) ?_ ?_
      · rw [e.mt p (List.mem_of_getElem? hp)]
        rfl
      · rintro i x y t σ H2 hx hy ⟨v3, v5, rfl, m⟩ ht
        obtain ⟨x, hx', rfl⟩ := vN_at hx
        obtain ⟨y, hy', rfl⟩ := vN_at hy
        refine ⟨t, [.int (Int.ofNat x), .int (Int.ofNat y)], rfl, .inl (.inl upd_same), rfl, _, _, rfl, _, _, rfl, rfl, ?_⟩
        have hyn : y < n := hlt y (List.mem_of_getElem? hy')
        have hyp : y < ps.length := by rw [hps]; exact hyn
        have hp : ps[y]? = some ps[y] := List.getElem?_eq_getElem hyp
        have hpm : ps[y] ∈ ps := List.getElem_mem hyp
        have sT : Same H2 (upd H2 t (.tup [.int (Int.ofNat x), .int (Int.ofNat y)])) := same_upd ht
        have hD2 := sT _ _ m.at_D
        have hP2 := sT _ _ (m.at_p y _ hp)
        refine ⟨_, rfl, _, rfl, D, ps.map V.ref, Int.ofNat y, .ref ps[y], rfl, rfl, SqL.of hD2, atI_nat (j := y) ?_, .inl ⟨rfl, _, SqL.of hP2⟩, _, rfl, _, _, _, rfl, rfl, hP2, ?_, ?_⟩
        · rw [List.getElem?_map, hp]
          rfl
        · rw [vN_len]
          refine small1000 (Nat.le_trans (group_len _ _ _) ?_)
          rw [List.length_take]
          omega
        · refine ⟨_, _, rfl, same_over (m.same.trans sT) (e.new _ hpm), ?_, fun k p hk => ?_⟩
          · rw [upd_ne (fun z : D = ps[y] => e.off (z ▸ hpm))]
            exact hD2
          · show upd _ _ _ p = some (.lst (vN (Ks438.group (l.take (i + 1)) (g.take (i + 1)) k)))
            rw [group_more k hx' hy']
            by_cases ek : y = k
            · subst ek
              have ep : p = ps[y] := Option.some.inj (hk.symm.trans hp)
              rw [ep, upd_same, if_pos rfl]
              show _ = some (HO.lst (((_ ++ [x]).map Int.ofNat).map V.int))
              rw [List.map_append, List.map_append]
              rfl
            · rw [if_neg ek]
              have hne : p ≠ ps[y] := fun z => by
                have hky : k < ps.length := (List.getElem?_eq_some_iff.mp hk).1
                have e1 : ps[k] = ps[y] := by
                  have := (List.getElem?_eq_some_iff.mp hk).2
                  rw [this, z]
                exact ek ((List.getElem_inj e.nd).mp e1).symm
              rw [upd_ne hne]
              exact sT _ _ (m.at_p k p hk)
      · rintro σ H2 ⟨v3, v5, rfl, m⟩
        refine ⟨_, rfl, q H2 D ps m.same m.at_D ⟨?_, fun k p r hk hr => ?_⟩⟩
        · rw [hps]
          unfold rowsM
          rw [List.length_map, List.length_range]
        · have hm := m.at_p k p hk
          have hkn : k < n := by
            rw [← hps]
            exact (List.getElem?_eq_some_iff.mp hk).1
          unfold rowsM at hr
          rw [List.getElem?_map, List.getElem?_range hkn] at hr
          have er : Ks438.group l g k = r := Option.some.inj hr
          rw [vN_len, group_all hlg] at hm
          rw [hm, er]
/-! looks -/
def spLooks (K : PySem.W.Frag) : Sp := fun us H Q _ => ∃ (n z : Nat) (a b : Addr) (l g : List Nat), us = [.int (Int.ofNat n), .int (Int.ofNat z), .ref a, .ref b] ∧ SqL K H a (vN l) ∧ SqL K H b (vN g) ∧ l.length ≤ 15 ∧ g.length ≤ 15 ∧
  ∀ (H' : Hp) (p : Addr), H' p = some (.lst ((looksM n z l g).map V.int)) → Q (.ref p) H'
theorem any_bl (rows : List (List Nat)) (z : Nat) : (rows.map fun r => decide (z < r.length)).any id = (rows.map fun r => decide (z < r.length)).any id := rfl
theorem ok_looks {f fC fZ fL fG fB fS : Addr} {fd dC dZ dL dG dB dS : FuncData} {k : Nat} (F : Fun K "looks" "looks" sLooks f fd) (T : Txt mg) (TG : ∃ t, mg "MOST_GROUPS" = some (.int 9 t))
    (FC : Fun K "counts_are_right" "counts_are_right" sCounts fC dC) (bC : Binds K dC ["n", "size"] []) (gC : mg "counts_are_right" = some (.ref fC))
    (FZ : Fun K "size_is_right" "size_is_right" sSize fZ dZ) (bZ : Binds K dZ ["size"] []) (gZ : mg "size_is_right" = some (.ref fZ))
    (FL : Fun K "levels_are_right" "levels_are_right" sLevels fL dL) (bL : Binds K dL ["levels"] []) (gL : mg "levels_are_right" = some (.ref fL))
    (FG : Fun K "groups_are_right" "groups_are_right" sGroups fG dG) (bG : Binds K dG ["n", "levels", "groups"] []) (gG : mg "groups_are_right" = some (.ref fG))
    (FB : Fun K "levels_by_group" "levels_by_group" sBy fB dB) (bB : Binds K dB ["n", "levels", "groups"] []) (gB : mg "levels_by_group" = some (.ref fB))
    (FS : Fun K "spread" "spread" sSpread fS dS) (bS : Binds K dS ["members"] []) (gS : mg "spread" = some (.ref fS)) :
    FnOk P w K mg base CX0 (k + 3) f fd ["n", "size", "levels", "groups"] (spLooks K) := by
  have GC : FnOk P w K mg base CX0 (k + 2) fC dC ["n", "size"] spCounts := ok_counts FC T TG FZ bZ gZ
  have GL : FnOk P w K mg base CX0 (k + 2) fL dL ["levels"] (spLevels K) := ok_levels FL T
  have GG : FnOk P w K mg base CX0 (k + 2) fG dG ["n", "levels", "groups"] (spGroups K) := ok_groups FG T
  have GB : FnOk P w K mg base CX0 (k + 2) fB dB ["n", "levels", "groups"] (spBy K) := ok_by FB T
  have GS : FnOk P w K mg base CX0 (k + 2) fS dS ["members"] (spSpread K) := ok_spread FS T
  refine F.ok scK (fun us H Q E h => ?_) (fun cdv A outer s H us Q E hr h => ?_)
  · obtain ⟨n, z, a, b, l, g, rfl, _⟩ := h
    rfl
  · obtain ⟨n, z, a, b, l, g, rfl, hA, hB, hl, hg, q⟩ := h
    refine ⟨_, pss_cons (ps_if (pt_not (PW.pt (pw_and (pt_val (pe_call GC hr (by rfl) gC FC.kp bC .nil pass0 (pa_cons (pv 0) (pa_cons (pv 1) pa_nil)))) (pw_and1 (pt_val (pe_call GL hr (by rfl) gL FL.kp bL .nil pass0 (pa_cons (pv 2) pa_nil))))))) (pss_one (ps_ret (pe_lst (pa_cons (pe_un un_neg pe_int) pa_nil)))) pss_nil)
      (pss_cons (ps_if (pt_not (pt_val (pe_call GG hr (by rfl) gG FG.kp bG .nil pass0 (pa_cons (pv 0) (pa_cons (pv 2) (pa_cons (pv 3) pa_nil)))))) (pss_one (ps_ret (pe_lst (pa_cons (pe_un un_neg pe_int) pa_nil)))) pss_nil)
      (pss_cons (ps_set (i := 4) scK.nd rfl (.inl rfl) (pe_call GB hr (by rfl) gB FB.kp bB .nil pass0 (pa_cons (pv 0) (pa_cons (pv 2) (pa_cons (pv 3) pa_nil)))))
      (pss_cons (ps_if (pt_val (pe_callB (cr_any rfl) (by rfl) T.any (by decide +kernel) (pa_cons (pe_lc (own := [("members", 6)]) (g := gName 6) (tt := tYes) rfl scK.nd (pi_list (pv 4)) (blkOk_by (N := ["n", "size", "levels", "groups", "grouped", "spreads", "members"]) (sc := defScope sLooks) (by decide +kernel))
          (fun _ _ _ _ _ => pg_name (i := 6) scK.nd rfl (Or.inl rfl)) (fun _ _ _ _ _ => pts_nil) (fun _ _ _ _ _ => pe_cmpR op_gt (pe_callB (r := rLn K) call_len_seq (by rfl) T.len PySem.boot_len (pa_cons (pv 6) pa_nil)) (pv 1) (nomark _))) pa_nil))) (pss_one (ps_ret (pe_lst (pa_cons (pe_un un_neg pe_int) pa_nil)))) pss_nil)
      (pss_cons (ps_setLc (i := 5) (own := [("members", 6)]) (g := gName 6) (tt := tYes) (by rfl) scK.nd rfl rfl (sw_true rfl rfl rfl (by decide +kernel)) (pi_list (pv 4)) (blkOk_by (N := ["n", "size", "levels", "groups", "grouped", "spreads", "members"]) (sc := defScope sLooks) (by decide +kernel))
          (fun _ _ _ _ _ => pg_name (i := 6) scK.nd rfl (Or.inl rfl)) (fun _ _ _ _ _ => pts_nil) (fun _ _ _ _ _ => pe_call GS hr (by rfl) gS FS.kp bS .nil pass0 (pa_cons (pv 6) pa_nil)))
      (pss_one (ps_ret (pe_lst (pa_cons (pe_callB (cr_sum rfl) (by rfl) T.sum (by decide +kernel) (pa_cons (pv 5) pa_nil)) (pa_cons (pe_callB (cr_max rfl) (by rfl) T.max (by decide +kernel) (pa_cons (pv 5) pa_nil)) pa_nil))))))))), ?_⟩
    have one : ∀ (i : Int) (H1 : Hp), looksM n z l g = [i] → (∀ p : Addr, H1 p = none → Q (.ref p) (upd H1 p (.lst [.int i]))) := fun i H1 e p hp => by
      refine q _ p ?_
      rw [upd_same, e]
      rfl
    -- if not (counts_are_right(n, size) and levels_are_right(levels))
    refine ⟨_, rfl, _, rfl, n, z, rfl, _, rfl, ?_⟩
    by_cases c1 : countsM n z = true
    · refine ifT c1 ⟨_, rfl, a, l, rfl, hA, hl, fun H1 s1 => ⟨_, rfl, ?_⟩⟩
      by_cases c2 : levelsM l = true
      · refine ifF (by rw [c2]; rfl) ?_
        -- if not groups_are_right(n, levels, groups)
        refine ⟨_, rfl, _, rfl, _, rfl, n, a, b, l, g, rfl, s1.seq hA, s1.seq hB, hg, fun H2 s2 => ⟨_, rfl, ?_⟩⟩
        by_cases c3 : groupsM n l g = true
        · refine ifF (by rw [c3]; rfl) ?_
          have hn : 1 ≤ n ∧ n ≤ 9 := by
            unfold countsM at c1
            simp only [Bool.and_eq_true, decide_eq_true_eq] at c1
            exact c1.1
          have hgs : g.length = l.length ∧ ∀ x ∈ g, x < n := by
            unfold groupsM at c3
            simpa only [Bool.and_eq_true, decide_eq_true_eq, List.all_eq_true] using c3
          have s02 : Same H H2 := s1.trans s2
          -- grouped = levels_by_group(n, levels, groups)
          refine ⟨_, rfl, _, rfl, _, rfl, n, a, b, l, g, rfl, hn.2, s02.seq hA, s02.seq hB, hl, hgs.1.symm, hgs.2, fun H3 D ps s3 hD R => ?_⟩
          have hps : ps.length = n := by
            rw [R.1]
            unfold rowsM
            rw [List.length_map, List.length_range]
          have hrl : (rowsM n l g).length = n := by
            unfold rowsM
            rw [List.length_map, List.length_range]
          -- if any([len(members) > size for members in grouped])
          refine ⟨_, rfl, D, rfl, ⟨_, SqL.of hD⟩, fun D2 hD2 => lc_keep (xs := ps.map V.ref) (ys := ((rowsM n l g).map fun r => decide (z < r.length)).map V.bl) hD2 (SqL.of hD) ?_ ?_ (fun j x y H4 Q4 hx hy sm r => ?_) (fun H4 sm hL => ?_)⟩
          · rw [List.length_map, List.length_map, List.length_map, R.1]
          · rw [List.length_map, hps]
            omega
          · obtain ⟨p, row, rfl, hrow, hp⟩ := rows_at (R.same sm) hx
            refine ⟨_, rfl, p, _, rfl, .inl (SqL.of hp), _, rfl, _, _, rfl, rfl, ?_⟩
            rw [List.getElem?_map, List.getElem?_map, hrow] at hy
            have ey := Option.some.inj hy
            subst ey
            have e : decide (Int.ofNat z < (((vN row).length : Nat) : Int)) = decide (z < row.length) := by
              rw [vN_len]
              exact decide_eq_decide.mpr Int.ofNat_lt
            show Q4 (.bl (decide (Int.ofNat z < (((vN row).length : Nat) : Int)))) H4
            rw [e]
            exact r _ (Same.refl _)
          · refine ⟨D2, _, rfl, SqL.of hL, _, rfl, ?_⟩
            by_cases c4 : ((rowsM n l g).map fun r => decide (z < r.length)).any id = true
            · refine ifT c4 ⟨_, rfl, by show 1 ≤ sizeLine; decide, one (-28) H4 ?_⟩
              unfold looksM
              rw [c1, c2, Bool.and_self, if_pos rfl, if_pos c3, if_pos c4]
            · refine ifF (Bool.eq_false_iff.mpr c4) ?_
              -- spreads = [spread(members) for members in grouped]
              have hD4 := sm _ _ hD
              have R4 := R.same sm
              refine ⟨_, rfl, D, rfl, ⟨_, SqL.of hD4⟩, fun D3 hD3 => lc_keep (xs := ps.map V.ref) (ys := vN ((rowsM n l g).map Ks438.spread)) hD3 (SqL.of hD4) ?_ ?_ (fun j x y H5 Q5 hx hy sm5 r => ?_) (fun H5 sm5 hL5 => ?_)⟩
              · rw [vN_len, List.length_map, List.length_map, R.1]
              · rw [List.length_map, hps]
                omega
              · obtain ⟨p, row, rfl, hrow, hp⟩ := rows_at (R4.same sm5) hx
                obtain ⟨u, hu, rfl⟩ := vN_at hy
                rw [List.getElem?_map, hrow] at hu
                have eu := Option.some.inj hu
                subst eu
                exact ⟨_, rfl, p, row, rfl, SqL.of hp, r _ (Same.refl _)⟩
              · -- return [sum(spreads), max(spreads)]
                refine ⟨_, rfl, D3, _, rfl, SqL.of hL5, _, rfl, D3, _, rfl, SqL.of hL5, ?_, fun m hm ge => ⟨by show 2 ≤ sizeLine; decide, fun p hp => ?_⟩⟩
                · rw [List.length_map, List.length_map, hrl]
                  exact hn.1
                · refine q _ p ?_
                  rw [upd_same, top_is hm ge, sum_toI]
                  unfold looksM
                  rw [c1, c2, Bool.and_self, if_pos rfl, if_pos c3, if_neg c4]
                  rfl
        · refine ifT (by rw [Bool.eq_false_iff.mpr c3]; rfl) ⟨_, rfl, by show 1 ≤ sizeLine; decide, one (-22) H2 ?_⟩
          unfold looksM
          rw [c1, c2, Bool.and_self, if_pos rfl, if_neg c3]
      · refine ifT (by rw [Bool.eq_false_iff.mpr c2]; rfl) ⟨_, rfl, by show 1 ≤ sizeLine; decide, one (-22) H1 ?_⟩
        unfold looksM
        rw [Bool.eq_false_iff.mpr c2, Bool.and_false, if_neg Bool.false_ne_true]
    · refine ifF (Bool.eq_false_iff.mpr c1) (ifT rfl ⟨_, rfl, by show 1 ≤ sizeLine; decide, one (-22) H ?_⟩)
      unfold looksM
      rw [Bool.eq_false_iff.mpr c1, Bool.false_and, if_neg Bool.false_ne_true]
end
end Lk
namespace Lk
open PySem PySem.Spec PyProof.Rows L2
open PySem.W (Codec)
theorem all_mk {P : Program} {w : World} {K : PySem.W.Frag} {h : Heap} {mg : Str → Option Value} {fa f1 f2 f3 f4 f5 f6 f7 : Addr} (X : K.In h) (G : h.Ns mainGlobals mg) (hfa : mg "looks" = some (.ref fa))
    {od1 an1 od2 an2 od3 an3 od4 an4 od5 an5 od6 an6 od7 an7 : Option Addr} {sl1 sl2 sl3 sl4 sl5 sl6 sl7 : Array (Option Value)} {oc1 kV1 dc1 pm1 cd1 ct1 oc2 kV2 dc2 pm2 cd2 ct2 oc3 kV3 dc3 pm3 cd3 ct3 oc4 kV4 dc4 pm4 cd4 ct4 oc5 kV5 dc5 pm5 cd5 ct5 oc6 kV6 dc6 pm6 cd6 ct6 oc7 kV7 dc7 pm7 cd7 ct7 : Value} {t1 t2 t3 t4 : Tok}
    (a1 : PySem.W.nsIn K mainGlobals "looks" = some (some (.ref f1))) (l1 : K.lookup f1 = some ⟨oc1, od1, .func (PySem.W.fnOf "looks" "looks" (defArgs sLooks) (defBody sLooks) (defScope sLooks) .none kV1 dc1 pm1 an1 cd1 ct1), sl1⟩) (c1 : PySem.W.codeIn K cd1 "looks" = true) (k1 : PySem.W.keepIn K (.ref f1) = true)
    (a2 : PySem.W.nsIn K mainGlobals "counts_are_right" = some (some (.ref f2))) (l2 : K.lookup f2 = some ⟨oc2, od2, .func (PySem.W.fnOf "counts_are_right" "counts_are_right" (defArgs sCounts) (defBody sCounts) (defScope sCounts) .none kV2 dc2 pm2 an2 cd2 ct2), sl2⟩) (c2 : PySem.W.codeIn K cd2 "counts_are_right" = true) (k2 : PySem.W.keepIn K (.ref f2) = true)
    (a3 : PySem.W.nsIn K mainGlobals "size_is_right" = some (some (.ref f3))) (l3 : K.lookup f3 = some ⟨oc3, od3, .func (PySem.W.fnOf "size_is_right" "size_is_right" (defArgs sSize) (defBody sSize) (defScope sSize) .none kV3 dc3 pm3 an3 cd3 ct3), sl3⟩) (c3 : PySem.W.codeIn K cd3 "size_is_right" = true) (k3 : PySem.W.keepIn K (.ref f3) = true)
    (a4 : PySem.W.nsIn K mainGlobals "levels_are_right" = some (some (.ref f4))) (l4 : K.lookup f4 = some ⟨oc4, od4, .func (PySem.W.fnOf "levels_are_right" "levels_are_right" (defArgs sLevels) (defBody sLevels) (defScope sLevels) .none kV4 dc4 pm4 an4 cd4 ct4), sl4⟩) (c4 : PySem.W.codeIn K cd4 "levels_are_right" = true) (k4 : PySem.W.keepIn K (.ref f4) = true)
    (a5 : PySem.W.nsIn K mainGlobals "groups_are_right" = some (some (.ref f5))) (l5 : K.lookup f5 = some ⟨oc5, od5, .func (PySem.W.fnOf "groups_are_right" "groups_are_right" (defArgs sGroups) (defBody sGroups) (defScope sGroups) .none kV5 dc5 pm5 an5 cd5 ct5), sl5⟩) (c5 : PySem.W.codeIn K cd5 "groups_are_right" = true) (k5 : PySem.W.keepIn K (.ref f5) = true)
    (a6 : PySem.W.nsIn K mainGlobals "levels_by_group" = some (some (.ref f6))) (l6 : K.lookup f6 = some ⟨oc6, od6, .func (PySem.W.fnOf "levels_by_group" "levels_by_group" (defArgs sBy) (defBody sBy) (defScope sBy) .none kV6 dc6 pm6 an6 cd6 ct6), sl6⟩) (c6 : PySem.W.codeIn K cd6 "levels_by_group" = true) (k6 : PySem.W.keepIn K (.ref f6) = true)
    (a7 : PySem.W.nsIn K mainGlobals "spread" = some (some (.ref f7))) (l7 : K.lookup f7 = some ⟨oc7, od7, .func (PySem.W.fnOf "spread" "spread" (defArgs sSpread) (defBody sSpread) (defScope sSpread) .none kV7 dc7 pm7 an7 cd7 ct7), sl7⟩) (c7 : PySem.W.codeIn K cd7 "spread" = true) (k7 : PySem.W.keepIn K (.ref f7) = true)
    (q1 : PySem.W.nsIn K mainGlobals "MOST_CHILDREN" = some (some (.int 9 t1)))
    (q2 : PySem.W.nsIn K mainGlobals "MOST_LEVEL" = some (some (.int 1000 t2)))
    (q3 : PySem.W.nsIn K mainGlobals "MOST_SIZE" = some (some (.int 9 t3)))
    (q4 : PySem.W.nsIn K mainGlobals "MOST_GROUPS" = some (some (.int 9 t4)))
    (z_len : PySem.W.nsIn K mainGlobals "len" = some none)
    (z_all : PySem.W.nsIn K mainGlobals "all" = some none)
    (z_any : PySem.W.nsIn K mainGlobals "any" = some none)
    (z_sum : PySem.W.nsIn K mainGlobals "sum" = some none)
    (z_max : PySem.W.nsIn K mainGlobals "max" = some none)
    (z_min : PySem.W.nsIn K mainGlobals "min" = some none)
    (z_range : PySem.W.nsIn K mainGlobals "range" = some none)
    (z_zip : PySem.W.nsIn K mainGlobals "zip" = some none)
    (z_sorted : PySem.W.nsIn K mainGlobals "sorted" = some none)
    : ∃ fd : FuncData, (∀ (s : Shared) (us : List Value), us.length = (["n", "size", "levels", "groups"] : List Str).length → BindsTo s fd ⟨us, []⟩ ((["n", "size", "levels", "groups"] : List Str).zip us)) ∧ ∀ base : Heap, K.In base → base.Ns mainGlobals mg → FnOk P w K mg base CX0 3 fa fd ["n", "size", "levels", "groups"] (spLooks K) := by
  have e := hfa.symm.trans (PySem.W.mg_of X G a1)
  cases e
  have T : Txt mg := ⟨⟨_, PySem.W.mg_of X G q1⟩, ⟨_, PySem.W.mg_of X G q2⟩, ⟨_, PySem.W.mg_of X G q3⟩, PySem.W.mg_none_of X G z_len, PySem.W.mg_none_of X G z_all, PySem.W.mg_none_of X G z_any, PySem.W.mg_none_of X G z_sum, PySem.W.mg_none_of X G z_max, PySem.W.mg_none_of X G z_min, PySem.W.mg_none_of X G z_range, PySem.W.mg_none_of X G z_zip, PySem.W.mg_none_of X G z_sorted⟩
  have F1 := fun_mk (st := sLooks) l1 c1 k1
  have F2 := fun_mk (st := sCounts) l2 c2 k2
  have F3 := fun_mk (st := sSize) l3 c3 k3
  have F4 := fun_mk (st := sLevels) l4 c4 k4
  have F5 := fun_mk (st := sGroups) l5 c5 k5
  have F6 := fun_mk (st := sBy) l6 c6 k6
  have F7 := fun_mk (st := sSpread) l7 c7 k7
  have b2 := F2.binds (ps := ["n", "size"]) fun _ _ _ _ _ _ us hl => match us, hl with | [_, _], _ => rfl
  have b3 := F3.binds (ps := ["size"]) fun _ _ _ _ _ _ us hl => match us, hl with | [_], _ => rfl
  have b4 := F4.binds (ps := ["levels"]) fun _ _ _ _ _ _ us hl => match us, hl with | [_], _ => rfl
  have b5 := F5.binds (ps := ["n", "levels", "groups"]) fun _ _ _ _ _ _ us hl => match us, hl with | [_, _, _], _ => rfl
  have b6 := F6.binds (ps := ["n", "levels", "groups"]) fun _ _ _ _ _ _ us hl => match us, hl with | [_, _, _], _ => rfl
  have b7 := F7.binds (ps := ["members"]) fun _ _ _ _ _ _ us hl => match us, hl with | [_], _ => rfl
  exact ⟨PySem.W.fnOf "looks" "looks" (defArgs sLooks) (defBody sLooks) (defScope sLooks) .none kV1 dc1 pm1 an1 cd1 ct1, fun s us hu => match us, hu with | [_, _, _, _], _ => .of_eq rfl, fun base _ _ => ok_looks F1 T ⟨_, PySem.W.mg_of X G q4⟩ F2 b2 (PySem.W.mg_of X G a2) F3 b3 (PySem.W.mg_of X G a3) F4 b4 (PySem.W.mg_of X G a4) F5 b5 (PySem.W.mg_of X G a5) F6 b6 (PySem.W.mg_of X G a6) F7 b7 (PySem.W.mg_of X G a7)⟩
/-- a whole number from 0 on is one of the naturals -/
theorem nat_of {i : Int} (h : 0 ≤ i) : ∃ n : Nat, i = Int.ofNat n := ⟨i.toNat, by
  show i = ((i.toNat : Nat) : Int)
  omega⟩
theorem nats_of : ∀ {l : List Int}, (∀ x ∈ l, 0 ≤ x) → ∃ m : List Nat, l = toI m
  | [], _ => ⟨[], rfl⟩
  | x :: r, h => by
    obtain ⟨n, e⟩ := nat_of (h x List.mem_cons_self)
    obtain ⟨m, f⟩ := nats_of (l := r) fun y hy => h y (List.mem_cons_of_mem _ hy)
    exact ⟨n :: m, by rw [e, f]; rfl⟩
end Lk
open PySem PySem.W PyProof.Rows
set_option maxRecDepth 100000 in
set_option maxHeartbeats 8000000 in
theorem PySem.Challenge.cw_levelgroups_s01_looks_holds : PySem.Challenge.rw_levelgroups_s01_looks.Holds := by
  w_on; k_headS; (case hw => exact ⟨[.int 0, .int 0, .list [], .list []], by decide +kernel, by decide +kernel⟩)
  k_fillS
  refine L2.walk_specK (r := PySem.Challenge.rw_levelgroups_s01_looks) (k := 3) (CX := L2.CX0) (ps := ["n", "size", "levels", "groups"]) (sp := Lk.spLooks) (by decide +kernel) rfl rfl ⟨rfl, by decide, by decide⟩ (fun w h Y => PySem.W.kIn_of Y) ?F ?S (fun _ _ _ _ z => z)
  case F =>
    intro w mg fa h Y KX G hmg
    refine' Lk.all_mk KX G hmg ?a1 ?l1 ?c1 ?k1 ?a2 ?l2 ?c2 ?k2 ?a3 ?l3 ?c3 ?k3 ?a4 ?l4 ?c4 ?k4 ?a5 ?l5 ?c5 ?k5 ?a6 ?l6 ?c6 ?k6 ?a7 ?l7 ?c7 ?k7 ?q1 ?q2 ?q3 ?q4 ?z_len ?z_all ?z_any ?z_sum ?z_max ?z_min ?z_range ?z_zip ?z_sorted
    (case a1 => k_is)
    (case l1 => k_is)
    (case c1 => k_is)
    (case k1 => k_is)
    (case a2 => k_is)
    (case l2 => k_is)
    (case c2 => k_is)
    (case k2 => k_is)
    (case a3 => k_is)
    (case l3 => k_is)
    (case c3 => k_is)
    (case k3 => k_is)
    (case a4 => k_is)
    (case l4 => k_is)
    (case c4 => k_is)
    (case k4 => k_is)
    (case a5 => k_is)
    (case l5 => k_is)
    (case c5 => k_is)
    (case k5 => k_is)
    (case a6 => k_is)
    (case l6 => k_is)
    (case c6 => k_is)
    (case k6 => k_is)
    (case a7 => k_is)
    (case l7 => k_is)
    (case c7 => k_is)
    (case k7 => k_is)
    (case q1 => k_is)
    (case q2 => k_is)
    (case q3 => k_is)
    (case q4 => k_is)
    (case z_len => k_is)
    (case z_all => k_is)
    (case z_any => k_is)
    (case z_sum => k_is)
    (case z_max => k_is)
    (case z_min => k_is)
    (case z_range => k_is)
    (case z_zip => k_is)
    (case z_sorted => k_is)
  case S =>
    intro K H xs a hO hwi hask hx
    cases hx with
    | cons h1 hx =>
    cases hx with
    | cons h2 hx =>
    cases hx with
    | cons h3 hx =>
    cases hx with
    | cons h4 hx =>
    cases hx
    cases h1
    cases h2
    cases h3 with
    | lst hs3 ha3 =>
    cases h4 with
    | lst hs4 ha4 =>
    have e3 := L2.ints_dw a.2.2.1 _ ha3
    have e4 := L2.ints_dw a.2.2.2.1 _ ha4
    subst e3 e4
    have q : (Codec.inInt 0 4294967295 a.1 && (Codec.inInt 0 4294967295 a.2.1 && ((Codec.inLen 0 15 a.2.2.1 && a.2.2.1.all (Codec.inInt 0 4294967295)) && ((Codec.inLen 0 15 a.2.2.2.1 && a.2.2.2.1.all (Codec.inInt 0 4294967295)) && true)))) = true := hwi
    simp only [Bool.and_eq_true, List.all_eq_true] at q
    obtain ⟨q1, q2, ⟨q3, q4⟩, ⟨q5, q6⟩, _⟩ := q
    obtain ⟨n, u, l, g, z⟩ := a
    obtain ⟨n, rfl⟩ := Lk.nat_of (Codec.inInt_iff.mp q1).1
    obtain ⟨u, rfl⟩ := Lk.nat_of (Codec.inInt_iff.mp q2).1
    obtain ⟨l, rfl⟩ := Lk.nats_of fun x hx => (Codec.inInt_iff.mp (q4 x hx)).1
    obtain ⟨g, rfl⟩ := Lk.nats_of fun x hx => (Codec.inInt_iff.mp (q6 x hx)).1
    have w3 := (Codec.inNat_iff.mp q3).2
    have w5 := (Codec.inNat_iff.mp q5).2
    rw [List.length_map] at w3 w5
    refine ⟨n, u, _, _, l, g, rfl, hs3, hs4, w3, w5, fun H' p hp => ?_⟩
    show L2.Dw K H' (.ref p) (WData.list ((PyKs438.looks (Int.ofNat n) (Int.ofNat u) (Lk.toI l) (Lk.toI g)).map WData.int))
    rw [Lk.looks_eq]
    exact .lst (L2.SqL.of hp) (L2.dw_ints _)
#print axioms PySem.Challenge.cw_levelgroups_s01_looks_holds
