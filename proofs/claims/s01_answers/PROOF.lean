import PyProof.Rows.All
import Wide.All
import OpenK.AllK
import Wide.FinOn
import Open.SpecLaws
import KE.OsGo
import HandS.ForSpec
import HandS.Comp
import HandS.Iter
import HandS.Walk
import HandS.Wide
import HandS.Flow
import HandS.Dict
import HandS.Evl
import PySem.Challenge.RW_testsfirst_s01_answers
set_option Elab.async false
namespace Tf
open Rp08
/-! ### The mathematics: the first of the least -/
/-- a stands first among the least of l, by k -/
def FM {A : Type} (k : A → Nat) (l : List A) (a : A) : Prop :=
  ∃ p q, l = p ++ a :: q ∧ (∀ x ∈ p, k a < k x) ∧ (∀ x ∈ q, k a ≤ k x)
theorem FM.le {A : Type} {k : A → Nat} {l : List A} {a : A} (h : FM k l a) : ∀ x ∈ l, k a ≤ k x := by
  obtain ⟨p, q, rfl, h1, h2⟩ := h
  intro x hx
  rcases List.mem_append.mp hx with h | h
  · exact Nat.le_of_lt (h1 x h)
  · rcases List.mem_cons.mp h with h | h
    · rw [h]; exact Nat.le_refl _
    · exact h2 x h
theorem FM.mem {A : Type} {k : A → Nat} {l : List A} {a : A} (h : FM k l a) : a ∈ l := by
  obtain ⟨p, q, rfl, h1, h2⟩ := h
  simp
theorem FM.uniq {A : Type} {k : A → Nat} {l : List A} {a b : A} (h : FM k l a) (g : FM k l b) : a = b := by
  obtain ⟨p, q, rfl, h1, h2⟩ := h
  obtain ⟨p', q', e, h1', h2'⟩ := g
  rcases List.append_eq_append_iff.mp e with ⟨m, e1, e2⟩ | ⟨m, e1, e2⟩
  · cases m with
    | nil => simp at e2; exact e2.1
    | cons x m =>
      have ex : a = x := by simpa using (List.cons.inj e2).1
      subst ex
      have hb : b ∈ q := by rw [(List.cons.inj e2).2]; simp
      have ha : a ∈ p' := by rw [e1]; simp
      exact absurd (h2 b hb) (Nat.not_le.mpr (h1' a ha))
  · cases m with
    | nil => simp at e2; exact e2.1.symm
    | cons x m =>
      have ex : b = x := by simpa using (List.cons.inj e2).1
      subst ex
      have hb : a ∈ q' := by rw [(List.cons.inj e2).2]; simp
      have ha : b ∈ p := by rw [e1]; simp
      exact absurd (h2' a hb) (Nat.not_le.mpr (h1 b ha))
def keep {A : Type} (k : A → Nat) (a b : A) : A := if k b < k a then b else a
theorem FM.fold {A : Type} {k : A → Nat} : ∀ (l pre : List A) (a : A), FM k pre a → FM k (pre ++ l) (l.foldl (keep k) a)
  | [], pre, a, h => by simpa using h
  | x :: l, pre, a, h => by
    have e : pre ++ x :: l = (pre ++ [x]) ++ l := by simp
    rw [e, List.foldl_cons]
    refine FM.fold l (pre ++ [x]) _ ?_
    unfold keep
    by_cases c : k x < k a
    · rw [if_pos c]
      exact ⟨pre, [], rfl, fun y hy => Nat.lt_of_lt_of_le c (h.le y hy), by simp⟩
    · rw [if_neg c]
      obtain ⟨p, q, rfl, h1, h2⟩ := h
      refine ⟨p, q ++ [x], by simp, h1, fun y hy => ?_⟩
      rcases List.mem_append.mp hy with h | h
      · exact h2 y h
      · simp at h; subst h; omega
theorem FM.single {A : Type} {k : A → Nat} (a : A) : FM k [a] a := ⟨[], [], rfl, by simp, by simp⟩
theorem FM.cons {A : Type} {k : A → Nat} (a : A) (l : List A) : FM k (a :: l) (l.foldl (keep k) a) := FM.fold l [a] a (FM.single a)
/-- the fold that begins with the head and meets it once more -/
theorem FM.again {A : Type} {k : A → Nat} (a : A) (l : List A) : FM k (a :: l) ((a :: l).foldl (keep k) a) := by
  rw [List.foldl_cons]
  have e : keep k a a = a := by unfold keep; simp
  rw [e]
  exact FM.cons a l
theorem FM.flat {A B : Type} {k : A → Nat} {part : B → List A} {c : B → A} {L : List B} {a : A}
    (hp : ∀ i ∈ L, FM k (part i) (c i)) (h : FM k (L.map c) a) : FM k (L.flatMap part) a := by
  obtain ⟨p, q, e, h1, h2⟩ := h
  obtain ⟨l1, l2, rfl, rfl, e2⟩ := List.map_eq_append_iff.mp e
  obtain ⟨j, l3, rfl, rfl, rfl⟩ := List.map_eq_cons_iff.mp e2
  obtain ⟨p', q', e', h1', h2'⟩ := hp j (by simp)
  refine ⟨l1.flatMap part ++ p', q' ++ l3.flatMap part, ?_, ?_, ?_⟩
  · rw [List.flatMap_append, List.flatMap_cons, e']
    simp
  · intro x hx
    rcases List.mem_append.mp hx with h | h
    · obtain ⟨i, hi, hx⟩ := List.mem_flatMap.mp h
      exact Nat.lt_of_lt_of_le (h1 (c i) (List.mem_map_of_mem hi)) ((hp i (by simp [hi])).le x hx)
    · exact h1' x h
  · intro x hx
    rcases List.mem_append.mp hx with h | h
    · exact h2' x h
    · obtain ⟨i, hi, hx⟩ := List.mem_flatMap.mp h
      exact Nat.le_trans (h2 (c i) (List.mem_map_of_mem hi)) ((hp i (by simp [hi])).le x hx)
/-- by a map that keeps the order of the keys -/
theorem FM.map {A B : Type} {k : A → Nat} {k' : B → Nat} {f : A → B} {l : List A} {a : A} (hm : ∀ x ∈ l, ∀ y ∈ l, (k x < k y ↔ k' (f x) < k' (f y)))
    (h : FM k l a) : FM k' (l.map f) (f a) := by
  have ha := h.mem
  obtain ⟨p, q, rfl, h1, h2⟩ := h
  refine ⟨p.map f, q.map f, by simp, ?_, ?_⟩
  · intro y hy
    obtain ⟨x, hx, rfl⟩ := List.mem_map.mp hy
    exact (hm a ha x (by simp [hx])).mp (h1 x hx)
  · intro y hy
    obtain ⟨x, hx, rfl⟩ := List.mem_map.mp hy
    have := h2 x hx
    have w := hm x (by simp [hx]) a ha
    by_cases c : k' (f x) < k' (f a)
    · have := w.mpr c
      omega
    · omega
/-! ### All orders of a length, the first order first -/
def after (h : House) (o : List Nat) : House := o.foldl House.behind h
def all : Nat → House → List (List Nat)
  | 0, _ => [[]]
  | n + 1, h => h.open_.flatMap fun i => (all n (h.behind i)).map (i :: ·)
theorem all_snoc : ∀ (n : Nat) (h : House), all (n + 1) h = (all n h).flatMap fun o => (after h o).open_.map fun i => o ++ [i]
  | 0, h => by
    show (h.open_.flatMap fun i => [[i]]) = [[]].flatMap _
    simp [after]
    induction h.open_ with
    | nil => rfl
    | cons a l ih => simp [ih]
  | n + 1, h => by
    show (h.open_.flatMap fun i => (all (n + 1) (h.behind i)).map (i :: ·)) = (h.open_.flatMap fun i => (all n (h.behind i)).map (i :: ·)).flatMap _
    rw [List.flatMap_assoc]
    congr 1
    funext i
    rw [all_snoc n (h.behind i), List.map_flatMap, List.flatMap_map]
    congr 1
    funext o
    rw [List.map_map]
    rfl
theorem all_length : ∀ (n : Nat) (h : House) (o : List Nat), o ∈ all n h → o.length = n
  | 0, h, o, ho => by simp [all] at ho; subst ho; rfl
  | n + 1, h, o, ho => by
    obtain ⟨i, _, ho⟩ := List.mem_flatMap.mp ho
    obtain ⟨r, hr, rfl⟩ := List.mem_map.mp ho
    simp [all_length n _ r hr]
/-! ### The house's own laws -/
/-- what holds of the tests whatever has passed -/
structure Firm (h : House) : Prop where
  needs : ∀ i, i < h.tests.length → ∀ j ∈ (h.at_ i).needs, j < i
  fails : ∀ i, i < h.tests.length → (h.at_ i).fails < h.whole
theorem Firm.behind {h : House} (f : Firm h) (i : Nat) : Firm (h.behind i) := ⟨f.needs, f.fails⟩
theorem Firm.after {h : House} (f : Firm h) (o : List Nat) : Firm (after h o) := by
  induction o generalizing h with
  | nil => exact f
  | cons i r ih => exact ih (f.behind i)
theorem mem_rest {h : House} {i : Nat} : i ∈ h.rest ↔ i < h.tests.length ∧ i ∉ h.passed := by
  unfold House.rest
  simp [List.mem_filter]
theorem mem_open {h : House} {i : Nat} : i ∈ h.open_ ↔ i < h.tests.length ∧ i ∉ h.passed ∧ ∀ j ∈ (h.at_ i).needs, j ∈ h.passed := by
  unfold House.open_
  rw [List.mem_filter, mem_rest]
  unfold House.may
  simp [List.all_eq_true, and_assoc]
theorem rest_behind {h : House} (i : Nat) : (h.behind i).rest = h.rest.filter fun j => !(j == i) := by
  unfold House.rest
  rw [List.filter_filter]
  show (List.range h.tests.length).filter (fun j => !(h.passed ++ [i]).contains j) = _
  congr 1
  funext j
  rw [List.contains_eq_mem, List.contains_eq_mem]
  by_cases a : j = i <;> by_cases b : j ∈ h.passed <;> simp [a, b]
theorem nodup_rest (h : House) : h.rest.Nodup := List.Nodup.sublist List.filter_sublist List.nodup_range
theorem rest_less {h : House} {i n : Nat} (hi : i ∈ h.rest) (e : h.rest.length = n + 1) : (h.behind i).rest.length = n := by
  rw [rest_behind]
  have hn := nodup_rest h
  revert e hn hi
  generalize h.rest = l
  induction l generalizing n with
  | nil => intro hi; simp at hi
  | cons a l ih =>
    intro hi e hn
    have hn' := List.nodup_cons.mp hn
    by_cases c : a = i
    · subst c
      have : l.filter (fun j => !(j == a)) = l := by
        apply List.filter_eq_self.mpr
        intro x hx
        have : x ≠ a := fun z => hn'.1 (z ▸ hx)
        simp [this]
      simp [this]
      simpa using e
    · have hi' : i ∈ l := by
        rcases List.mem_cons.mp hi with z | z
        · exact absurd z.symm c
        · exact z
      cases l with
      | nil => simp at hi'
      | cons b l =>
        have := ih (n := l.length) hi' (by simp) hn'.2
        rw [List.filter_cons (x := a)]
        have ca : (!(a == i)) = true := by simp [c]
        rw [if_pos ca, List.length_cons, this]
        simpa using e
/-- the lowest that hasn't passed may be done -/
theorem open_some {h : House} (f : Firm h) {n : Nat} (e : h.rest.length = n + 1) : ∃ i, i ∈ h.open_ := by
  have key : ∀ m i, i ≤ m → i ∈ h.rest → ∃ j, j ∈ h.open_ := by
    intro m
    induction m with
    | zero =>
      intro i hi hr
      have z : i = 0 := by omega
      subst z
      have hr' := mem_rest.mp hr
      refine ⟨0, mem_open.mpr ⟨hr'.1, hr'.2, fun j hj => ?_⟩⟩
      have := f.needs 0 hr'.1 j hj
      omega
    | succ m ih =>
      intro i hi hr
      have hr' := mem_rest.mp hr
      by_cases c : ∀ j ∈ (h.at_ i).needs, j ∈ h.passed
      · exact ⟨i, mem_open.mpr ⟨hr'.1, hr'.2, c⟩⟩
      · have : ∃ j, j ∈ (h.at_ i).needs ∧ j ∉ h.passed := by
          apply Classical.byContradiction
          intro z
          apply c
          intro j hj
          apply Classical.byContradiction
          intro y
          exact z ⟨j, hj, y⟩
        obtain ⟨j, hj, hp⟩ := this
        have lt := f.needs i hr'.1 j hj
        exact ih j (by omega) (mem_rest.mpr ⟨by omega, hp⟩)
  cases hh : h.rest with
  | nil => rw [hh] at e; simp at e
  | cons a l => exact key a a (Nat.le_refl _) (by rw [hh]; simp)
theorem open_rest {h : House} {i : Nat} (hi : i ∈ h.open_) : i ∈ h.rest := mem_rest.mpr ⟨(mem_open.mp hi).1, (mem_open.mp hi).2.1⟩
/-! ### The best order is the first of the least among all whole ones -/
theorem best_FM : ∀ (n : Nat) (h : House), Firm h → h.rest.length = n → FM h.price (all n h) (h.best n)
  | 0, h, _, _ => FM.single []
  | n + 1, h, f, e => by
    obtain ⟨i0, hi0⟩ := open_some f e
    have parts : ∀ i ∈ h.open_, FM h.price ((all n (h.behind i)).map (i :: ·)) (i :: (h.behind i).best n) := by
      intro i hi
      have hr := open_rest hi
      have ih := best_FM n (h.behind i) (f.behind i) (rest_less hr e)
      refine FM.map (f := (i :: ·)) ?_ ih
      intro x hx y hy
      have lx := all_length _ _ _ hx
      have ly := all_length _ _ _ hy
      show _ ↔ h.takes h.up i * h.whole ^ (x.length + 1) + (h.whole - (h.at_ i).fails) * (h.behind i).price x < h.takes h.up i * h.whole ^ (y.length + 1) + (h.whole - (h.at_ i).fails) * (h.behind i).price y
      rw [lx, ly, Nat.add_lt_add_iff_left]
      have pos : 0 < h.whole - (h.at_ i).fails := by
        have := f.fails i (mem_rest.mp hr).1
        omega
      exact (Nat.mul_lt_mul_left pos).symm
    have eb : FM h.price (h.open_.map fun i => i :: (h.behind i).best n) (h.best (n + 1)) := by
      show FM h.price _ (match h.open_.map fun i => i :: (h.behind i).best n with
        | [] => []
        | o :: l => l.foldl (fun a b => if h.price b < h.price a then b else a) o)
      cases hh : h.open_.map fun i => i :: (h.behind i).best n with
      | nil =>
        rw [List.map_eq_nil_iff] at hh
        rw [hh] at hi0
        simp at hi0
      | cons o l => exact FM.cons o l
    exact FM.flat parts eb
/-! ### The numbers that a run carries -/
def alive (h : House) : List Nat → Nat
  | [] => 1
  | i :: r => (h.whole - (h.at_ i).fails) * alive h r
theorem alive_behind (h : House) (j : Nat) : ∀ o, alive (h.behind j) o = alive h o
  | [] => rfl
  | i :: r => by
    show (h.whole - (h.at_ i).fails) * alive (h.behind j) r = (h.whole - (h.at_ i).fails) * alive h r
    rw [alive_behind h j r]
theorem alive_snoc (h : House) (i : Nat) : ∀ o, alive h (o ++ [i]) = alive h o * (h.whole - (h.at_ i).fails)
  | [] => by simp [alive]
  | j :: r => by
    show (h.whole - (h.at_ j).fails) * alive h (r ++ [i]) = (h.whole - (h.at_ j).fails) * alive h r * (h.whole - (h.at_ i).fails)
    rw [alive_snoc h i r, Nat.mul_assoc]
theorem price_snoc (i : Nat) : ∀ (o : List Nat) (h : House), h.price (o ++ [i]) = (h.price o + (after h o).takes (after h o).up i * alive h o) * h.whole
  | [], h => by
    simp [House.price, after, alive]
  | j :: r, h => by
    show h.takes h.up j * h.whole ^ ((r ++ [i]).length + 1) + (h.whole - (h.at_ j).fails) * (h.behind j).price (r ++ [i])
      = (h.takes h.up j * h.whole ^ (r.length + 1) + (h.whole - (h.at_ j).fails) * (h.behind j).price r + (after (h.behind j) r).takes (after (h.behind j) r).up i * ((h.whole - (h.at_ j).fails) * alive h r)) * h.whole
    rw [price_snoc i r (h.behind j), alive_behind]
    show _ + _ * (_ * h.whole) = _
    generalize (after (h.behind j) r).takes (after (h.behind j) r).up i = t
    generalize (h.behind j).price r = p
    generalize alive h r = a
    generalize h.whole - (h.at_ j).fails = b
    generalize h.takes h.up j = c
    generalize h.whole = w
    rw [List.length_append, List.length_singleton, Nat.pow_succ w (r.length + 1)]
    grind
theorem long_snoc (i : Nat) : ∀ (o : List Nat) (h : House), h.long (o ++ [i]) = h.long o + (after h o).takes (after h o).up i
  | [], h => by simp [House.long, after]
  | j :: r, h => by
    show h.takes h.up j + (h.behind j).long (r ++ [i]) = h.takes h.up j + (h.behind j).long r + (after (h.behind j) r).takes (after (h.behind j) r).up i
    rw [long_snoc i r (h.behind j)]
    omega
end Tf
set_option Elab.async false
namespace Tf
open Rp08
/-! ### Within a time: of all orders that can be done the one that no other is better than -/
theorem less_irr : ∀ a : List Nat, less a a = false
  | [] => rfl
  | x :: r => by simp [less, less_irr r]
theorem less_trans : ∀ a b c : List Nat, less a b = true → less b c = true → less a c = true
  | [], _, [], h, g => by cases ‹List Nat› <;> simp [less] at h g
  | [], _, _ :: _, _, _ => rfl
  | _ :: _, [], _, h, _ => by simp [less] at h
  | _ :: _, _ :: _, [], _, g => by simp [less] at g
  | x :: a, y :: b, z :: c, h, g => by
    simp only [less, Bool.or_eq_true, Bool.and_eq_true, decide_eq_true_eq, beq_iff_eq] at h g ⊢
    rcases h with h | ⟨rfl, h⟩
    · rcases g with g | ⟨rfl, g⟩
      · exact Or.inl (by omega)
      · exact Or.inl h
    · rcases g with g | ⟨rfl, g⟩
      · exact Or.inl g
      · exact Or.inr ⟨rfl, less_trans a b c h g⟩
theorem less_total : ∀ a b : List Nat, less a b = false → less b a = false → a = b
  | [], [], _, _ => rfl
  | [], _ :: _, h, _ => by simp [less] at h
  | _ :: _, [], _, g => by simp [less] at g
  | x :: a, y :: b, h, g => by
    simp only [less, Bool.or_eq_false_iff, Bool.and_eq_false_iff, decide_eq_false_iff_not, beq_eq_false_iff_ne] at h g
    have e : x = y := by omega
    subst e
    have h' := h.2.resolve_left (by simp)
    have g' := g.2.resolve_left (by simp)
    rw [less_total a b h' g']
theorem better_iff {h : House} {a b : List Nat} : h.better a b = true ↔ h.none_ a < h.none_ b ∨ (h.none_ a = h.none_ b ∧ (h.long a < h.long b ∨ (h.long a = h.long b ∧ less a b = true))) := by
  unfold House.better
  simp only [Bool.or_eq_true, Bool.and_eq_true, decide_eq_true_eq, beq_iff_eq]
theorem better_trans {h : House} {a b c : List Nat} (p : h.better a b = true) (q : h.better b c = true) : h.better a c = true := by
  rw [better_iff] at p q ⊢
  rcases p with p | ⟨p1, p | ⟨p2, p⟩⟩ <;> rcases q with q | ⟨q1, q | ⟨q2, q⟩⟩ <;> first
    | (left; omega)
    | (right; refine ⟨by omega, ?_⟩; first | (left; omega) | (right; exact ⟨by omega, less_trans _ _ _ p q⟩))
theorem better_irr {h : House} {a : List Nat} : ¬ h.better a a = true := by
  rw [better_iff, less_irr]
  rintro (c | ⟨_, c | ⟨_, c⟩⟩)
  · omega
  · omega
  · cases c
theorem better_total {h : House} {a b : List Nat} (p : ¬ h.better a b = true) (q : ¬ h.better b a = true) : a = b := by
  rw [better_iff] at p q
  have e1 : h.none_ a = h.none_ b := by omega
  have e2 : h.long a = h.long b := by
    have p' : ¬ h.long a < h.long b := fun z => p (Or.inr ⟨e1, Or.inl z⟩)
    have q' : ¬ h.long b < h.long a := fun z => q (Or.inr ⟨e1.symm, Or.inl z⟩)
    omega
  refine less_total a b ?_ ?_
  · cases e : less a b with
    | false => rfl
    | true => exact absurd (Or.inr ⟨e1, Or.inr ⟨e2, e⟩⟩) p
  · cases e : less b a with
    | false => rfl
    | true => exact absurd (Or.inr ⟨e1.symm, Or.inr ⟨e2.symm, e⟩⟩) q
/-- r is in l, and nothing of l is better -/
structure Top (h : House) (l : List (List Nat)) (r : List Nat) : Prop where
  mem : r ∈ l
  top : ∀ x ∈ l, ¬ h.better x r = true
theorem Top.uniq {h : House} {l : List (List Nat)} {r s : List Nat} (a : Top h l r) (b : Top h l s) : r = s := better_total (b.top r a.mem) (a.top s b.mem)
/-- the same members, the same top -/
theorem Top.of_mem {h : House} {l m : List (List Nat)} {r : List Nat} (e : ∀ x, x ∈ l ↔ x ∈ m) (a : Top h l r) : Top h m r := ⟨(e r).mp a.mem, fun x hx => a.top x ((e x).mpr hx)⟩
def keepB (h : House) (a o : List Nat) : List Nat := if h.better o a = true then o else a
theorem Top.fold {h : House} : ∀ (l pre : List (List Nat)) (a : List Nat), Top h pre a → Top h (pre ++ l) (l.foldl (keepB h) a)
  | [], pre, a, t => by simpa using t
  | x :: l, pre, a, t => by
    have e : pre ++ x :: l = (pre ++ [x]) ++ l := by simp
    rw [e, List.foldl_cons]
    refine Top.fold l (pre ++ [x]) _ ?_
    unfold keepB
    by_cases c : h.better x a = true
    · rw [if_pos c]
      refine ⟨by simp, fun y hy => ?_⟩
      rcases List.mem_append.mp hy with z | z
      · exact fun w => t.top y z (better_trans w c)
      · simp at z; subst z; exact better_irr
    · rw [if_neg c]
      refine ⟨by simp [t.mem], fun y hy => ?_⟩
      rcases List.mem_append.mp hy with z | z
      · exact t.top y z
      · simp at z; subst z; exact c
theorem mem_orders : ∀ (n : Nat) (h : House) (b : Nat) (o : List Nat), o ∈ h.orders n b ↔ (h.can o = true ∧ h.long o ≤ b ∧ o.length ≤ n)
  | 0, h, b, o => by
    show o ∈ [[]] ↔ _
    constructor
    · intro z
      simp at z
      subst z
      simp [House.can, House.long]
    · rintro ⟨_, _, z⟩
      have : o = [] := List.eq_nil_of_length_eq_zero (by omega)
      simp [this]
  | n + 1, h, b, [] => by
    show [] ∈ ([] :: _) ↔ _
    simp [House.can, House.long]
  | n + 1, h, b, i :: r => by
    show (i :: r) ∈ ([] :: _) ↔ _
    have e1 : h.can (i :: r) = (decide (i < h.tests.length) && (h.may i && (h.behind i).can r)) := rfl
    have e2 : h.long (i :: r) = h.takes h.up i + (h.behind i).long r := rfl
    rw [e1, e2]
    have open_iff : ∀ i, i ∈ h.open_ ↔ i < h.tests.length ∧ h.may i = true := by
      intro i
      unfold House.open_
      rw [List.mem_filter, mem_rest]
      unfold House.may
      simp
      grind
    simp only [List.mem_cons, reduceCtorEq, false_or, List.mem_flatMap, List.mem_filter, List.mem_map, decide_eq_true_eq, Bool.and_eq_true, List.length_cons]
    constructor
    · rintro ⟨j, ⟨hj, ht⟩, s, hs, e⟩
      obtain ⟨rfl, rfl⟩ := List.cons.inj e
      obtain ⟨c, l, m⟩ := (mem_orders n (h.behind j) _ s).mp hs
      obtain ⟨hj1, hj2⟩ := (open_iff j).mp hj
      exact ⟨⟨hj1, hj2, c⟩, by omega, by omega⟩
    · rintro ⟨⟨h1, h2, h3⟩, h4, h5⟩
      exact ⟨i, ⟨(open_iff i).mpr ⟨h1, h2⟩, by omega⟩, r, (mem_orders n (h.behind i) _ r).mpr ⟨h3, by omega, by omega⟩, rfl⟩
theorem open_iff {h : House} {i : Nat} : i ∈ h.open_ ↔ i < h.tests.length ∧ h.may i = true := by
  unfold House.open_
  rw [List.mem_filter, mem_rest]
  unfold House.may
  simp
  grind
/-- an order that can be done has no more tests than haven't passed -/
theorem can_length : ∀ (o : List Nat) (h : House), h.can o = true → o.length ≤ h.rest.length
  | [], _, _ => by simp
  | i :: r, h, c => by
    have e1 : h.can (i :: r) = (decide (i < h.tests.length) && (h.may i && (h.behind i).can r)) := rfl
    rw [e1] at c
    simp only [Bool.and_eq_true, decide_eq_true_eq] at c
    have hr := open_rest (open_iff.mpr ⟨c.1, c.2.1⟩)
    have ih := can_length r (h.behind i) c.2.2
    cases e : h.rest.length with
    | zero =>
      have := List.eq_nil_of_length_eq_zero e
      rw [this] at hr
      simp at hr
    | succ n =>
      rw [rest_less hr e] at ih
      simp
      omega
theorem can_all : ∀ (o : List Nat) (h : House), h.can o = true ↔ o ∈ all o.length h
  | [], h => by simp [House.can, all]
  | i :: r, h => by
    have e1 : h.can (i :: r) = (decide (i < h.tests.length) && (h.may i && (h.behind i).can r)) := rfl
    rw [e1]
    simp only [Bool.and_eq_true, decide_eq_true_eq]
    show _ ↔ i :: r ∈ (h.open_.flatMap fun j => (all r.length (h.behind j)).map (j :: ·))
    rw [List.mem_flatMap]
    constructor
    · rintro ⟨a, b, c⟩
      exact ⟨i, open_iff.mpr ⟨a, b⟩, List.mem_map.mpr ⟨r, (can_all r _).mp c, rfl⟩⟩
    · rintro ⟨j, hj, hr⟩
      obtain ⟨s, hs, e⟩ := List.mem_map.mp hr
      have e1 : j = i := (List.cons.inj e).1
      have e2 : s = r := (List.cons.inj e).2
      rw [e2, e1] at hs
      rw [e1] at hj
      exact ⟨(open_iff.mp hj).1, (open_iff.mp hj).2, (can_all r _).mpr hs⟩
theorem mem_all {n : Nat} {h : House} {o : List Nat} : o ∈ all n h ↔ h.can o = true ∧ o.length = n := by
  constructor
  · intro z
    have e := all_length _ _ _ z
    subst e
    exact ⟨(can_all o h).mpr z, rfl⟩
  · rintro ⟨c, rfl⟩
    exact (can_all o h).mp c
/-- **what within gives** -/
theorem within_Top (h : House) (b : Nat) : Top h (h.orders h.rest.length b) (h.within b) := by
  unfold House.within
  have t : Top h [[]] [] := ⟨by simp, fun x hx => by simp at hx; subst hx; exact better_irr⟩
  have t2 := Top.fold (h.orders h.rest.length b) [[]] [] t
  refine t2.of_mem fun x => ?_
  constructor
  · intro z
    rcases List.mem_append.mp z with y | y
    · simp at y
      subst y
      rw [mem_orders]
      simp [House.can, House.long]
    · exact y
  · intro z
    exact List.mem_append.mpr (Or.inr z)
theorem within_is {h : House} {b : Nat} {r : List Nat} (c : h.can r = true) (l : h.long r ≤ b) (t : ∀ o, h.can o = true → h.long o ≤ b → ¬ h.better o r = true) : h.within b = r := by
  refine (within_Top h b).uniq ⟨(mem_orders _ _ _ _).mpr ⟨c, l, can_length r h c⟩, fun x hx => ?_⟩
  obtain ⟨c', l', _⟩ := (mem_orders _ _ _ _).mp hx
  exact t x c' l'
theorem within_can (h : House) (b : Nat) : h.can (h.within b) = true ∧ h.long (h.within b) ≤ b := by
  obtain ⟨c, l, _⟩ := (mem_orders _ _ _ _).mp (within_Top h b).mem
  exact ⟨c, l⟩
/-! ### The chance that none fails -/
theorem fold_alive (h : House) : ∀ (o : List Nat) (p : Nat), o.foldl (fun p i => p * (h.whole - (h.at_ i).fails)) p = p * alive h o
  | [], p => by simp [alive]
  | i :: r, p => by
    rw [List.foldl_cons, fold_alive h r]
    show _ = p * ((h.whole - (h.at_ i).fails) * alive h r)
    rw [Nat.mul_assoc]
theorem none_is (h : House) (o : List Nat) : h.none_ o = alive h o * h.whole ^ (h.tests.length - o.length) := by
  unfold House.none_
  rw [fold_alive, Nat.one_mul]
theorem rest_le (h : House) : h.rest.length ≤ h.tests.length := by
  unfold House.rest
  have := List.length_filter_le (fun i => !h.passed.contains i) (List.range h.tests.length)
  rwa [List.length_range] at this
/-- comparing the chances across by the other's scale -/
theorem none_lt {h : House} (w : 0 < h.whole) {a b : List Nat} (la : a.length ≤ h.tests.length) (lb : b.length ≤ h.tests.length) :
    h.none_ a < h.none_ b ↔ alive h a * h.whole ^ b.length < alive h b * h.whole ^ a.length := by
  rw [none_is, none_is]
  have pa : 0 < h.whole ^ (a.length + b.length) := Nat.pow_pos w
  have pt : 0 < h.whole ^ h.tests.length := Nat.pow_pos w
  have ea : h.whole ^ h.tests.length = h.whole ^ (h.tests.length - a.length) * h.whole ^ a.length := by rw [← Nat.pow_add]; congr 1; omega
  have eb : h.whole ^ h.tests.length = h.whole ^ (h.tests.length - b.length) * h.whole ^ b.length := by rw [← Nat.pow_add]; congr 1; omega
  have x1 : alive h a * h.whole ^ (h.tests.length - a.length) * h.whole ^ (a.length + b.length) = alive h a * h.whole ^ b.length * h.whole ^ h.tests.length := by
    rw [ea, Nat.pow_add]; grind
  have x2 : alive h b * h.whole ^ (h.tests.length - b.length) * h.whole ^ (a.length + b.length) = alive h b * h.whole ^ a.length * h.whole ^ h.tests.length := by
    rw [eb, Nat.pow_add]; grind
  exact (Nat.mul_lt_mul_right pa).symm.trans (by rw [x1, x2]; exact Nat.mul_lt_mul_right pt)
/-- the chance told, by the order's own scale -/
theorem chance_is {h : House} (w : 0 < h.whole) {o : List Nat} (l : o.length ≤ h.tests.length) :
    MILLION * (h.whole ^ h.tests.length - h.none_ o) / h.whole ^ h.tests.length = MILLION * (h.whole ^ o.length - alive h o) / h.whole ^ o.length := by
  rw [none_is]
  have e : h.whole ^ h.tests.length = h.whole ^ o.length * h.whole ^ (h.tests.length - o.length) := by rw [← Nat.pow_add]; congr 1; omega
  rw [e, ← Nat.sub_mul, ← Nat.mul_assoc]
  exact Nat.mul_div_mul_right _ _ (Nat.pow_pos w)
end Tf
set_option Elab.async false
namespace Tf
open Rp08
/-! ### The state that a line of calls can reach -/
structure Good (h : House) : Prop where
  w2 : 2 ≤ h.whole
  w100 : h.whole ≤ 100
  s1 : 1 ≤ h.setups.length
  s4 : h.setups.length ≤ 4
  sT : ∀ x ∈ h.setups, x ≤ 10000
  t6 : h.tests.length ≤ 6
  tT : ∀ t ∈ h.tests, 1 ≤ t.time ∧ t.time ≤ 10000 ∧ t.fails < h.whole ∧ t.env < h.setups.length ∧ t.needs.length ≤ 10
  tN : ∀ i, i < h.tests.length → ∀ j ∈ (h.at_ i).needs, j < i
  pN : h.passed.Nodup
  pT : ∀ i ∈ h.passed, i < h.tests.length
  uE : ∀ e, h.up = some e → e < h.setups.length
theorem at_mem {h : House} {i : Nat} (hi : i < h.tests.length) : h.at_ i ∈ h.tests := by
  unfold House.at_
  rw [List.getD_eq_getElem?_getD, List.getElem?_eq_getElem hi]
  exact List.getElem_mem hi
theorem at_get {h : House} {i : Nat} (hi : i < h.tests.length) : h.tests[i]? = some (h.at_ i) := by
  unfold House.at_
  rw [List.getD_eq_getElem?_getD, List.getElem?_eq_getElem hi]
  rfl
theorem Good.firm {h : House} (g : Good h) : Firm h := ⟨g.tN, fun _ hi => (g.tT _ (at_mem hi)).2.2.1⟩
theorem good_init : Good init := ⟨by decide, by decide, by decide, by decide, by decide, by decide, by simp [init], fun i hi => by simp [init] at hi, by simp [init], by simp [init], by simp [init]⟩
theorem Good.behind {h : House} (g : Good h) {i : Nat} (hi : i < h.tests.length) (hp : i ∉ h.passed) : Good (h.behind i) where
  w2 := g.w2
  w100 := g.w100
  s1 := g.s1
  s4 := g.s4
  sT := g.sT
  t6 := g.t6
  tT := g.tT
  tN := g.tN
  pN := by
    show (h.passed ++ [i]).Nodup
    rw [List.nodup_append]
    refine ⟨g.pN, by simp, fun a ha b hb e => ?_⟩
    simp at hb
    subst hb
    subst e
    exact hp ha
  pT := by
    intro j hj
    rcases List.mem_append.mp (show j ∈ h.passed ++ [i] from hj) with z | z
    · exact g.pT j z
    · simp at z
      subst z
      exact hi
  uE := by
    intro e he
    have e1 : (h.at_ i).env = e := Option.some.inj he
    rw [← e1]
    exact (g.tT _ (at_mem hi)).2.2.2.1
theorem Good.open {h : House} (g : Good h) {i : Nat} (hi : i ∈ h.open_) : Good (h.behind i) := g.behind (mem_open.mp hi).1 (mem_open.mp hi).2.1
theorem Good.can {h : House} (g : Good h) : ∀ {o : List Nat}, h.can o = true → Good (after h o) := by
  intro o
  induction o generalizing h with
  | nil => intro _; exact g
  | cons i r ih =>
    intro c
    have e1 : h.can (i :: r) = (decide (i < h.tests.length) && (h.may i && (h.behind i).can r)) := rfl
    rw [e1] at c
    simp only [Bool.and_eq_true, decide_eq_true_eq] at c
    exact ih (g.open (open_iff.mpr ⟨c.1, c.2.1⟩)) c.2.2
theorem Good.pass6 {h : House} (g : Good h) : h.passed.length ≤ h.tests.length := by
  have e : h.passed.length ≤ (List.range h.tests.length).length := by
    refine (List.Nodup.length_le_of_subset g.pN ?_)
    intro x hx
    exact List.mem_range.mpr (g.pT x hx)
  rwa [List.length_range] at e
/-- how many haven't passed -/
theorem Good.rest_len {h : House} (g : Good h) : h.rest.length = h.tests.length - h.passed.length := by
  have a : (List.range h.tests.length).Perm (((List.range h.tests.length).filter fun i => h.passed.contains i) ++ ((List.range h.tests.length).filter fun i => !h.passed.contains i)) := (List.filter_append_perm _ _).symm
  have b := a.length_eq
  rw [List.length_append, List.length_range] at b
  have c : ((List.range h.tests.length).filter fun i => h.passed.contains i).length = h.passed.length := by
    apply Nat.le_antisymm
    · refine List.Nodup.length_le_of_subset (List.Nodup.sublist List.filter_sublist List.nodup_range) ?_
      intro x hx
      simpa using (List.mem_filter.mp hx).2
    · refine List.Nodup.length_le_of_subset g.pN ?_
      intro x hx
      exact List.mem_filter.mpr ⟨List.mem_range.mpr (g.pT x hx), by simpa using hx⟩
  unfold House.rest
  omega
theorem Good.takes_le {h : House} (g : Good h) {i : Nat} (hi : i < h.tests.length) (up : Option Nat) : h.takes up i ≤ 20000 := by
  unfold House.takes
  have a := (g.tT _ (at_mem hi))
  have b : h.setups.getD (h.at_ i).env 0 ≤ 10000 := by
    rw [List.getD_eq_getElem?_getD, List.getElem?_eq_getElem a.2.2.2.1]
    exact g.sT _ (List.getElem_mem _)
  split <;> omega
/-! ### needs: there, and told rising -/
def fits : Nat → Nat → List Nat → Bool
  | _, _, [] => true
  | lo, n, k :: r => decide (lo ≤ k) && (decide (k < n) && fits (k + 1) n r)
theorem fits_is : ∀ (ns : List Nat) (lo n : Nat), fits lo n ns = ((match ns with | [] => true | k :: _ => decide (lo ≤ k)) && (!(ns.any fun k => decide (n ≤ k)) && rising ns))
  | [], lo, n => by simp [fits, rising]
  | [k], lo, n => by
    simp only [fits, rising, List.any_cons, List.any_nil, Bool.or_false, Bool.and_true]
    congr 1
    by_cases c : k < n
    · have : ¬ n ≤ k := by omega
      simp [c, this]
    · have : n ≤ k := by omega
      simp [c, this]
  | k :: m :: r, lo, n => by
    rw [fits, fits_is (m :: r) (k + 1) n]
    simp only [rising, List.any_cons]
    have e : decide (k < n) = !decide (n ≤ k) := by
      by_cases c : k < n
      · have : ¬ n ≤ k := by omega
        simp [c, this]
      · have : n ≤ k := by omega
        simp [c, this]
    rw [e]
    have e2 : decide (k + 1 ≤ m) = decide (k < m) := rfl
    rw [e2]
    cases decide (lo ≤ k) <;> cases decide (n ≤ k) <;> cases decide (k < m) <;> cases decide (n ≤ m) <;> simp
theorem fits_zero (ns : List Nat) (n : Nat) : fits 0 n ns = false ↔ ((ns.any fun k => decide (n ≤ k)) = true ∨ rising ns = false) := by
  rw [fits_is]
  cases ns with
  | nil => simp [rising]
  | cons k r => cases (k :: r).any fun k => decide (n ≤ k) <;> cases rising (k :: r) <;> simp
theorem fits_lt : ∀ (ns : List Nat) (lo n : Nat), fits lo n ns = true → ∀ k ∈ ns, k < n
  | [], _, _, _ => by simp
  | k :: r, lo, n, h => by
    simp only [fits, Bool.and_eq_true, decide_eq_true_eq] at h
    intro j hj
    rcases List.mem_cons.mp hj with z | z
    · subst z; exact h.2.1
    · exact fits_lt r _ n h.2.2 j z
theorem Good.add {h : House} (g : Good h) {t f e : Nat} {ns : List Nat} (t1 : 1 ≤ t) (t2 : t ≤ 10000) (f1 : f < h.whole) (e1 : e < h.setups.length) (h6 : h.tests.length < 6) (fit : fits 0 h.tests.length ns = true) (l : ns.length ≤ 10) :
    Good { h with tests := h.tests ++ [⟨t, f, e, ns⟩] } where
  w2 := g.w2
  w100 := g.w100
  s1 := g.s1
  s4 := g.s4
  sT := g.sT
  t6 := by simp; omega
  tT := by
    intro x hx
    rcases List.mem_append.mp hx with z | z
    · exact g.tT x z
    · simp at z
      subst z
      exact ⟨t1, t2, f1, e1, l⟩
  tN := by
    intro i hi j hj
    have e2 : House.at_ { h with tests := h.tests ++ [⟨t, f, e, ns⟩] } i = (h.tests ++ [(⟨t, f, e, ns⟩ : Rp08.Test)]).getD i ⟨1, 0, 0, []⟩ := rfl
    rw [e2, List.getD_eq_getElem?_getD] at hj
    by_cases c : i < h.tests.length
    · rw [List.getElem?_append_left c] at hj
      refine g.tN i c j ?_
      unfold House.at_
      rw [List.getD_eq_getElem?_getD]
      exact hj
    · have : i = h.tests.length := by
        simp at hi
        omega
      subst this
      simp at hj
      exact fits_lt ns 0 _ fit j hj
  pN := g.pN
  pT := by
    intro i hi
    have := g.pT i hi
    simp
    omega
  uE := g.uE
theorem good_begins {d : Nat} {l : List Nat} (c : ¬ (d < 2 ∨ WHOLE < d ∨ l = [] ∨ ENVS < l.length ∨ (l.all fun x => decide (x ≤ TIME)) = false)) : Good ⟨d, l, [], [], none⟩ := by
  have c1 : ¬ d < 2 := fun z => c (Or.inl z)
  have c2 : ¬ 100 < d := fun z => c (Or.inr (Or.inl z))
  have c3 : ¬ l = [] := fun z => c (Or.inr (Or.inr (Or.inl z)))
  have c4 : ¬ 4 < l.length := fun z => c (Or.inr (Or.inr (Or.inr (Or.inl z))))
  have c5 : ¬ (l.all fun x => decide (x ≤ TIME)) = false := fun z => c (Or.inr (Or.inr (Or.inr (Or.inr z))))
  have c5' : (l.all fun x => decide (x ≤ TIME)) = true := by simpa using c5
  refine ⟨by show 2 ≤ d; omega, by show d ≤ 100; omega, ?_, by show l.length ≤ 4; omega, ?_, by simp, by simp, fun i hi => by simp at hi, by simp, by simp, by simp⟩
  · show 1 ≤ l.length
    cases l with
    | nil => exact absurd rfl c3
    | cons a r => simp
  · intro x hx
    exact of_decide_eq_true (List.all_eq_true.mp c5' x hx)
/-! ### One list of calls, read from its head -/
inductive Read : List Int → List (List Int) → List Int → Prop
  | begins (d n : Int) (r : List Int) (h0 : 0 ≤ n) (h1 : n.toNat ≤ r.length) : Read (0 :: d :: n :: r) [[0, d], r.take n.toNat] (r.drop n.toNat)
  | test (t f e n : Int) (r : List Int) (h0 : 0 ≤ n) (h1 : n.toNat ≤ r.length) : Read (1 :: t :: f :: e :: n :: r) [[1, t, f, e], r.take n.toNat] (r.drop n.toNat)
  | pass (i : Int) (r : List Int) : Read (2 :: i :: r) [[2, i]] r
  | order (r : List Int) : Read (3 :: r) [[3]] r
  | price (n : Int) (r : List Int) (h0 : 0 ≤ n) (h1 : n.toNat ≤ r.length) : Read (4 :: n :: r) [[4], r.take n.toNat] (r.drop n.toNat)
  | within (b : Int) (r : List Int) : Read (5 :: b :: r) [[5, b]] r
  | opens (r : List Int) : Read (6 :: r) [[6]] r
theorem row_is {l x t : List Int} (h : PyFlat.row l = some (x, t)) : ∃ n r, l = n :: r ∧ 0 ≤ n ∧ n.toNat ≤ r.length ∧ x = r.take n.toNat ∧ t = r.drop n.toNat := by
  cases l with
  | nil => cases h
  | cons n r =>
    unfold PyFlat.row at h
    dsimp only at h
    split at h
    · rename_i c
      cases h
      exact ⟨n, r, rfl, c.1, c.2, rfl, rfl⟩
    · cases h
theorem rows1_is {l t : List Int} {xs : List (List Int)} (h : PyFlat.rows 1 l = some (xs, t)) : ∃ n r, l = n :: r ∧ 0 ≤ n ∧ n.toNat ≤ r.length ∧ xs = [r.take n.toNat] ∧ t = r.drop n.toNat := by
  unfold PyFlat.rows at h
  cases e : PyFlat.row l with
  | none => rw [e] at h; cases h
  | some p =>
    obtain ⟨x, s⟩ := p
    rw [e] at h
    cases h
    obtain ⟨n, r, h1, h2, h3, rfl, rfl⟩ := row_is e
    exact ⟨n, r, h1, h2, h3, rfl, rfl⟩
theorem rows0_is {l t : List Int} {xs : List (List Int)} (h : PyFlat.rows 0 l = some (xs, t)) : xs = [] ∧ t = l := by
  cases h
  exact ⟨rfl, rfl⟩
theorem call_is {l t : List Int} {c : List (List Int)} (h : PyFlat.call PyRp08.shape l = some (c, t)) : Read l c t := by
  cases l with
  | nil => cases h
  | cons p r =>
    unfold PyFlat.call at h
    dsimp only at h
    cases e : PyRp08.shape p with
    | none => rw [e] at h; cases h
    | some nk =>
      obtain ⟨n, k⟩ := nk
      rw [e] at h
      dsimp only at h
      split at h
      · cases h
      · rename_i c1
        cases e2 : PyFlat.rows k (r.drop n) with
        | none => rw [e2] at h; cases h
        | some q =>
          obtain ⟨xs, u⟩ := q
          rw [e2] at h
          cases h
          unfold PyRp08.shape at e
          split at e
          · rename_i ep
            subst ep
            cases e
            match r, c1 with
            | d :: r, _ =>
              obtain ⟨m, s, h1, h2, h3, rfl, rfl⟩ := rows1_is e2
              simp at h1
              subst h1
              exact Read.begins d m s h2 h3
            | [], c1 => simp at c1
          split at e
          · rename_i ep
            subst ep
            cases e
            match r, c1 with
            | a :: b :: c :: r, _ =>
              obtain ⟨m, s, h1, h2, h3, rfl, rfl⟩ := rows1_is e2
              simp at h1
              subst h1
              exact Read.test a b c m s h2 h3
            | [], c1 => simp at c1
            | [_], c1 => simp at c1
            | [_, _], c1 => simp at c1
          split at e
          · rename_i ep
            subst ep
            cases e
            match r, c1 with
            | d :: r, _ =>
              obtain ⟨rfl, rfl⟩ := rows0_is e2
              exact Read.pass d _
            | [], c1 => simp at c1
          split at e
          · rename_i ep
            subst ep
            cases e
            obtain ⟨rfl, rfl⟩ := rows0_is e2
            exact Read.order _
          split at e
          · rename_i ep
            subst ep
            cases e
            obtain ⟨m, s, h1, h2, h3, rfl, rfl⟩ := rows1_is e2
            simp at h1
            subst h1
            exact Read.price m s h2 h3
          split at e
          · rename_i ep
            subst ep
            cases e
            match r, c1 with
            | d :: r, _ =>
              obtain ⟨rfl, rfl⟩ := rows0_is e2
              exact Read.within d _
            | [], c1 => simp at c1
          split at e
          · rename_i ep
            subst ep
            cases e
            obtain ⟨rfl, rfl⟩ := rows0_is e2
            exact Read.opens _
          · cases e
/-- all the calls of a list, read one behind another -/
inductive Reads : List Int → List (List (List Int)) → Prop
  | nil : Reads [] []
  | cons {l t : List Int} {c : List (List Int)} {cs : List (List (List Int))} (h : Read l c t) (r : Reads t cs) : Reads l (c :: cs)
theorem calls_is : ∀ (f : Nat) (l : List Int) (cs : List (List (List Int))), PyFlat.calls PyRp08.shape f l = some cs → Reads l cs
  | _, [], cs, h => by
    unfold PyFlat.calls at h
    cases h
    exact .nil
  | 0, _ :: _, cs, h => by
    unfold PyFlat.calls at h
    cases h
  | f + 1, p :: r, cs, h => by
    unfold PyFlat.calls at h
    cases e : PyFlat.call PyRp08.shape (p :: r) with
    | none => rw [e] at h; cases h
    | some q =>
      obtain ⟨c, t⟩ := q
      rw [e] at h
      dsimp only at h
      cases e2 : PyFlat.calls PyRp08.shape f t with
      | none => rw [e2] at h; cases h
      | some ds =>
        rw [e2] at h
        cases h
        exact .cons (call_is e) (calls_is f t ds e2)
theorem whole_read {l t : List Int} {c : List (List Int)} (h : Read l c t) : PyRp08.whole c = c := by
  cases h <;> rfl
theorem whole_reads {l : List Int} {cs : List (List (List Int))} (h : Reads l cs) : cs.map PyRp08.whole = cs := by
  induction h with
  | nil => rfl
  | cons h r ih => rw [List.map_cons, whole_read h, ih]
/-- **what is asked gives the calls, and what is due is what they answer one behind another** -/
theorem due {l : List Int} (h : PyRp08.answers_asked l = true) : ∃ cs, Reads l cs ∧ (∀ c ∈ cs, Rp08Neutral.asked1 c = true) ∧ cs.length ≤ 60 ∧ (PyRp08.answers l).length ≤ 10000000 ∧
    PyRp08.answers l = PyFlat.told (PyFlat.played Rp08Neutral.step Rp08Neutral.start cs) := by
  unfold PyRp08.answers_asked at h
  cases e : PyFlat.calls PyRp08.shape l.length l with
  | none => rw [e] at h; cases h
  | some raw =>
    rw [e] at h
    simp only [Bool.and_eq_true] at h
    have rd := calls_is _ _ _ e
    have wr := whole_reads rd
    obtain ⟨⟨⟨⟨_, h2⟩, _⟩, h4⟩, h5⟩ := h
    rw [wr] at h4
    unfold Rp08Neutral.asked at h4
    rw [Bool.and_eq_true] at h4
    refine ⟨raw, rd, fun c hc => List.all_eq_true.mp h4.1 c hc, by simpa [PyFlat.atMost] using h2, of_decide_eq_true h5, ?_⟩
    unfold PyRp08.answers PyRp08.calls
    rw [e]
    show PyFlat.told (PyFlat.played Rp08Neutral.step Rp08Neutral.start (raw.map PyRp08.whole)) = _
    rw [wr]
end Tf
set_option Elab.async false
namespace Tf
open Rp08
/-! ### All orders, also those that aren't whole, the first order first -/
theorem after_cat (h : House) (o q : List Nat) : after h (o ++ q) = after (after h o) q := by
  unfold after
  rw [List.foldl_append]
/-- o, and all that goes on from it by at most so many tests -/
def sub (h : House) : Nat → List Nat → List (List Nat)
  | 0, o => [o]
  | n + 1, o => o :: (after h o).open_.flatMap fun i => sub h n (o ++ [i])
/-- o, and all that goes on from it -/
def full (h : House) (o : List Nat) : List (List Nat) := sub h (h.rest.length - o.length) o
theorem can_cons {h : House} {i : Nat} {r : List Nat} : h.can (i :: r) = true ↔ i ∈ h.open_ ∧ (h.behind i).can r = true := by
  have e1 : h.can (i :: r) = (decide (i < h.tests.length) && (h.may i && (h.behind i).can r)) := rfl
  rw [e1, open_iff]
  simp only [Bool.and_eq_true, decide_eq_true_eq, and_assoc]
theorem can_cat : ∀ (o : List Nat) (h : House) (q : List Nat), h.can (o ++ q) = true ↔ h.can o = true ∧ (after h o).can q = true
  | [], h, q => by simp [House.can, after]
  | i :: r, h, q => by
    rw [List.cons_append, can_cons, can_cons, can_cat r (h.behind i) q, and_assoc]
    rfl
/-- how many haven't passed behind an order -/
theorem rest_after : ∀ (o : List Nat) (h : House), h.can o = true → (after h o).rest.length = h.rest.length - o.length
  | [], h, _ => by simp [after]
  | i :: r, h, c => by
    obtain ⟨c1, c2⟩ := can_cons.mp c
    have hr := open_rest c1
    have ih := rest_after r (h.behind i) c2
    cases e : h.rest.length with
    | zero =>
      have := List.eq_nil_of_length_eq_zero e
      rw [this] at hr
      simp at hr
    | succ n =>
      rw [rest_less hr e] at ih
      have e2 : after h (i :: r) = after (h.behind i) r := rfl
      rw [e2, ih, List.length_cons]
      omega
theorem full_eq {h : House} {o : List Nat} (c : h.can o = true) : full h o = o :: (after h o).open_.flatMap fun i => full h (o ++ [i]) := by
  unfold full
  cases e : h.rest.length - o.length with
  | zero =>
    have e2 := rest_after o h c
    rw [e] at e2
    have e3 : (after h o).open_ = [] := by
      unfold House.open_
      rw [List.eq_nil_of_length_eq_zero e2]
      rfl
    rw [e3]
    rfl
  | succ n =>
    have e2 : ∀ i, h.rest.length - (o ++ [i]).length = n := fun i => by
      rw [List.length_append, List.length_singleton]
      omega
    simp only [e2]
    rfl
theorem full_ne (h : House) (o : List Nat) : 1 ≤ (full h o).length := by
  unfold full
  cases h.rest.length - o.length with
  | zero => simp [sub]
  | succ n => simp [sub]
theorem open_le6 {h : House} (h6 : h.tests.length ≤ 6) : h.open_.length ≤ 6 := by
  unfold House.open_
  have a := List.length_filter_le h.may h.rest
  have b := rest_le h
  omega
theorem flat_le0 {B C : Type} (f : B → List C) (n : Nat) : ∀ (l : List B), (∀ x ∈ l, (f x).length ≤ n) → (l.flatMap f).length ≤ n * l.length
  | [], _ => by simp
  | a :: r, h => by
    rw [List.flatMap_cons, List.length_append, List.length_cons, Nat.mul_succ]
    have h1 := h a (List.mem_cons_self ..)
    have h2 := flat_le0 f n r fun x hx => h x (List.mem_cons_of_mem _ hx)
    omega
theorem tests_after (h : House) : ∀ o, (after h o).tests = h.tests := by
  intro o
  induction o generalizing h with
  | nil => rfl
  | cons i r ih => exact ih (h.behind i)
theorem sub_count {h : House} (h6 : h.tests.length ≤ 6) : ∀ (n : Nat) (o : List Nat), (sub h n o).length ≤ 7 ^ n
  | 0, o => by simp [sub]
  | n + 1, o => by
    have e := flat_le0 (fun i => sub h n (o ++ [i])) (7 ^ n) (after h o).open_ fun i _ => sub_count h6 n (o ++ [i])
    have o6 : (after h o).open_.length ≤ 6 := open_le6 (by rw [tests_after]; exact h6)
    have e2 := Nat.le_trans e (Nat.mul_le_mul_left _ o6)
    show (o :: (after h o).open_.flatMap fun i => sub h n (o ++ [i])).length ≤ _
    rw [List.length_cons, Nat.pow_succ]
    have : 1 ≤ 7 ^ n := Nat.pow_pos (by decide)
    omega
theorem full_count {h : House} (h6 : h.tests.length ≤ 6) (o : List Nat) : (full h o).length ≤ 117649 := by
  refine Nat.le_trans (sub_count h6 _ o) ?_
  have a := rest_le h
  exact Nat.le_trans (Nat.pow_le_pow_right (by decide) (show h.rest.length - o.length ≤ 6 by omega)) (by decide)
theorem mem_sub (h : House) : ∀ (n : Nat) (o p : List Nat), p ∈ sub h n o ↔ ∃ q, p = o ++ q ∧ q.length ≤ n ∧ (after h o).can q = true
  | 0, o, p => by
    show p ∈ [o] ↔ _
    rw [List.mem_singleton]
    constructor
    · rintro rfl
      exact ⟨[], by simp, by simp, rfl⟩
    · rintro ⟨q, rfl, l, _⟩
      have : q = [] := List.eq_nil_of_length_eq_zero (by omega)
      simp [this]
  | n + 1, o, p => by
    show p ∈ o :: (after h o).open_.flatMap (fun i => sub h n (o ++ [i])) ↔ _
    rw [List.mem_cons, List.mem_flatMap]
    constructor
    · rintro (rfl | ⟨i, hi, hp⟩)
      · exact ⟨[], by simp, by simp, rfl⟩
      · obtain ⟨q, rfl, l, c⟩ := (mem_sub h n (o ++ [i]) p).mp hp
        refine ⟨i :: q, by simp, by simp; omega, can_cons.mpr ⟨hi, ?_⟩⟩
        rw [after_cat] at c
        exact c
    · rintro ⟨q, rfl, l, c⟩
      cases q with
      | nil => exact .inl (by simp)
      | cons i r =>
        obtain ⟨c1, c2⟩ := can_cons.mp c
        refine .inr ⟨i, c1, (mem_sub h n (o ++ [i]) _).mpr ⟨r, by simp, by simp at l; omega, ?_⟩⟩
        rw [after_cat]
        exact c2
theorem mem_full {h : House} {p : List Nat} : p ∈ full h [] ↔ h.can p = true := by
  unfold full
  rw [mem_sub]
  constructor
  · rintro ⟨q, rfl, _, c⟩
    exact c
  · intro c
    exact ⟨p, rfl, can_length p h c, c⟩
/-- the whole ones among them -/
theorem sub_whole (h : House) : ∀ (n : Nat) (o : List Nat), (sub h n o).filter (fun p => decide (p.length = o.length + n)) = (all n (after h o)).map (o ++ ·)
  | 0, o => by simp [sub, all]
  | n + 1, o => by
    show (o :: (after h o).open_.flatMap (fun i => sub h n (o ++ [i]))).filter _ = ((after h o).open_.flatMap fun i => (all n ((after h o).behind i)).map (i :: ·)).map (o ++ ·)
    rw [List.filter_cons, if_neg (by simp), List.filter_flatMap, List.map_flatMap]
    congr 1
    funext i
    have ih := sub_whole h n (o ++ [i])
    have e : (o ++ [i]).length + n = o.length + (n + 1) := by
      rw [List.length_append, List.length_singleton]
      omega
    rw [e] at ih
    show List.filter (fun p => decide (p.length = o.length + (n + 1))) (sub h n (o ++ [i])) = _
    rw [ih, after_cat, List.map_map]
    show (all n ((after h o).behind i)).map _ = _
    congr 1
    funext r
    simp
theorem full_whole (h : House) : (full h []).filter (fun p => decide (p.length = h.rest.length)) = all h.rest.length h := by
  have e := sub_whole h h.rest.length []
  simp only [List.length_nil, Nat.zero_add] at e
  show (sub h (h.rest.length - 0) []).filter _ = _
  rw [Nat.sub_zero, e]
  show (all h.rest.length h).map (fun x => [] ++ x) = _
  simp
/-! ### They come in their order -/
theorem less_cat : ∀ (o a b : List Nat), less (o ++ a) (o ++ b) = less a b
  | [], _, _ => rfl
  | x :: o, a, b => by
    show (decide (x < x) || (x == x && less (o ++ a) (o ++ b))) = _
    rw [less_cat o a b]
    simp
theorem open_rising (h : House) : h.open_.Pairwise (· < ·) := by
  unfold House.open_ House.rest
  exact List.Pairwise.filter _ (List.Pairwise.filter _ List.pairwise_lt_range)
theorem sub_sorted (h : House) : ∀ (n : Nat) (o : List Nat), (sub h n o).Pairwise fun a b => less a b = true
  | 0, o => by
    show [o].Pairwise _
    exact List.pairwise_singleton _ _
  | n + 1, o => by
    show (o :: (after h o).open_.flatMap (fun i => sub h n (o ++ [i]))).Pairwise _
    rw [List.pairwise_cons, List.pairwise_flatMap]
    refine ⟨fun p hp => ?_, fun i _ => sub_sorted h n (o ++ [i]), List.Pairwise.imp ?_ (open_rising (after h o))⟩
    · obtain ⟨i, _, hp⟩ := List.mem_flatMap.mp hp
      obtain ⟨q, rfl, _⟩ := (mem_sub h n _ p).mp hp
      have e := less_cat o [] (i :: q)
      rw [List.append_nil] at e
      rw [List.append_assoc]
      exact e.trans rfl
    · intro i j lt x hx y hy
      obtain ⟨q, rfl, _⟩ := (mem_sub h n _ x).mp hx
      obtain ⟨r, rfl, _⟩ := (mem_sub h n _ y).mp hy
      rw [List.append_assoc, List.append_assoc, less_cat]
      show (decide (i < j) || (i == j && less _ _)) = true
      simp [lt]
theorem full_sorted (h : House) : (full h []).Pairwise fun a b => less a b = true := sub_sorted h _ []
/-! ### Within a time, kept one behind another -/
def more (h : House) (a b : List Nat) : Bool := decide (h.none_ a < h.none_ b) || (h.none_ a == h.none_ b && decide (h.long a < h.long b))
theorem more_iff {h : House} {a b : List Nat} : more h a b = true ↔ h.none_ a < h.none_ b ∨ (h.none_ a = h.none_ b ∧ h.long a < h.long b) := by
  unfold more
  simp only [Bool.or_eq_true, Bool.and_eq_true, decide_eq_true_eq, beq_iff_eq]
def keepW (h : House) (b : Nat) (a o : List Nat) : List Nat := if h.long o ≤ b ∧ more h o a = true then o else a
structure Kept1 (h : House) (b : Nat) (pre : List (List Nat)) (r : List Nat) : Prop where
  at_ : r = [] ∨ r ∈ pre
  long : h.long r ≤ b
  top : ∀ x ∈ pre, h.long x ≤ b → ¬ h.better x r = true
theorem less_asym {a b : List Nat} (p : less a b = true) (q : less b a = true) : False := by
  have := less_trans a b a p q
  rw [less_irr] at this
  cases this
theorem Kept1.more {h : House} {b : Nat} {pre : List (List Nat)} {r x : List Nat} (k : Kept1 h b pre r) (s : ∀ y ∈ pre, less y x = true) : Kept1 h b (pre ++ [x]) (keepW h b r x) := by
  unfold keepW
  by_cases c : h.long x ≤ b ∧ Tf.more h x r = true
  · rw [if_pos c]
    refine ⟨.inr (by simp), c.1, fun y hy ly z => ?_⟩
    rcases List.mem_append.mp hy with w | w
    · refine k.top y w ly (better_trans z (better_iff.mpr ?_))
      rcases more_iff.mp c.2 with m | ⟨m1, m2⟩
      · exact .inl m
      · exact .inr ⟨m1, .inl m2⟩
    · simp at w
      subst w
      exact better_irr z
  · rw [if_neg c]
    refine ⟨?_, k.long, fun y hy ly z => ?_⟩
    · rcases k.at_ with e | e
      · exact .inl e
      · exact .inr (List.mem_append.mpr (.inl e))
    rcases List.mem_append.mp hy with w | w
    · exact k.top y w ly z
    · simp at w
      subst w
      have nm : ¬ Tf.more h y r = true := fun m => c ⟨ly, m⟩
      rw [more_iff] at nm
      have lt : less y r = true := by
        rcases better_iff.mp z with m | ⟨m1, m | ⟨_, m⟩⟩
        · exact absurd (.inl m) nm
        · exact absurd (.inr ⟨m1, m⟩) nm
        · exact m
      rcases k.at_ with e | e
      · subst e
        cases y <;> simp [less] at lt
      · exact less_asym lt (s r e)
theorem Kept1.fold {h : House} {b : Nat} : ∀ (l pre : List (List Nat)) (r : List Nat), (pre ++ l).Pairwise (fun a b => less a b = true) → Kept1 h b pre r → Kept1 h b (pre ++ l) (l.foldl (keepW h b) r)
  | [], pre, r, _, k => by simpa using k
  | x :: l, pre, r, s, k => by
    have e : pre ++ x :: l = (pre ++ [x]) ++ l := by simp
    rw [e, List.foldl_cons]
    rw [e] at s
    refine Kept1.fold l (pre ++ [x]) _ s (k.more fun y hy => ?_)
    have s1 := (List.pairwise_append.mp s).1
    exact (List.pairwise_append.mp s1).2.2 y hy x (by simp)
/-- **the order within a time, by keeping the better one** -/
theorem within_fold (h : House) (b : Nat) : h.within b = (full h []).foldl (keepW h b) [] := by
  have k : Kept1 h b (full h []) ((full h []).foldl (keepW h b) []) := Kept1.fold (full h []) [] [] (full_sorted h) ⟨.inl rfl, Nat.zero_le _, by simp⟩
  refine within_is ?_ k.long fun o c l => k.top o (mem_full.mpr c) l
  rcases k.at_ with e | e
  · rw [e]
    rfl
  · exact mem_full.mp e
theorem fold_can {h : House} {b : Nat} {l : List (List Nat)} (s : ∀ x ∈ l, h.can x = true) {r : List Nat} (c : h.can r = true) : h.can (l.foldl (keepW h b) r) = true := by
  induction l generalizing r with
  | nil => exact c
  | cons x l ih =>
    rw [List.foldl_cons]
    refine ih (fun y hy => s y (List.mem_cons_of_mem _ hy)) ?_
    unfold keepW
    split
    · exact s x (List.mem_cons_self ..)
    · exact c
/-! ### The chances -/
theorem alive_le (h : House) : ∀ o, alive h o ≤ h.whole ^ o.length
  | [] => by simp [alive]
  | i :: r => by
    show (h.whole - (h.at_ i).fails) * alive h r ≤ h.whole ^ (r.length + 1)
    rw [Nat.pow_succ, Nat.mul_comm]
    exact Nat.mul_le_mul (alive_le h r) (Nat.sub_le _ _)
theorem none_eq {h : House} (w : 0 < h.whole) {a b : List Nat} (la : a.length ≤ h.tests.length) (lb : b.length ≤ h.tests.length) :
    h.none_ a = h.none_ b ↔ alive h a * h.whole ^ b.length = alive h b * h.whole ^ a.length := by
  have x1 := none_lt w la lb
  have x2 := none_lt w lb la
  omega
/-- the order that shows more, as the program tells it -/
theorem more_is {h : House} (w : 0 < h.whole) {a b : List Nat} (la : a.length ≤ h.tests.length) (lb : b.length ≤ h.tests.length) :
    more h a b = if alive h a * h.whole ^ b.length = alive h b * h.whole ^ a.length then decide (h.long a < h.long b) else decide (alive h a * h.whole ^ b.length < alive h b * h.whole ^ a.length) := by
  have x1 := none_lt w la lb
  have x2 := none_eq w la lb
  by_cases c : alive h a * h.whole ^ b.length = alive h b * h.whole ^ a.length
  · rw [if_pos c]
    have c' := x2.mpr c
    unfold more
    rw [c']
    simp
  · rw [if_neg c]
    have c' : ¬ h.none_ a = h.none_ b := fun z => c (x2.mp z)
    unfold more
    have e : (h.none_ a == h.none_ b) = false := by simp [c']
    rw [e]
    simp [x1]
end Tf
set_option Elab.async false
set_option maxRecDepth 100000
set_option maxHeartbeats 2000000
namespace Tf
open PySem PySem.Spec PyProof.Rows L2
/-! ### The text by places -/
def top (i : Nat) : Stmt := PySem.Challenge.pw_testsfirst_s01_answers.main.body.getD i (.Pass ⟨0, 0, 0, 0⟩)
abbrev s_settings_fit : Stmt := (top 13)
abbrev s_needs_fit : Stmt := (top 14)
abbrev s_needs_met : Stmt := (top 15)
abbrev s_Test_init : Stmt := (inClass (top 16) 0)
abbrev s_House_init : Stmt := (inClass (top 17) 0)
abbrev s_House_begins : Stmt := (inClass (top 17) 1)
abbrev s_House_add_test : Stmt := (inClass (top 17) 2)
abbrev s_House_pass_test : Stmt := (inClass (top 17) 3)
abbrev s_House_time_with_setting : Stmt := (inClass (top 17) 4)
abbrev s_Reader_init : Stmt := (inClass (top 19) 0)
abbrev s_Reader_at_end : Stmt := (inClass (top 19) 1)
abbrev s_Reader_read_number : Stmt := (inClass (top 19) 2)
abbrev s_Reader_read_row : Stmt := (inClass (top 19) 3)
abbrev s_Run_init : Stmt := (inClass (top 22) 0)
abbrev s_empty_run : Stmt := (top 23)
abbrev s_longer_run : Stmt := (top 24)
abbrev s_next_tests : Stmt := (top 25)
abbrev s_run_of_row : Stmt := (top 26)
abbrev s_average_in_millionths : Stmt := (top 27)
abbrev s_chance_in_millionths : Stmt := (top 28)
abbrev s_all_runs : Stmt := (top 30)
abbrev s_whole_runs : Stmt := (top 31)
abbrev s_best_run : Stmt := (top 32)
abbrev s_shows_more : Stmt := (top 33)
abbrev s_run_within : Stmt := (top 34)
abbrev s_answer_begins : Stmt := (top 44)
abbrev s_answer_test : Stmt := (top 45)
abbrev s_answer_pass_test : Stmt := (top 46)
abbrev s_answer_order : Stmt := (top 47)
abbrev s_answer_price : Stmt := (top 48)
abbrev s_answer_within : Stmt := (top 49)
abbrev s_answer_open_tests : Stmt := (top 50)
abbrev s_answer_call : Stmt := (top 51)
abbrev s_answers : Stmt := (top 52)
/-- where the defs and classes of the text stand -/
structure Ad where
  c_Test : Addr
  c_House : Addr
  c_Reader : Addr
  c_Run : Addr
  f_settings_fit : Addr
  d_settings_fit : FuncData
  f_needs_fit : Addr
  d_needs_fit : FuncData
  f_needs_met : Addr
  d_needs_met : FuncData
  f_Test_init : Addr
  d_Test_init : FuncData
  f_House_init : Addr
  d_House_init : FuncData
  f_House_begins : Addr
  d_House_begins : FuncData
  f_House_add_test : Addr
  d_House_add_test : FuncData
  f_House_pass_test : Addr
  d_House_pass_test : FuncData
  f_House_time_with_setting : Addr
  d_House_time_with_setting : FuncData
  f_Reader_init : Addr
  d_Reader_init : FuncData
  f_Reader_at_end : Addr
  d_Reader_at_end : FuncData
  f_Reader_read_number : Addr
  d_Reader_read_number : FuncData
  f_Reader_read_row : Addr
  d_Reader_read_row : FuncData
  f_Run_init : Addr
  d_Run_init : FuncData
  f_empty_run : Addr
  d_empty_run : FuncData
  f_longer_run : Addr
  d_longer_run : FuncData
  f_next_tests : Addr
  d_next_tests : FuncData
  f_run_of_row : Addr
  d_run_of_row : FuncData
  f_average_in_millionths : Addr
  d_average_in_millionths : FuncData
  f_chance_in_millionths : Addr
  d_chance_in_millionths : FuncData
  f_all_runs : Addr
  d_all_runs : FuncData
  f_whole_runs : Addr
  d_whole_runs : FuncData
  f_best_run : Addr
  d_best_run : FuncData
  f_shows_more : Addr
  d_shows_more : FuncData
  f_run_within : Addr
  d_run_within : FuncData
  f_answer_begins : Addr
  d_answer_begins : FuncData
  f_answer_test : Addr
  d_answer_test : FuncData
  f_answer_pass_test : Addr
  d_answer_pass_test : FuncData
  f_answer_order : Addr
  d_answer_order : FuncData
  f_answer_price : Addr
  d_answer_price : FuncData
  f_answer_within : Addr
  d_answer_within : FuncData
  f_answer_open_tests : Addr
  d_answer_open_tests : FuncData
  f_answer_call : Addr
  d_answer_call : FuncData
  f_answers : Addr
  d_answers : FuncData
/-- what the top has written -/
structure Txt (K : PySem.W.Frag) (mg : Str → Option Value) (A : Ad) : Prop where
  cl_Test : Cls K A.c_Test
  g_Test : mg "Test" = some (.ref A.c_Test)
  mk_Test : Mk K A.c_Test A.f_Test_init
  n_Test_time : NoAttr K A.c_Test "time"
  n_Test_failures : NoAttr K A.c_Test "failures"
  n_Test_setting : NoAttr K A.c_Test "setting"
  n_Test_needs : NoAttr K A.c_Test "needs"
  cl_House : Cls K A.c_House
  g_House : mg "House" = some (.ref A.c_House)
  mk_House : Mk K A.c_House A.f_House_init
  n_House_whole : NoAttr K A.c_House "whole"
  n_House_settings : NoAttr K A.c_House "settings"
  n_House_tests : NoAttr K A.c_House "tests"
  n_House_passed : NoAttr K A.c_House "passed"
  n_House_up : NoAttr K A.c_House "up"
  cl_Reader : Cls K A.c_Reader
  g_Reader : mg "Reader" = some (.ref A.c_Reader)
  mk_Reader : Mk K A.c_Reader A.f_Reader_init
  n_Reader_calls : NoAttr K A.c_Reader "calls"
  n_Reader_place : NoAttr K A.c_Reader "place"
  cl_Run : Cls K A.c_Run
  g_Run : mg "Run" = some (.ref A.c_Run)
  mk_Run : Mk K A.c_Run A.f_Run_init
  n_Run_order : NoAttr K A.c_Run "order"
  n_Run_up : NoAttr K A.c_Run "up"
  n_Run_length : NoAttr K A.c_Run "length"
  n_Run_spent : NoAttr K A.c_Run "spent"
  n_Run_alive : NoAttr K A.c_Run "alive"
  n_Run_scale : NoAttr K A.c_Run "scale"
  F_settings_fit : Fun K "settings_fit" "settings_fit" s_settings_fit A.f_settings_fit A.d_settings_fit
  b_settings_fit : Binds K A.d_settings_fit ["settings"] []
  g_settings_fit : mg "settings_fit" = some (.ref A.f_settings_fit)
  k_settings_fit : PySem.W.keepIn K (.ref A.f_settings_fit) = true
  F_needs_fit : Fun K "needs_fit" "needs_fit" s_needs_fit A.f_needs_fit A.d_needs_fit
  b_needs_fit : Binds K A.d_needs_fit ["needs", "test_count"] []
  g_needs_fit : mg "needs_fit" = some (.ref A.f_needs_fit)
  k_needs_fit : PySem.W.keepIn K (.ref A.f_needs_fit) = true
  F_needs_met : Fun K "needs_met" "needs_met" s_needs_met A.f_needs_met A.d_needs_met
  b_needs_met : Binds K A.d_needs_met ["test", "done"] []
  g_needs_met : mg "needs_met" = some (.ref A.f_needs_met)
  k_needs_met : PySem.W.keepIn K (.ref A.f_needs_met) = true
  F_Test_init : Fun K "__init__" "Test.__init__" s_Test_init A.f_Test_init A.d_Test_init
  b_Test_init : Binds K A.d_Test_init ["self", "time", "failures", "setting", "needs"] []
  F_House_init : Fun K "__init__" "House.__init__" s_House_init A.f_House_init A.d_House_init
  b_House_init : Binds K A.d_House_init ["self"] []
  F_House_begins : Fun K "begins" "House.begins" s_House_begins A.f_House_begins A.d_House_begins
  b_House_begins : Binds K A.d_House_begins ["self", "whole", "settings"] []
  m_House_begins : Meth K A.c_House "begins" A.f_House_begins
  F_House_add_test : Fun K "add_test" "House.add_test" s_House_add_test A.f_House_add_test A.d_House_add_test
  b_House_add_test : Binds K A.d_House_add_test ["self", "time", "failures", "setting", "needs"] []
  m_House_add_test : Meth K A.c_House "add_test" A.f_House_add_test
  F_House_pass_test : Fun K "pass_test" "House.pass_test" s_House_pass_test A.f_House_pass_test A.d_House_pass_test
  b_House_pass_test : Binds K A.d_House_pass_test ["self", "number"] []
  m_House_pass_test : Meth K A.c_House "pass_test" A.f_House_pass_test
  F_House_time_with_setting : Fun K "time_with_setting" "House.time_with_setting" s_House_time_with_setting A.f_House_time_with_setting A.d_House_time_with_setting
  b_House_time_with_setting : Binds K A.d_House_time_with_setting ["self", "test", "up"] []
  m_House_time_with_setting : Meth K A.c_House "time_with_setting" A.f_House_time_with_setting
  F_Reader_init : Fun K "__init__" "Reader.__init__" s_Reader_init A.f_Reader_init A.d_Reader_init
  b_Reader_init : Binds K A.d_Reader_init ["self", "calls"] []
  F_Reader_at_end : Fun K "at_end" "Reader.at_end" s_Reader_at_end A.f_Reader_at_end A.d_Reader_at_end
  b_Reader_at_end : Binds K A.d_Reader_at_end ["self"] []
  m_Reader_at_end : Meth K A.c_Reader "at_end" A.f_Reader_at_end
  F_Reader_read_number : Fun K "read_number" "Reader.read_number" s_Reader_read_number A.f_Reader_read_number A.d_Reader_read_number
  b_Reader_read_number : Binds K A.d_Reader_read_number ["self"] []
  m_Reader_read_number : Meth K A.c_Reader "read_number" A.f_Reader_read_number
  F_Reader_read_row : Fun K "read_row" "Reader.read_row" s_Reader_read_row A.f_Reader_read_row A.d_Reader_read_row
  b_Reader_read_row : Binds K A.d_Reader_read_row ["self"] []
  m_Reader_read_row : Meth K A.c_Reader "read_row" A.f_Reader_read_row
  F_Run_init : Fun K "__init__" "Run.__init__" s_Run_init A.f_Run_init A.d_Run_init
  b_Run_init : Binds K A.d_Run_init ["self", "order", "up", "length", "spent", "alive", "scale"] []
  F_empty_run : Fun K "empty_run" "empty_run" s_empty_run A.f_empty_run A.d_empty_run
  b_empty_run : Binds K A.d_empty_run ["house"] []
  g_empty_run : mg "empty_run" = some (.ref A.f_empty_run)
  k_empty_run : PySem.W.keepIn K (.ref A.f_empty_run) = true
  F_longer_run : Fun K "longer_run" "longer_run" s_longer_run A.f_longer_run A.d_longer_run
  b_longer_run : Binds K A.d_longer_run ["house", "run", "number"] []
  g_longer_run : mg "longer_run" = some (.ref A.f_longer_run)
  k_longer_run : PySem.W.keepIn K (.ref A.f_longer_run) = true
  F_next_tests : Fun K "next_tests" "next_tests" s_next_tests A.f_next_tests A.d_next_tests
  b_next_tests : Binds K A.d_next_tests ["house", "run"] []
  g_next_tests : mg "next_tests" = some (.ref A.f_next_tests)
  k_next_tests : PySem.W.keepIn K (.ref A.f_next_tests) = true
  F_run_of_row : Fun K "run_of_row" "run_of_row" s_run_of_row A.f_run_of_row A.d_run_of_row
  b_run_of_row : Binds K A.d_run_of_row ["house", "row"] []
  g_run_of_row : mg "run_of_row" = some (.ref A.f_run_of_row)
  k_run_of_row : PySem.W.keepIn K (.ref A.f_run_of_row) = true
  F_average_in_millionths : Fun K "average_in_millionths" "average_in_millionths" s_average_in_millionths A.f_average_in_millionths A.d_average_in_millionths
  b_average_in_millionths : Binds K A.d_average_in_millionths ["run"] []
  g_average_in_millionths : mg "average_in_millionths" = some (.ref A.f_average_in_millionths)
  k_average_in_millionths : PySem.W.keepIn K (.ref A.f_average_in_millionths) = true
  F_chance_in_millionths : Fun K "chance_in_millionths" "chance_in_millionths" s_chance_in_millionths A.f_chance_in_millionths A.d_chance_in_millionths
  b_chance_in_millionths : Binds K A.d_chance_in_millionths ["run"] []
  g_chance_in_millionths : mg "chance_in_millionths" = some (.ref A.f_chance_in_millionths)
  k_chance_in_millionths : PySem.W.keepIn K (.ref A.f_chance_in_millionths) = true
  F_all_runs : Fun K "all_runs" "all_runs" s_all_runs A.f_all_runs A.d_all_runs
  b_all_runs : Binds K A.d_all_runs ["house"] []
  g_all_runs : mg "all_runs" = some (.ref A.f_all_runs)
  k_all_runs : PySem.W.keepIn K (.ref A.f_all_runs) = true
  F_whole_runs : Fun K "whole_runs" "whole_runs" s_whole_runs A.f_whole_runs A.d_whole_runs
  b_whole_runs : Binds K A.d_whole_runs ["house"] []
  g_whole_runs : mg "whole_runs" = some (.ref A.f_whole_runs)
  k_whole_runs : PySem.W.keepIn K (.ref A.f_whole_runs) = true
  F_best_run : Fun K "best_run" "best_run" s_best_run A.f_best_run A.d_best_run
  b_best_run : Binds K A.d_best_run ["house"] []
  g_best_run : mg "best_run" = some (.ref A.f_best_run)
  k_best_run : PySem.W.keepIn K (.ref A.f_best_run) = true
  F_shows_more : Fun K "shows_more" "shows_more" s_shows_more A.f_shows_more A.d_shows_more
  b_shows_more : Binds K A.d_shows_more ["run", "other"] []
  g_shows_more : mg "shows_more" = some (.ref A.f_shows_more)
  k_shows_more : PySem.W.keepIn K (.ref A.f_shows_more) = true
  F_run_within : Fun K "run_within" "run_within" s_run_within A.f_run_within A.d_run_within
  b_run_within : Binds K A.d_run_within ["house", "time"] []
  g_run_within : mg "run_within" = some (.ref A.f_run_within)
  k_run_within : PySem.W.keepIn K (.ref A.f_run_within) = true
  F_answer_begins : Fun K "answer_begins" "answer_begins" s_answer_begins A.f_answer_begins A.d_answer_begins
  b_answer_begins : Binds K A.d_answer_begins ["house", "reader"] []
  g_answer_begins : mg "answer_begins" = some (.ref A.f_answer_begins)
  k_answer_begins : PySem.W.keepIn K (.ref A.f_answer_begins) = true
  F_answer_test : Fun K "answer_test" "answer_test" s_answer_test A.f_answer_test A.d_answer_test
  b_answer_test : Binds K A.d_answer_test ["house", "reader"] []
  g_answer_test : mg "answer_test" = some (.ref A.f_answer_test)
  k_answer_test : PySem.W.keepIn K (.ref A.f_answer_test) = true
  F_answer_pass_test : Fun K "answer_pass_test" "answer_pass_test" s_answer_pass_test A.f_answer_pass_test A.d_answer_pass_test
  b_answer_pass_test : Binds K A.d_answer_pass_test ["house", "reader"] []
  g_answer_pass_test : mg "answer_pass_test" = some (.ref A.f_answer_pass_test)
  k_answer_pass_test : PySem.W.keepIn K (.ref A.f_answer_pass_test) = true
  F_answer_order : Fun K "answer_order" "answer_order" s_answer_order A.f_answer_order A.d_answer_order
  b_answer_order : Binds K A.d_answer_order ["house"] []
  g_answer_order : mg "answer_order" = some (.ref A.f_answer_order)
  k_answer_order : PySem.W.keepIn K (.ref A.f_answer_order) = true
  F_answer_price : Fun K "answer_price" "answer_price" s_answer_price A.f_answer_price A.d_answer_price
  b_answer_price : Binds K A.d_answer_price ["house", "reader"] []
  g_answer_price : mg "answer_price" = some (.ref A.f_answer_price)
  k_answer_price : PySem.W.keepIn K (.ref A.f_answer_price) = true
  F_answer_within : Fun K "answer_within" "answer_within" s_answer_within A.f_answer_within A.d_answer_within
  b_answer_within : Binds K A.d_answer_within ["house", "reader"] []
  g_answer_within : mg "answer_within" = some (.ref A.f_answer_within)
  k_answer_within : PySem.W.keepIn K (.ref A.f_answer_within) = true
  F_answer_open_tests : Fun K "answer_open_tests" "answer_open_tests" s_answer_open_tests A.f_answer_open_tests A.d_answer_open_tests
  b_answer_open_tests : Binds K A.d_answer_open_tests ["house"] []
  g_answer_open_tests : mg "answer_open_tests" = some (.ref A.f_answer_open_tests)
  k_answer_open_tests : PySem.W.keepIn K (.ref A.f_answer_open_tests) = true
  F_answer_call : Fun K "answer_call" "answer_call" s_answer_call A.f_answer_call A.d_answer_call
  b_answer_call : Binds K A.d_answer_call ["house", "reader"] []
  g_answer_call : mg "answer_call" = some (.ref A.f_answer_call)
  k_answer_call : PySem.W.keepIn K (.ref A.f_answer_call) = true
  F_answers : Fun K "answers" "answers" s_answers A.f_answers A.d_answers
  b_answers : Binds K A.d_answers ["calls"] []
  g_answers : mg "answers" = some (.ref A.f_answers)
  k_answers : PySem.W.keepIn K (.ref A.f_answers) = true
  z_OUT_OF_RANGE : ∃ t, mg "OUT_OF_RANGE" = some (.int (-1) t)
  z_NOT_THERE : ∃ t, mg "NOT_THERE" = some (.int (-2) t)
  z_PASSED_ALREADY : ∃ t, mg "PASSED_ALREADY" = some (.int (-4) t)
  z_NEEDS_NOT_PASSED : ∃ t, mg "NEEDS_NOT_PASSED" = some (.int (-5) t)
  z_NO_ORDER : ∃ t, mg "NO_ORDER" = some (.int (-5) t)
  z_TOO_MANY_TESTS : ∃ t, mg "TOO_MANY_TESTS" = some (.int (-7) t)
  z_LEAST_WHOLE : ∃ t, mg "LEAST_WHOLE" = some (.int 2 t)
  z_MOST_WHOLE : ∃ t, mg "MOST_WHOLE" = some (.int 100 t)
  z_MOST_SETTINGS : ∃ t, mg "MOST_SETTINGS" = some (.int 4 t)
  z_MOST_TESTS : ∃ t, mg "MOST_TESTS" = some (.int 6 t)
  z_LONGEST_TIME : ∃ t, mg "LONGEST_TIME" = some (.int 10000 t)
  z_NO_SETTING : ∃ t, mg "NO_SETTING" = some (.int (-1) t)
  z_MILLION : ∃ t, mg "MILLION" = some (.int 1000000 t)
  z_BEGINS : ∃ t, mg "BEGINS" = some (.int 0 t)
  z_TEST : ∃ t, mg "TEST" = some (.int 1 t)
  z_PASS_TEST : ∃ t, mg "PASS_TEST" = some (.int 2 t)
  z_ORDER : ∃ t, mg "ORDER" = some (.int 3 t)
  z_PRICE : ∃ t, mg "PRICE" = some (.int 4 t)
  z_WITHIN : ∃ t, mg "WITHIN" = some (.int 5 t)
  z_OPEN_TESTS : ∃ t, mg "OPEN_TESTS" = some (.int 6 t)
  no_len : mg "len" = none
  no_enumerate : mg "enumerate" = none
  no_all : mg "all" = none
  no_list : mg "list" = none
  no_reversed : mg "reversed" = none
/-! ### Words: an if whose test is known; fields of objects -/
theorem if_true_of {c : Bool} {A B : Prop} (hc : c = true) (h : A) : if c = true then A else B := by
  rw [if_pos hc]
  exact h
theorem if_false_of {c : Bool} {A B : Prop} (hc : c = false) (h : B) : if c = true then A else B := by
  rw [hc, if_neg Bool.false_ne_true]
  exact h
theorem lk_here {k : Str} {v : V} {r : List (Str × V)} : List.lookup k ((k, v) :: r) = some v := by
  have e : (k == k) = true := beq_self_eq_true k
  simp only [List.lookup, e]
theorem lk_past {k g : Str} {v : V} {r : List (Str × V)} (h : (k == g) = false) : List.lookup k ((g, v) :: r) = List.lookup k r := by
  simp only [List.lookup, h]
theorem put_here {f : Str} {v x : V} {r : List (Str × V)} : putF f v ((f, x) :: r) = (f, v) :: r := if_pos rfl
theorem put_past {f g : Str} {v x : V} {r : List (Str × V)} (h : ¬ g = f) : putF f v ((g, x) :: r) = (g, x) :: putF f v r := if_neg h
/-- a whole number from 0 on; a list of such -/
abbrev nI (n : Nat) : V := V.int (n : Int)
def nL (l : List Nat) : List V := l.map nI
theorem nL_length (l : List Nat) : (nL l).length = l.length := List.length_map _
theorem nL_get (l : List Nat) (i : Nat) : (nL l)[i]? = l[i]?.map nI := List.getElem?_map
theorem nL_append (l m : List Nat) : nL (l ++ m) = nL l ++ nL m := List.map_append
theorem nL_toNat : ∀ (zs : List Int), (∀ z ∈ zs, 0 ≤ z) → zs.map V.int = nL (zs.map Int.toNat)
  | [], _ => rfl
  | z :: r, h => by
    have e := nL_toNat r (fun y hy => h y (List.mem_cons_of_mem _ hy))
    have h0 : ((z.toNat : Nat) : Int) = z := Int.toNat_of_nonneg (h z (List.mem_cons_self ..))
    show V.int z :: r.map V.int = nI z.toNat :: nL (r.map Int.toNat)
    rw [e]
    show _ = V.int ((z.toNat : Nat) : Int) :: _
    rw [h0]
theorem same_new {H : Hp} {p : Addr} {o : HO} (h : H p = none) : Same H (upd H p o) := fun b u e => by
  rw [upd_ne (ne_of_none e h)]
  exact e
theorem Same.at_new {H H1 : Hp} (s : Same H H1) {p : Addr} {o : HO} (h : H1 p = none) : Same H (upd H1 p o) := Same.trans s (same_new h)
/-- all but one -/
def But (x : Addr) (H H' : Hp) : Prop := ∀ b o, H b = some o → b ≠ x → H' b = some o
theorem But.upd {H : Hp} {x : Addr} {o : HO} : But x H (upd H x o) := fun b u e n => by
  rw [upd_ne n]
  exact e
theorem But.refl {H : Hp} {x : Addr} : But x H H := fun _ _ e _ => e
theorem But.trans {H H1 H2 : Hp} {x : Addr} (a : But x H H1) (b : But x H1 H2) : But x H H2 := fun c o e n => b c o (a c o e n) n
theorem But.of_same {H H1 : Hp} {x : Addr} (a : Same H H1) : But x H H1 := fun b o e _ => a b o e
theorem SqL.but {K : PySem.W.Frag} {H H' : Hp} {a x : Addr} {xs : List V} {C dx : Addr} {fs : List (Str × V)} (b : But x H H') (hx : H x = some (.ins C dx fs)) (h : SqL K H a xs) : SqL K H' a xs := by
  rcases h with (h | ⟨o, h⟩) | h
  · exact .inl (.inl (b _ _ h (ne_of h hx (by intro z; cases z))))
  · exact .inl (.inr ⟨o, b _ _ h (ne_of h hx (by intro z; cases z))⟩)
  · exact .inr h
/-- a whole number of the file's top -/
theorem pe_gI {X : Cx} {x : Str} {i : Int} {t : Tok} {pos : Pos} (hm : X.mg x = some (.int i t)) (hg : Gl X x) (hd : (x == ("__debug__" : Str)) = false := by decide) : PE X (.Name x pos) (tC (.int i)) := pe_glob hg hm ⟨_, rfl⟩ hd
/-- the fields of an object stay few -/
theorem few {f : Str} {v : V} {fs : List (Str × V)} {n : Nat} (h : fs.length < n) : (putF f v fs).length < n + 1 := by
  have key : ∀ fs : List (Str × V), (putF f v fs).length ≤ fs.length + 1 := by
    intro fs
    induction fs with
    | nil => exact Nat.le_refl _
    | cons p r ih =>
      show (if p.1 = f then (p.1, v) :: r else p :: putF f v r).length ≤ _
      split
      · simp
      · simp
        exact ih
  exact Nat.lt_of_le_of_lt (key fs) (Nat.succ_lt_succ h)
end Tf
set_option Elab.async false
set_option maxRecDepth 100000
set_option maxHeartbeats 2000000
namespace Tf
open PySem PySem.Spec PyProof.Rows L2
/-! ### The reader -/
def rF (a : Addr) (i : Nat) : List (Str × V) := [("calls", .ref a), ("place", nI i)]
theorem rF_calls (a : Addr) (i : Nat) : (rF a i).lookup ("calls" : Str) = some (.ref a) := lk_here
theorem rF_place (a : Addr) (i : Nat) : (rF a i).lookup ("place" : Str) = some (nI i) := (lk_past (by decide +kernel)).trans lk_here
theorem rF_no (a : Addr) (i : Nat) {m : Str} (h1 : (m == "calls") = false) (h2 : (m == "place") = false) : (rF a i).lookup m = none := (lk_past h1).trans ((lk_past h2).trans rfl)
theorem rF_put (a : Addr) (i j : Nat) : putF "place" (nI j) (rF a i) = rF a j := (put_past (by decide +kernel)).trans (congrArg _ put_here)
theorem rF_new (a : Addr) : putF "place" (.int 0) (putF "calls" (.ref a) []) = rF a 0 := (put_past (by decide +kernel)).trans rfl
def ReaderAt (A : Ad) (H : Hp) (r a : Addr) (i : Nat) : Prop := ∃ dx, H r = some (.ins A.c_Reader dx (rF a i))
def spR_init (A : Ad) : Sp := fun vs H Q _ => ∃ (r dx a : Addr), vs = [.ref r, .ref a] ∧ H r = some (.ins A.c_Reader dx []) ∧
  ∀ H' : Hp, ReaderAt A H' r a 0 → But r H H' → Q .non H'
def spR_end (K : PySem.W.Frag) (A : Ad) : Sp := fun vs H Q _ => ∃ (r a : Addr) (i : Nat) (ns : List Int), vs = [.ref r] ∧ ReaderAt A H r a i ∧ SqL K H a (ns.map V.int) ∧
  Q (.bl (decide (ns.length ≤ i))) H
def spR_num (K : PySem.W.Frag) (A : Ad) : Sp := fun vs H Q _ => ∃ (r a : Addr) (i : Nat) (ns : List Int) (x : Int), vs = [.ref r] ∧ ReaderAt A H r a i ∧ SqL K H a (ns.map V.int) ∧ ns[i]? = some x ∧
  ∀ H' : Hp, ReaderAt A H' r a (i + 1) → But r H H' → Q (.int x) H'
def spR_row (K : PySem.W.Frag) (A : Ad) : Sp := fun vs H Q _ => ∃ (r a : Addr) (i : Nat) (ns : List Int) (n : Nat), vs = [.ref r] ∧ ReaderAt A H r a i ∧ SqL K H a (ns.map V.int) ∧ ns[i]? = some (n : Int) ∧
  ∀ (H' : Hp) (p : Addr), ReaderAt A H' r a (i + 1 + n) → But r H H' → H p = none → H' p = some (.lst (((ns.drop (i + 1)).take n).map V.int)) → Q (.ref p) H'
section
variable {P : Program} {w : World} {K : PySem.W.Frag} {mg : Str → Option Value} {base : Heap} {A : Ad}
theorem scR_init : FnScope ["self", "calls"] ["self", "calls"] (defScope s_Reader_init) := ⟨rfl, rfl, rfl, by decide +kernel, rfl, by decide +kernel, by decide +kernel⟩
theorem okR_init (T : Txt K mg A) : FnOk P w K mg base CX0 1 A.f_Reader_init A.d_Reader_init ["self", "calls"] (spR_init A) := by
  refine T.F_Reader_init.ok scR_init (fun vs H Q E h => ?_) (fun cdv A1 outer s H vs Q E hr h => ?_)
  · obtain ⟨r, dx, a, rfl, _⟩ := h
    rfl
  · obtain ⟨r, dx, a, rfl, hp, k⟩ := h
    refine ⟨_, pss_cons (ps_fld (pv 0) (pv 1) rfl) (pss_one (ps_fld (pv 0) pe_int rfl)), ?_⟩
    refine ⟨_, rfl, _, rfl, r, A.c_Reader, dx, [], rfl, hp, T.cl_Reader, T.n_Reader_calls, (by show 0 < 1000; decide), ?_⟩
    refine ⟨_, rfl, r, A.c_Reader, dx, _, rfl, upd_same, T.cl_Reader, T.n_Reader_place, (by show 1 < 1000; decide), ?_⟩
    exact k _ ⟨dx, Eq.trans upd_same (congrArg (fun q => some (HO.ins A.c_Reader dx q)) (rF_new a))⟩ (But.trans But.upd But.upd)
theorem scR_end : FnScope ["self"] ["self"] (defScope s_Reader_at_end) := ⟨rfl, rfl, rfl, by decide +kernel, rfl, by decide +kernel, by decide +kernel⟩
theorem okR_end (T : Txt K mg A) : FnOk P w K mg base CX0 1 A.f_Reader_at_end A.d_Reader_at_end ["self"] (spR_end K A) := by
  refine T.F_Reader_at_end.ok scR_end (fun vs H Q E h => ?_) (fun cdv A1 outer s H vs Q E hr h => ?_)
  · obtain ⟨r, a, i, ns, rfl, _⟩ := h
    rfl
  · obtain ⟨r, a, i, ns, rfl, ⟨dx, h1⟩, hS, k⟩ := h
    refine ⟨_, pss_one (ps_ret (pe_cmpR op_ge (pe_fld (pv 0) rfl) (pe_callB call_len_seq (by rfl) T.no_len PySem.boot_len (pa_cons (pe_fld (pv 0) rfl) pa_nil)) (nomark _))), ?_⟩
    refine ⟨_, rfl, r, A.c_Reader, dx, _, _, rfl, h1, T.cl_Reader, T.n_Reader_place, rF_place _ _, _, rfl, r, A.c_Reader, dx, _, _, rfl, h1, T.cl_Reader, T.n_Reader_calls, rF_calls _ _, a, _, rfl, .inl hS, _, _, rfl, rfl, ?_⟩
    have e : decide (((ns.map V.int).length : Int) ≤ (i : Int)) = decide (ns.length ≤ i) := by
      rw [List.length_map]
      by_cases c : ns.length ≤ i
      · rw [decide_eq_true c, decide_eq_true (by omega)]
      · rw [decide_eq_false c, decide_eq_false (by omega)]
    show Q (.bl (decide (((ns.map V.int).length : Int) ≤ (i : Int)))) H
    rw [e]
    exact k
theorem scR_num : FnScope ["self", "number"] ["self"] (defScope s_Reader_read_number) := ⟨rfl, rfl, rfl, by decide +kernel, rfl, by decide +kernel, by decide +kernel⟩
theorem okR_num (T : Txt K mg A) : FnOk P w K mg base CX0 1 A.f_Reader_read_number A.d_Reader_read_number ["self"] (spR_num K A) := by
  refine T.F_Reader_read_number.ok scR_num (fun vs H Q E h => ?_) (fun cdv A1 outer s H vs Q E hr h => ?_)
  · obtain ⟨r, a, i, ns, x, rfl, _⟩ := h
    rfl
  · obtain ⟨r, a, i, ns, x, rfl, ⟨dx, h1⟩, hS, hx, k⟩ := h
    refine ⟨_, pss_cons (ps_set (i := 1) scR_num.nd rfl (Or.inl rfl) (pe_ix ix_list (pe_fld (pv 0) rfl) (pe_fld (pv 0) rfl) (fun _ _ => rfl)))
      (pss_cons (ps_fld (pv 0) (pe_op op_add (pe_fld (pv 0) rfl) pe_int) rfl) (pss_one (ps_ret (pv 1)))), ?_⟩
    have hx' : (ns.map V.int)[i]? = some (V.int x) := by rw [List.getElem?_map, hx]; rfl
    refine ⟨_, rfl, r, A.c_Reader, dx, _, _, rfl, h1, T.cl_Reader, T.n_Reader_calls, rF_calls _ _, _, rfl, r, A.c_Reader, dx, _, _, rfl, h1, T.cl_Reader, T.n_Reader_place, rF_place _ _, a, _, _, _, rfl, rfl, hS, atI_nat hx', ?_⟩
    refine ⟨_, rfl, r, A.c_Reader, dx, _, _, rfl, h1, T.cl_Reader, T.n_Reader_place, rF_place _ _, _, _, rfl, rfl, _, rfl, r, A.c_Reader, dx, _, rfl, h1, T.cl_Reader, T.n_Reader_place, (by show 2 < 1000; decide), ?_⟩
    refine ⟨_, rfl, ?_⟩
    refine k _ ⟨dx, Eq.trans upd_same ?_⟩ But.upd
    exact congrArg (fun q => some (HO.ins A.c_Reader dx q)) (rF_put a i (i + 1))
theorem scR_row : FnScope ["self", "length", "row"] ["self"] (defScope s_Reader_read_row) := ⟨rfl, rfl, rfl, by decide +kernel, rfl, by decide +kernel, by decide +kernel⟩
theorem cut_is (ns : List Int) (i n : Nat) : cutV (ns.map V.int) (some ((i : Nat) : Int)) (some (((i : Nat) : Int) + ((n : Nat) : Int))) = ((ns.drop i).take n).map V.int := by
  have e : ((i : Nat) : Int) + ((n : Nat) : Int) = ((i + n : Nat) : Int) := by omega
  rw [e]
  unfold cutV
  rw [HT.sIx_nat, HT.sIx_nat, List.map_take, List.map_drop, List.length_map]
  by_cases c : i ≤ ns.length
  · rw [Nat.min_eq_left c]
    by_cases d : i + n ≤ ns.length
    · rw [Nat.min_eq_left d]
      congr 1
      omega
    · rw [Nat.min_eq_right (by omega)]
      rw [List.take_of_length_le (by simp), List.take_of_length_le (by simp; omega)]
  · rw [Nat.min_eq_right (by omega : ns.length ≤ i)]
    rw [List.drop_eq_nil_of_le (by simp), List.drop_eq_nil_of_le (by simp; omega)]
    simp
theorem okR_row (T : Txt K mg A) : FnOk P w K mg base CX0 2 A.f_Reader_read_row A.d_Reader_read_row ["self"] (spR_row K A) := by
  have GN : FnOk P w K mg base CX0 1 A.f_Reader_read_number A.d_Reader_read_number ["self"] (spR_num K A) := okR_num T
  refine T.F_Reader_read_row.ok scR_row (fun vs H Q E h => ?_) (fun cdv A1 outer s H vs Q E hr h => ?_)
  · obtain ⟨r, a, i, ns, x, rfl, _⟩ := h
    rfl
  · obtain ⟨r, a, i, ns, n, rfl, hR, hS, hx, k⟩ := h
    obtain ⟨dx0, h0⟩ := id hR
    refine ⟨_, pss_cons (ps_set (i := 1) scR_row.nd rfl (Or.inl rfl) (pe_meth0 (pv 0) T.cl_Reader T.m_Reader_read_number GN hr T.b_Reader_read_number .nil pass0))
      (pss_cons (ps_set (i := 2) scR_row.nd rfl (Or.inl rfl) (pe_slice sl_list (pe_fld (pv 0) rfl) (po_some (pe_fld (pv 0) rfl)) (po_some (pe_op op_add (pe_fld (pv 0) rfl) (pv 1)))))
      (pss_cons (ps_fld (pv 0) (pe_op op_add (pe_fld (pv 0) rfl) (pv 1)) rfl) (pss_one (ps_ret (pv 2))))), ?_⟩
    refine ⟨_, rfl, r, dx0, _, rfl, h0, rF_no _ _ (by decide +kernel) (by decide +kernel), r, a, i, ns, _, rfl, hR, hS, hx, fun H1 ⟨dx, h1⟩ b1 => ?_⟩
    have hS1 : SqL K H1 a (ns.map V.int) := SqL.but b1 h0 hS
    refine ⟨_, rfl, r, A.c_Reader, dx, _, _, rfl, h1, T.cl_Reader, T.n_Reader_calls, rF_calls _ _, _, rfl, r, A.c_Reader, dx, _, _, rfl, h1, T.cl_Reader, T.n_Reader_place, rF_place _ _, _, rfl, _, rfl, r, A.c_Reader, dx, _, _, rfl, h1, T.cl_Reader, T.n_Reader_place, rF_place _ _, _, rfl, _, _, rfl, rfl, _, rfl, a, _, rfl, hS1, fun p np => ?_⟩
    have nrp : r ≠ p := ne_of_none h1 np
    have h1' : upd H1 p (.lst (cutV (ns.map V.int) (some (((i + 1 : Nat)) : Int)) (some ((((i + 1 : Nat)) : Int) + ((n : Nat) : Int))))) r = some (.ins A.c_Reader dx (rF a (i + 1))) := by rw [upd_ne nrp]; exact h1
    refine ⟨_, rfl, r, A.c_Reader, dx, _, _, rfl, h1', T.cl_Reader, T.n_Reader_place, rF_place _ _, _, rfl, _, _, rfl, rfl, _, rfl, r, A.c_Reader, dx, _, rfl, h1', T.cl_Reader, T.n_Reader_place, (by show 2 < 1000; decide), ?_⟩
    refine ⟨_, rfl, ?_⟩
    refine k _ p ⟨dx, Eq.trans upd_same ?_⟩ (fun b o e nb => ?_) ?_ ?_
    · exact congrArg (fun q => some (HO.ins A.c_Reader dx q)) (rF_put a (i + 1) (i + 1 + n))
    · have e1 := b1 b o e nb
      rw [upd_ne nb, upd_ne (ne_of_none e1 np)]
      exact e1
    · cases q : H p with
      | none => rfl
      | some o =>
        rw [b1 p o q nrp.symm] at np
        cases np
    · rw [upd_ne nrp.symm, upd_same, cut_is]
end
end Tf
set_option Elab.async false
set_option maxRecDepth 100000
set_option maxHeartbeats 2000000
namespace Tf
open PySem PySem.Spec PyProof.Rows L2
/-! ### What the house asks of settings and needs -/
/-- one item more -/
theorem take_more {B : Type} {l : List B} {i : Nat} {x : B} (h : l[i]? = some x) : l.take (i + 1) = l.take i ++ [x] := by
  rw [List.take_add_one, h]
  rfl
theorem nL_at {l : List Nat} {i : Nat} {y : V} (h : (nL l)[i]? = some y) : ∃ x, l[i]? = some x ∧ y = nI x := by
  rw [nL_get] at h
  cases e : l[i]? with
  | none => rw [e] at h; cases h
  | some x => rw [e] at h; exact ⟨x, rfl, (Option.some.inj h).symm⟩
theorem at_lt {B : Type} {l : List B} {i : Nat} {x : B} (h : l[i]? = some x) : i < l.length := (List.getElem?_eq_some_iff.mp h).1
theorem nL_flat (l : List Nat) : (nL l).all flatV = true := by
  unfold nL
  rw [List.all_map]
  exact List.all_eq_true.mpr fun _ _ => rfl
theorem inV_nL (l : List Nat) (n : Nat) : inV (nI n) (nL l) = l.contains n := by
  unfold inV nL
  rw [List.any_map]
  induction l with
  | nil => rfl
  | cons a r ih =>
    rw [List.any_cons, ih, List.contains_cons]
    congr 1
    show eqV (V.int (a : Int)) (V.int (n : Int)) = (n == a)
    show decide ((a : Int) = (n : Int)) = (n == a)
    by_cases c : n = a
    · subst c
      simp
    · have : ¬ (a : Int) = (n : Int) := by omega
      simp [c, this]
theorem room_of {n : Nat} (h : n ≤ 1000000) : n < sizeLine := Nat.lt_of_le_of_lt h (by decide)
def okS (l : List Nat) : Bool := decide (1 ≤ l.length) && (decide (l.length ≤ 4) && l.all fun x => decide (x ≤ 10000))
def spSF (K : PySem.W.Frag) : Sp := fun vs H Q _ => ∃ (a : Addr) (l : List Nat), vs = [.ref a] ∧ SqL K H a (nL l) ∧ l.length ≤ 1000 ∧ ∀ H', Same H H' → Q (.bl (okS l)) H'
def spNF (K : PySem.W.Frag) : Sp := fun vs H Q _ => ∃ (a : Addr) (l : List Nat) (n : Nat), vs = [.ref a, nI n] ∧ SqL K H a (nL l) ∧ Q (.bl (fits 0 n l)) H
section
variable {P : Program} {w : World} {K : PySem.W.Frag} {mg : Str → Option Value} {base : Heap} {A : Ad}
theorem scSF : FnScope ["settings", "time"] ["settings"] (defScope s_settings_fit) := ⟨rfl, rfl, rfl, by decide +kernel, rfl, by decide +kernel, by decide +kernel⟩
theorem okSF (T : Txt K mg A) : FnOk P w K mg base CX0 1 A.f_settings_fit A.d_settings_fit ["settings"] (spSF K) := by
  refine T.F_settings_fit.ok scSF (fun vs H Q E h => ?_) (fun cdv A1 outer s H vs Q E hr h => ?_)
  · obtain ⟨a, l, rfl, _⟩ := h
    rfl
  · obtain ⟨a, l, rfl, hS, hl, k⟩ := h
    obtain ⟨t1, z1⟩ := T.z_MOST_SETTINGS
    obtain ⟨t2, z2⟩ := T.z_LONGEST_TIME
    refine ⟨_, pss_cons (ps_if (pt_not (pt_chain op_le op_le pe_int (pe_callB call_len_seq (by rfl) T.no_len PySem.boot_len (pa_cons (pv 0) pa_nil)) (pe_gI z1 rfl)))
        (pss_one (ps_ret pe_bl)) pss_nil)
      (pss_one (ps_ret (pe_callB (cr_all rfl) (by rfl) T.no_all (by decide +kernel) (pa_cons
        (pe_lc (own := [("time", 1)]) (g := gName 1) (tt := tYes) rfl scSF.nd (pi_list (pv 0)) (blkOk_by (N := ["settings", "time"]) (sc := defScope s_settings_fit) (by decide +kernel))
          (fun _ _ _ _ _ => pg_name (i := 1) scSF.nd rfl (Or.inl rfl)) (fun _ _ _ _ _ => pts_nil)
          (fun _ _ _ _ _ => pe_chain op_le op_le pe_int (pv 1) (pe_gI z2 rfl))) pa_nil)))), ?_⟩
    refine ⟨_, rfl, a, _, rfl, .inl hS, _, _, rfl, rfl, _, rfl, ?_⟩
    by_cases c1 : 1 ≤ l.length
    · refine if_true_of (decide_eq_true (by rw [nL_length]; omega)) ?_
      refine ⟨_, _, rfl, rfl, _, rfl, ?_⟩
      by_cases c2 : l.length ≤ 4
      · refine if_false_of (by rw [decide_eq_true (by rw [nL_length]; omega)]; rfl) ?_
        refine ⟨_, rfl, a, rfl, ⟨_, hS⟩, fun D nD => ?_⟩
        refine lc_list (K := K) (a := a) (xs := nL l) (fun i H' => Same H H' ∧ H' D = some (.lst (((l.take i).map fun x => decide (x ≤ 10000)).map V.bl)))
          ⟨same_new nD, upd_same⟩ (fun i H' _ ⟨s1, _⟩ => s1.seq hS) ?_ ?_
        · rintro i y H1 hi ⟨s1, hD⟩
          obtain ⟨x, hx, rfl⟩ := nL_at hi
          have hlt := at_lt hx
          refine ⟨rfl, ?_⟩
          have nx : ∀ H2 : Hp, H2 = H1 → ∃ acc, H2 D = some (.lst acc) ∧ acc.length < sizeLine ∧ (Same H (upd H2 D (.lst (acc ++ [V.bl (decide (x ≤ 10000))]))) ∧ upd H2 D (.lst (acc ++ [V.bl (decide (x ≤ 10000))])) D = some (.lst (((l.take (i + 1)).map fun x => decide (x ≤ 10000)).map V.bl))) := by
            rintro H2 rfl
            refine ⟨_, hD, room_of (by simp; omega), fun b o e => ?_, ?_⟩
            · rw [upd_ne (ne_of_none e nD)]
              exact s1 b o e
            · rw [upd_same, take_more hx]
              simp
          refine ⟨_, rfl, _, _, rfl, rfl, _, rfl, if_true_of (decide_eq_true (by omega)) ?_⟩
          refine ⟨_, _, rfl, rfl, ?_⟩
          have e : decide (((x : Nat) : Int) ≤ 10000) = decide (x ≤ 10000) := by
            by_cases c : x ≤ 10000
            · rw [decide_eq_true c, decide_eq_true (by omega)]
            · rw [decide_eq_false c, decide_eq_false (by omega)]
          show ∃ acc, H1 D = some (.lst acc) ∧ acc.length < sizeLine ∧ (Same H (upd H1 D (.lst (acc ++ [V.bl (decide (((x : Nat) : Int) ≤ 10000))]))) ∧ upd H1 D (.lst (acc ++ [V.bl (decide (((x : Nat) : Int) ≤ 10000))])) D = _)
          rw [e]
          exact nx H1 rfl
        · rintro H1 ⟨s1, hD⟩
          rw [nL_length, List.take_length] at hD
          refine ⟨D, _, rfl, SqL.of hD, ?_⟩
          have e : okS l = ((l.map fun x => decide (x ≤ 10000)).all id) := by
            unfold okS
            rw [decide_eq_true c1, decide_eq_true c2, List.all_map]
            rfl
          have kk := k H1 s1
          rw [e] at kk
          exact kk
      · refine if_true_of (by rw [decide_eq_false (by rw [nL_length]; omega)]; rfl) ?_
        have e : okS l = false := by
          unfold okS
          rw [decide_eq_false c2]
          simp
        have kk := k H (Same.refl H)
        rw [e] at kk
        exact kk
    · refine if_false_of (decide_eq_false (by rw [nL_length]; omega)) ?_
      refine ⟨_, rfl, if_true_of rfl ?_⟩
      have e : okS l = false := by
        unfold okS
        rw [decide_eq_false c1]
        rfl
      have kk := k H (Same.refl H)
      rw [e] at kk
      exact kk
theorem scNF : FnScope ["needs", "test_count", "lowest", "number"] ["needs", "test_count"] (defScope s_needs_fit) := ⟨rfl, rfl, rfl, by decide +kernel, rfl, by decide +kernel, by decide +kernel⟩
/-- what fits says of the part behind i, the lowest that may come being lo -/
theorem okNF (T : Txt K mg A) : FnOk P w K mg base CX0 1 A.f_needs_fit A.d_needs_fit ["needs", "test_count"] (spNF K) := by
  refine T.F_needs_fit.ok scNF (fun vs H Q E h => ?_) (fun cdv A1 outer s H vs Q E hr h => ?_)
  · obtain ⟨a, l, n, rfl, _⟩ := h
    rfl
  · obtain ⟨a, l, n, rfl, hS, k⟩ := h
    refine ⟨_, pss_cons (ps_set (i := 2) scNF.nd rfl (Or.inl rfl) pe_int)
      (pss_cons (ps_for PassesOwn.never rfl (pi_list (pv 0)) (pg_name (i := 3) scNF.nd rfl (Or.inl rfl))
        (pss_cons (ps_if (pt_not (pt_chain op_le op_lt (pv 2) (pv 3) (pv 1))) (pss_one (ps_ret pe_bl)) pss_nil)
          (pss_one (ps_set (i := 2) scNF.nd rfl (Or.inl rfl) (pe_op op_add (pv 3) pe_int)))))
      (pss_one (ps_ret pe_bl))), ?_⟩
    refine ⟨_, rfl, a, rfl, ⟨_, hS⟩, for_list (K := K) (a := a) (xs := nL l) (fun i σ H' => H' = H ∧ ∃ (lo : Nat) (v : Option V), σ = [some (.ref a), some (nI n), some (nI lo), v] ∧ fits 0 n l = fits lo n (l.drop i))
      ⟨rfl, 0, none, rfl, by rw [List.drop_zero]⟩ (fun i σ H' _ ⟨e, _⟩ => by rw [e]; exact hS) ?_ ?_⟩
    · rintro i y σ H' hi ⟨rfl, lo, v, rfl, ef⟩
      obtain ⟨x, hx, rfl⟩ := nL_at hi
      have hlt := at_lt hx
      have ed : l.drop i = x :: l.drop (i + 1) := by
        rw [List.drop_eq_getElem_cons hlt]
        congr 1
        exact (List.getElem?_eq_some_iff.mp hx).2
      rw [ed] at ef
      have ef' : fits lo n (x :: l.drop (i + 1)) = (decide (lo ≤ x) && (decide (x < n) && fits (x + 1) n (l.drop (i + 1)))) := rfl
      rw [ef'] at ef
      refine ⟨_, rfl, _, rfl, _, _, rfl, rfl, _, rfl, ?_⟩
      by_cases c1 : lo ≤ x
      · refine if_true_of (decide_eq_true (by omega)) ?_
        refine ⟨_, rfl, _, _, rfl, rfl, _, rfl, ?_⟩
        by_cases c2 : x < n
        · refine if_false_of (by rw [decide_eq_true (by omega)]; rfl) ?_
          refine ⟨_, rfl, _, _, rfl, rfl, ?_⟩
          rw [decide_eq_true c1, decide_eq_true c2] at ef
          exact ⟨rfl, x + 1, _, rfl, ef⟩
        · refine if_true_of (by rw [decide_eq_false (by omega)]; rfl) ?_
          rw [decide_eq_true c1, decide_eq_false c2] at ef
          rw [ef] at k
          exact k
      · refine if_false_of (decide_eq_false (by omega)) ?_
        refine ⟨_, rfl, if_true_of rfl ?_⟩
        rw [decide_eq_false c1] at ef
        rw [ef] at k
        exact k
    · rintro σ H' ⟨rfl, lo, v, rfl, ef⟩
      rw [nL_length, List.drop_length] at ef
      rw [ef] at k
      exact k
end
end Tf
set_option Elab.async false
set_option maxRecDepth 100000
set_option maxHeartbeats 2000000
namespace Tf
open PySem PySem.Spec PyProof.Rows L2
/-! ### How tests and the house lie in the heap -/
def tF (t : Rp08.Test) (nd : Addr) : List (Str × V) := [("time", nI t.time), ("failures", nI t.fails), ("setting", nI t.env), ("needs", .ref nd)]
theorem tF_time (t : Rp08.Test) (nd : Addr) : (tF t nd).lookup ("time" : Str) = some (nI t.time) := lk_here
theorem tF_failures (t : Rp08.Test) (nd : Addr) : (tF t nd).lookup ("failures" : Str) = some (nI t.fails) := (lk_past (by decide +kernel)).trans lk_here
theorem tF_setting (t : Rp08.Test) (nd : Addr) : (tF t nd).lookup ("setting" : Str) = some (nI t.env) := (lk_past (by decide +kernel)).trans ((lk_past (by decide +kernel)).trans lk_here)
theorem tF_needs (t : Rp08.Test) (nd : Addr) : (tF t nd).lookup ("needs" : Str) = some (.ref nd) := (lk_past (by decide +kernel)).trans ((lk_past (by decide +kernel)).trans ((lk_past (by decide +kernel)).trans lk_here))
theorem tF_new (t : Rp08.Test) (nd : Addr) : putF "needs" (.ref nd) (putF "setting" (nI t.env) (putF "failures" (nI t.fails) (putF "time" (nI t.time) []))) = tF t nd := by
  have e1 : putF "failures" (nI t.fails) (putF "time" (nI t.time) []) = ([("time", nI t.time), ("failures", nI t.fails)] : List (Str × V)) := (put_past (by decide +kernel)).trans rfl
  rw [e1]
  have e2 : putF "setting" (nI t.env) ([("time", nI t.time), ("failures", nI t.fails)] : List (Str × V)) = ([("time", nI t.time), ("failures", nI t.fails), ("setting", nI t.env)] : List (Str × V)) := (put_past (by decide +kernel)).trans (congrArg _ ((put_past (by decide +kernel)).trans rfl))
  rw [e2]
  exact (put_past (by decide +kernel)).trans (congrArg _ ((put_past (by decide +kernel)).trans (congrArg _ ((put_past (by decide +kernel)).trans rfl))))
theorem upd_at' {H : Hp} {p q : Addr} {o u : HO} (h : H p = some o) (n : p ≠ q) : upd H q u p = some o := by
  rw [upd_ne n]
  exact h
/-- a test at a, its needs at nd -/
structure TestAt (A : Ad) (H : Hp) (a nd : Addr) (t : Rp08.Test) : Prop where
  ins : ∃ dx, H a = some (.ins A.c_Test dx (tF t nd))
  nds : H nd = some (.lst (nL t.needs))
theorem TestAt.same {A : Ad} {H H' : Hp} {a nd : Addr} {t : Rp08.Test} (x : TestAt A H a nd t) (s : Same H H') : TestAt A H' a nd t := ⟨let ⟨dx, h⟩ := x.ins; ⟨dx, s _ _ h⟩, s _ _ x.nds⟩
/-- which setting is up, as the program says it -/
def upV (u : Option Nat) : Int := match u with
  | none => -1
  | some e => (e : Int)
theorem upV_eq (u : Option Nat) (e : Nat) : (((e : Nat) : Int) = upV u) ↔ u = some e := by
  cases u with
  | none => simp [upV]
  | some d =>
    simp [upV]
    constructor <;> intro h <;> omega
/-- the addresses of a house -/
structure HD where
  a : Addr
  dx : Addr
  ls : Addr
  lt : Addr
  lp : Addr
  tas : List (Addr × Addr)
def hF (ls lt lp : Addr) (w : Nat) (u : Int) : List (Str × V) := [("whole", nI w), ("settings", .ref ls), ("tests", .ref lt), ("passed", .ref lp), ("up", .int u)]
section
variable (ls lt lp : Addr) (w : Nat) (u : Int)
theorem hF_whole : (hF ls lt lp w u).lookup ("whole" : Str) = some (nI w) := lk_here
theorem hF_settings : (hF ls lt lp w u).lookup ("settings" : Str) = some (.ref ls) := (lk_past (by decide +kernel)).trans lk_here
theorem hF_tests : (hF ls lt lp w u).lookup ("tests" : Str) = some (.ref lt) := (lk_past (by decide +kernel)).trans ((lk_past (by decide +kernel)).trans lk_here)
theorem hF_passed : (hF ls lt lp w u).lookup ("passed" : Str) = some (.ref lp) := (lk_past (by decide +kernel)).trans ((lk_past (by decide +kernel)).trans ((lk_past (by decide +kernel)).trans lk_here))
theorem hF_up : (hF ls lt lp w u).lookup ("up" : Str) = some (.int u) := (lk_past (by decide +kernel)).trans ((lk_past (by decide +kernel)).trans ((lk_past (by decide +kernel)).trans ((lk_past (by decide +kernel)).trans lk_here)))
theorem hF_no {m : Str} (h : [(m == "whole"), (m == "settings"), (m == "tests"), (m == "passed"), (m == "up")] = [false, false, false, false, false]) : (hF ls lt lp w u).lookup m = none := by
  injection h with h1 h
  injection h with h2 h
  injection h with h3 h
  injection h with h4 h
  injection h with h5 h
  exact (lk_past h1).trans ((lk_past h2).trans ((lk_past h3).trans ((lk_past h4).trans ((lk_past h5).trans rfl))))
theorem put_whole (w' : Nat) : putF "whole" (nI w') (hF ls lt lp w u) = hF ls lt lp w' u := put_here
theorem put_settings (x : Addr) : putF "settings" (.ref x) (hF ls lt lp w u) = hF x lt lp w u := (put_past (by decide +kernel)).trans (congrArg _ put_here)
theorem put_tests (x : Addr) : putF "tests" (.ref x) (hF ls lt lp w u) = hF ls x lp w u := (put_past (by decide +kernel)).trans (congrArg _ ((put_past (by decide +kernel)).trans (congrArg _ put_here)))
theorem put_passed (x : Addr) : putF "passed" (.ref x) (hF ls lt lp w u) = hF ls lt x w u :=
  (put_past (by decide +kernel)).trans (congrArg _ ((put_past (by decide +kernel)).trans (congrArg _ ((put_past (by decide +kernel)).trans (congrArg _ put_here)))))
theorem put_up (x : Int) : putF "up" (.int x) (hF ls lt lp w u) = hF ls lt lp w x :=
  (put_past (by decide +kernel)).trans (congrArg _ ((put_past (by decide +kernel)).trans (congrArg _ ((put_past (by decide +kernel)).trans (congrArg _ ((put_past (by decide +kernel)).trans (congrArg _ put_here)))))))
end
/-- **the house h lies at d.a** -/
structure HouseAt (A : Ad) (H : Hp) (d : HD) (h : Rp08.House) : Prop where
  ins : H d.a = some (.ins A.c_House d.dx (hF d.ls d.lt d.lp h.whole (upV h.up)))
  ls : H d.ls = some (.lst (nL h.setups))
  lt : H d.lt = some (.lst (d.tas.map fun p => V.ref p.1))
  lp : H d.lp = some (.lst (nL h.passed))
  tn : d.tas.length = h.tests.length
  ts : ∀ (i : Nat) (t : Rp08.Test), h.tests[i]? = some t → ∃ p : Addr × Addr, d.tas[i]? = some p ∧ TestAt A H p.1 p.2 t
  n1 : d.lt ≠ d.lp
  n2 : d.ls ≠ d.lt
  n3 : d.ls ≠ d.lp
  n4 : ∀ p ∈ d.tas, p.2 ≠ d.lt ∧ p.2 ≠ d.lp
theorem HouseAt.same {A : Ad} {H H' : Hp} {d : HD} {h : Rp08.House} (x : HouseAt A H d h) (s : Same H H') : HouseAt A H' d h :=
  ⟨s _ _ x.ins, s _ _ x.ls, s _ _ x.lt, s _ _ x.lp, x.tn, fun i t e => let ⟨p, e1, e2⟩ := x.ts i t e; ⟨p, e1, e2.same s⟩, x.n1, x.n2, x.n3, x.n4⟩
/-- the lists that belong to the house -/
def Owns (d : HD) (b : Addr) : Prop := b = d.lt ∨ b = d.lp ∨ b = d.ls ∨ ∃ p ∈ d.tas, b = p.2
theorem HouseAt.owns {A : Ad} {H : Hp} {d : HD} {h : Rp08.House} (x : HouseAt A H d h) {b : Addr} (o : Owns d b) : ∃ xs, H b = some (.lst xs) := by
  rcases o with rfl | rfl | rfl | ⟨p, hp, rfl⟩
  · exact ⟨_, x.lt⟩
  · exact ⟨_, x.lp⟩
  · exact ⟨_, x.ls⟩
  · obtain ⟨i, hi, e⟩ := List.mem_iff_getElem.mp hp
    have hi' : i < h.tests.length := by
      rw [← x.tn]
      exact hi
    obtain ⟨q, eq, tq⟩ := x.ts i _ (List.getElem?_eq_getElem hi')
    rw [List.getElem?_eq_getElem hi, e] at eq
    cases eq
    exact ⟨_, tq.nds⟩
/-- what a call on the house leaves of the rest -/
structure Kept (H H' : Hp) (d d' : HD) : Prop where
  a : d'.a = d.a
  fr : ∀ b o, H b = some o → b ≠ d.a → b ≠ d.lt → b ≠ d.lp → H' b = some o
  own : ∀ b, Owns d' b → Owns d b ∨ H b = none
theorem Kept.of_same {H H' : Hp} {d : HD} (s : Same H H') : Kept H H' d d := ⟨rfl, fun b o e _ _ _ => s b o e, fun _ z => .inl z⟩
/-- the house stands where another list is stored -/
theorem HouseAt.off {A : Ad} {H : Hp} {d : HD} {h : Rp08.House} {l : Addr} {xs : List V} {u : HO} (x : HouseAt A H d h) (hl : H l = some (.lst xs)) (n : ¬ Owns d l) : HouseAt A (upd H l u) d h := by
  refine ⟨upd_at' x.ins (ne_of x.ins hl (by intro z; cases z)), upd_at' x.ls fun z => n (.inr (.inr (.inl z.symm))), upd_at' x.lt fun z => n (.inl z.symm), upd_at' x.lp fun z => n (.inr (.inl z.symm)), x.tn, fun i t e => ?_, x.n1, x.n2, x.n3, x.n4⟩
  obtain ⟨p, e1, ⟨dx, h1⟩, h2⟩ := x.ts i t e
  exact ⟨p, e1, ⟨dx, upd_at' h1 (ne_of h1 hl (by intro z; cases z))⟩, upd_at' h2 fun z => n (.inr (.inr (.inr ⟨p, List.mem_of_getElem? e1, z.symm⟩)))⟩
theorem HouseAt.test {A : Ad} {H : Hp} {d : HD} {h : Rp08.House} (x : HouseAt A H d h) {i : Nat} (hi : i < h.tests.length) : ∃ p, d.tas[i]? = some p ∧ TestAt A H p.1 p.2 (h.at_ i) := x.ts i _ (at_get hi)
def spT_init (A : Ad) : Sp := fun vs H Q _ => ∃ (a dx nd : Addr) (t : Rp08.Test), vs = [.ref a, nI t.time, nI t.fails, nI t.env, .ref nd] ∧ H a = some (.ins A.c_Test dx []) ∧
  ∀ H' : Hp, H' a = some (.ins A.c_Test dx (tF t nd)) → But a H H' → Q .non H'
def spNM (A : Ad) : Sp := fun vs H Q _ => ∃ (a nd dn : Addr) (t : Rp08.Test) (l : List Nat), vs = [.ref a, .ref dn] ∧ TestAt A H a nd t ∧ H dn = some (.lst (nL l)) ∧ t.needs.length ≤ 1000 ∧
  ∀ H', Same H H' → Q (.bl (t.needs.all l.contains)) H'
def spTS (A : Ad) : Sp := fun vs H Q _ => ∃ (d : HD) (h : Rp08.House) (a nd : Addr) (t : Rp08.Test) (u : Option Nat), vs = [.ref d.a, .ref a, .int (upV u)] ∧ HouseAt A H d h ∧ TestAt A H a nd t ∧ t.env < h.setups.length ∧
  Q (nI (t.time + if u = some t.env then 0 else h.setups.getD t.env 0)) H
section
variable {P : Program} {w : World} {K : PySem.W.Frag} {mg : Str → Option Value} {base : Heap} {A : Ad}
theorem scT_init : FnScope ["self", "time", "failures", "setting", "needs"] ["self", "time", "failures", "setting", "needs"] (defScope s_Test_init) := ⟨rfl, rfl, rfl, by decide +kernel, rfl, by decide +kernel, by decide +kernel⟩
theorem okT_init (T : Txt K mg A) : FnOk P w K mg base CX0 1 A.f_Test_init A.d_Test_init ["self", "time", "failures", "setting", "needs"] (spT_init A) := by
  refine T.F_Test_init.ok scT_init (fun vs H Q E h => ?_) (fun cdv A1 outer s H vs Q E hr h => ?_)
  · obtain ⟨a, dx, nd, t, rfl, _⟩ := h
    rfl
  · obtain ⟨a, dx, nd, t, rfl, hp, k⟩ := h
    refine ⟨_, pss_cons (ps_fld (pv 0) (pv 1) rfl) (pss_cons (ps_fld (pv 0) (pv 2) rfl) (pss_cons (ps_fld (pv 0) (pv 3) rfl) (pss_one (ps_fld (pv 0) (pv 4) rfl)))), ?_⟩
    refine ⟨_, rfl, _, rfl, a, A.c_Test, dx, [], rfl, hp, T.cl_Test, T.n_Test_time, (by show 0 < 1000; decide), ?_⟩
    refine ⟨_, rfl, _, rfl, a, A.c_Test, dx, _, rfl, upd_same, T.cl_Test, T.n_Test_failures, (by show 1 < 1000; decide), ?_⟩
    refine ⟨_, rfl, _, rfl, a, A.c_Test, dx, _, rfl, upd_same, T.cl_Test, T.n_Test_setting, few (few (by show 0 < 998; decide)), ?_⟩
    refine ⟨_, rfl, _, rfl, a, A.c_Test, dx, _, rfl, upd_same, T.cl_Test, T.n_Test_needs, few (few (few (by show 0 < 997; decide))), ?_⟩
    exact k _ (Eq.trans upd_same (congrArg (fun q => some (HO.ins A.c_Test dx q)) (tF_new t nd))) (But.trans (But.trans But.upd But.upd) (But.trans But.upd But.upd))
theorem scNM : FnScope ["test", "done", "number"] ["test", "done"] (defScope s_needs_met) := ⟨rfl, rfl, rfl, by decide +kernel, rfl, by decide +kernel, by decide +kernel⟩
theorem okNM (T : Txt K mg A) : FnOk P w K mg base CX0 1 A.f_needs_met A.d_needs_met ["test", "done"] (spNM A) := by
  refine T.F_needs_met.ok scNM (fun vs H Q E h => ?_) (fun cdv A1 outer s H vs Q E hr h => ?_)
  · obtain ⟨a, nd, dn, t, l, rfl, _⟩ := h
    rfl
  · obtain ⟨a, nd, dn, t, l, rfl, ⟨⟨dx, h1⟩, h2⟩, h3, hl, k⟩ := h
    refine ⟨_, pss_one (ps_ret (pe_callB (cr_all rfl) (by rfl) T.no_all (by decide +kernel) (pa_cons
        (pe_lc (own := [("number", 2)]) (g := gName 2) (tt := tYes) rfl scNM.nd (pi_list (pe_fld (pv 0) rfl)) (blkOk_by (N := ["test", "done", "number"]) (sc := defScope s_needs_met) (by decide +kernel))
          (fun _ _ _ _ _ => pg_name (i := 2) scNM.nd rfl (Or.inl rfl)) (fun _ _ _ _ _ => pts_nil)
          (fun _ _ _ _ _ => pe_cmpR (r := rIn K false) op_in_seq (pv 2) (pv 1) (by rfl))) pa_nil))), ?_⟩
    refine ⟨_, rfl, a, A.c_Test, dx, _, _, rfl, h1, T.cl_Test, T.n_Test_needs, tF_needs _ _, nd, rfl, ⟨_, SqL.of h2⟩, fun D nD => ?_⟩
    refine lc_list (K := K) (a := nd) (xs := nL t.needs) (fun i H' => Same H H' ∧ H' D = some (.lst (((t.needs.take i).map l.contains).map V.bl)))
      ⟨same_new nD, upd_same⟩ (fun i H' _ ⟨s1, _⟩ => SqL.of (s1 _ _ h2)) ?_ ?_
    · rintro i y H1 hi ⟨s1, hD⟩
      obtain ⟨x, hx, rfl⟩ := nL_at hi
      have hlt := at_lt hx
      refine ⟨rfl, ?_⟩
      refine ⟨_, rfl, _, rfl, dn, _, rfl, .inl (SqL.of (s1 _ _ h3)), rfl, nL_flat _, ?_⟩
      show ∃ acc, H1 D = some (.lst acc) ∧ acc.length < sizeLine ∧ (Same H (upd H1 D (.lst (acc ++ [V.bl (inV (nI x) (nL l))]))) ∧ upd H1 D (.lst (acc ++ [V.bl (inV (nI x) (nL l))])) D = _)
      rw [inV_nL]
      refine ⟨_, hD, room_of (by simp; omega), fun b o e => ?_, ?_⟩
      · rw [upd_ne (ne_of_none e nD)]
        exact s1 b o e
      · rw [upd_same, take_more hx]
        simp
    · rintro H1 ⟨s1, hD⟩
      rw [nL_length, List.take_length] at hD
      refine ⟨D, _, rfl, SqL.of hD, ?_⟩
      have kk := k H1 s1
      have e : t.needs.all l.contains = (t.needs.map l.contains).all id := by
        rw [List.all_map]
        rfl
      rw [e] at kk
      exact kk
theorem scTS : FnScope ["self", "test", "up"] ["self", "test", "up"] (defScope s_House_time_with_setting) := ⟨rfl, rfl, rfl, by decide +kernel, rfl, by decide +kernel, by decide +kernel⟩
theorem okTS (T : Txt K mg A) : FnOk P w K mg base CX0 1 A.f_House_time_with_setting A.d_House_time_with_setting ["self", "test", "up"] (spTS A) := by
  refine T.F_House_time_with_setting.ok scTS (fun vs H Q E h => ?_) (fun cdv A1 outer s H vs Q E hr h => ?_)
  · obtain ⟨d, h, a, nd, t, u, rfl, _⟩ := h
    rfl
  · obtain ⟨d, h, a, nd, t, u, rfl, hH, ⟨⟨dx, h1⟩, h2⟩, he, k⟩ := h
    refine ⟨_, pss_cons (ps_if (pt_cmpR op_eq (pe_fld (pv 1) rfl) (pv 2) (nomark _)) (pss_one (ps_ret (pe_fld (pv 1) rfl))) pss_nil)
      (pss_one (ps_ret (pe_op op_add (pe_fld (pv 1) rfl) (pe_ix ix_list (pe_fld (pv 0) rfl) (pe_fld (pv 1) rfl) (fun _ _ => rfl))))), ?_⟩
    refine ⟨_, rfl, a, A.c_Test, dx, _, _, rfl, h1, T.cl_Test, T.n_Test_setting, tF_setting _ _, _, rfl, rfl, _, rfl, ?_⟩
    by_cases c : u = some t.env
    · refine if_true_of (decide_eq_true (congrArg V.int ((upV_eq _ _).mpr c))) ?_
      refine ⟨_, rfl, a, A.c_Test, dx, _, _, rfl, h1, T.cl_Test, T.n_Test_time, tF_time _ _, ?_⟩
      rw [if_pos c] at k
      exact k
    · refine if_false_of (decide_eq_false (fun z => c ((upV_eq _ _).mp (V.int.inj z)))) ?_
      have hs : (nL h.setups)[t.env]? = some (nI (h.setups.getD t.env 0)) := by
        rw [nL_get, List.getD_eq_getElem?_getD, List.getElem?_eq_getElem he]
        rfl
      refine ⟨_, rfl, a, A.c_Test, dx, _, _, rfl, h1, T.cl_Test, T.n_Test_time, tF_time _ _, _, rfl, d.a, A.c_House, d.dx, _, _, rfl, hH.ins, T.cl_House, T.n_House_settings, hF_settings _ _ _ _ _,
        _, rfl, a, A.c_Test, dx, _, _, rfl, h1, T.cl_Test, T.n_Test_setting, tF_setting _ _, d.ls, _, _, _, rfl, rfl, SqL.of hH.ls, atI_nat hs, _, _, rfl, rfl, ?_⟩
      rw [if_neg c] at k
      exact k
end
end Tf
set_option Elab.async false
set_option maxRecDepth 100000
set_option maxHeartbeats 2000000
namespace Tf
open PySem PySem.Spec PyProof.Rows L2
/-! ### The house's own calls -/
theorem But.free {H H1 : Hp} {x p : Addr} (b : But x H H1) (n : H1 p = none) (np : p ≠ x) : H p = none := by
  cases q : H p with
  | none => rfl
  | some o =>
    rw [b p o q np] at n
    cases n
theorem But.new {H H1 : Hp} {x p : Addr} {o : HO} (b : But x H H1) (n : H1 p = none) : But x H (L2.upd H1 p o) := fun c u e nc => by
  rw [upd_ne (ne_of_none (b c u e nc) n)]
  exact b c u e nc
theorem But.at {H H1 : Hp} {x : Addr} {o : HO} (b : But x H H1) : But x H (L2.upd H1 x o) := b.trans But.upd
theorem upd_at {H : Hp} {p q : Addr} {o u : HO} (h : H p = some o) (n : p ≠ q) : upd H q u p = some o := by
  rw [upd_ne n]
  exact h
theorem hF_new (ls lt lp : Addr) : putF "up" (.int (-1)) (putF "passed" (.ref lp) (putF "tests" (.ref lt) (putF "settings" (.ref ls) (putF "whole" (.int 2) [])))) = hF ls lt lp 2 (-1) := by
  have e1 : putF "settings" (.ref ls) (putF "whole" (.int 2) []) = ([("whole", .int 2), ("settings", .ref ls)] : List (Str × V)) := (put_past (by decide +kernel)).trans rfl
  rw [e1]
  have e2 : putF "tests" (.ref lt) ([("whole", .int 2), ("settings", .ref ls)] : List (Str × V)) = ([("whole", .int 2), ("settings", .ref ls), ("tests", .ref lt)] : List (Str × V)) := (put_past (by decide +kernel)).trans (congrArg _ ((put_past (by decide +kernel)).trans rfl))
  rw [e2]
  have e3 : putF "passed" (.ref lp) ([("whole", .int 2), ("settings", .ref ls), ("tests", .ref lt)] : List (Str × V)) = ([("whole", .int 2), ("settings", .ref ls), ("tests", .ref lt), ("passed", .ref lp)] : List (Str × V)) :=
    (put_past (by decide +kernel)).trans (congrArg _ ((put_past (by decide +kernel)).trans (congrArg _ ((put_past (by decide +kernel)).trans rfl))))
  rw [e3]
  exact (put_past (by decide +kernel)).trans (congrArg _ ((put_past (by decide +kernel)).trans (congrArg _ ((put_past (by decide +kernel)).trans (congrArg _ ((put_past (by decide +kernel)).trans rfl))))))
def spH_init (A : Ad) : Sp := fun vs H Q _ => ∃ (p dx : Addr), vs = [.ref p] ∧ H p = some (.ins A.c_House dx []) ∧
  ∀ (H' : Hp) (d : HD), d.a = p → HouseAt A H' d Rp08.init → But p H H' → (∀ b, Owns d b → H b = none) → Q .non H'
def spH_begins (A : Ad) : Sp := fun vs H Q _ => ∃ (d : HD) (h : Rp08.House) (n : Nat) (a : Addr) (l : List Nat), vs = [.ref d.a, nI n, .ref a] ∧ HouseAt A H d h ∧ H a = some (.lst (nL l)) ∧ l.length ≤ 1000 ∧
  ∀ (H' : Hp) (d' : HD), HouseAt A H' d' (Rp08.step h (.begins n l)).1 → Kept H H' d d' → Q (.int (Rp08.step h (.begins n l)).2.v) H'
def spH_test (A : Ad) : Sp := fun vs H Q _ => ∃ (d : HD) (h : Rp08.House) (t f e : Nat) (a : Addr) (l : List Nat), vs = [.ref d.a, nI t, nI f, nI e, .ref a] ∧ HouseAt A H d h ∧ h.tests.length ≤ 6 ∧ H a = some (.lst (nL l)) ∧
  ∀ (H' : Hp) (d' : HD), HouseAt A H' d' (Rp08.step h (.test t f e l)).1 → Kept H H' d d' → Q (.int (Rp08.step h (.test t f e l)).2.v) H'
def spH_pass (A : Ad) : Sp := fun vs H Q _ => ∃ (d : HD) (h : Rp08.House) (i : Nat), vs = [.ref d.a, nI i] ∧ HouseAt A H d h ∧ Good h ∧
  ∀ (H' : Hp) (d' : HD), HouseAt A H' d' (Rp08.step h (.pass i)).1 → Kept H H' d d' → Q (.int (Rp08.step h (.pass i)).2.v) H'
theorem step_begins_no {h : Rp08.House} {n : Nat} {l : List Nat} (c : ¬ (2 ≤ n ∧ n ≤ 100) ∨ okS l = false) : Rp08.step h (.begins n l) = (h, Rp08.ok (-1)) := by
  refine if_pos ?_
  rcases c with c | c
  · by_cases c1 : n < 2
    · exact .inl c1
    · exact .inr (.inl (by show 100 < n; omega))
  · unfold okS at c
    rw [Bool.and_eq_false_iff, Bool.and_eq_false_iff] at c
    rcases c with c | c | c
    · have := of_decide_eq_false c
      exact .inr (.inr (.inl (List.eq_nil_of_length_eq_zero (by omega))))
    · have := of_decide_eq_false c
      exact .inr (.inr (.inr (.inl (by show 4 < l.length; omega))))
    · exact .inr (.inr (.inr (.inr c)))
theorem step_begins_yes {h : Rp08.House} {n : Nat} {l : List Nat} (c1 : 2 ≤ n) (c2 : n ≤ 100) (c : okS l = true) : Rp08.step h (.begins n l) = (⟨n, l, [], [], none⟩, Rp08.ok 0) := by
  unfold okS at c
  rw [Bool.and_eq_true, Bool.and_eq_true] at c
  have d1 := of_decide_eq_true c.1
  have d2 := of_decide_eq_true c.2.1
  refine if_neg ?_
  rintro (z | z | z | z | z)
  · omega
  · have z : 100 < n := z
    omega
  · rw [z] at d1
    simp at d1
  · have z : 4 < l.length := z
    omega
  · have e : (l.all fun x => decide (x ≤ 10000)) = false := z
    rw [e] at c
    exact absurd c.2.2 (by simp)
section
variable {P : Program} {w : World} {K : PySem.W.Frag} {mg : Str → Option Value} {base : Heap} {A : Ad}
theorem scH_init : FnScope ["self"] ["self"] (defScope s_House_init) := ⟨rfl, rfl, rfl, by decide +kernel, rfl, by decide +kernel, by decide +kernel⟩
theorem okH_init (T : Txt K mg A) : FnOk P w K mg base CX0 1 A.f_House_init A.d_House_init ["self"] (spH_init A) := by
  refine T.F_House_init.ok scH_init (fun vs H Q E h => ?_) (fun cdv A1 outer s H vs Q E hr h => ?_)
  · obtain ⟨p, dx, rfl, _⟩ := h
    rfl
  · obtain ⟨p, dx, rfl, hp, k⟩ := h
    obtain ⟨t1, z1⟩ := T.z_LEAST_WHOLE
    obtain ⟨t2, z2⟩ := T.z_NO_SETTING
    refine ⟨_, pss_cons (ps_fld (pv 0) (pe_gI z1 rfl) rfl) (pss_cons (ps_fld (pv 0) (pe_lst (pa_cons pe_int pa_nil)) rfl) (pss_cons (ps_fld (pv 0) (pe_lst pa_nil) rfl)
      (pss_cons (ps_fld (pv 0) (pe_lst pa_nil) rfl) (pss_one (ps_fld (pv 0) (pe_gI z2 rfl) rfl))))), ?_⟩
    refine ⟨_, rfl, p, A.c_House, dx, [], rfl, hp, T.cl_House, T.n_House_whole, (by show 0 < 1000; decide), ?_⟩
    refine ⟨(by show 1 ≤ sizeLine; decide), fun p1 np1 => ?_⟩
    have q1 : p ≠ p1 := ne_of_none upd_same np1
    refine ⟨_, rfl, p, A.c_House, dx, _, rfl, upd_at upd_same q1, T.cl_House, T.n_House_settings, few (by show 0 < 999; decide), ?_⟩
    refine ⟨Nat.zero_le _, fun p2 np2 => ?_⟩
    have q2 : p ≠ p2 := ne_of_none upd_same np2
    refine ⟨_, rfl, p, A.c_House, dx, _, rfl, upd_at upd_same q2, T.cl_House, T.n_House_tests, few (few (by show 0 < 998; decide)), ?_⟩
    refine ⟨Nat.zero_le _, fun p3 np3 => ?_⟩
    have q3 : p ≠ p3 := ne_of_none upd_same np3
    refine ⟨_, rfl, p, A.c_House, dx, _, rfl, upd_at upd_same q3, T.cl_House, T.n_House_passed, few (few (few (by show 0 < 997; decide))), ?_⟩
    refine ⟨_, rfl, p, A.c_House, dx, _, rfl, upd_same, T.cl_House, T.n_House_up, few (few (few (few (by show 0 < 996; decide)))), ?_⟩
    have b0 : But p H (upd H p (.ins A.c_House dx (putF "whole" (.int 2) []))) := But.upd
    have b1 := (b0.new (o := .lst [.int 0]) np1).at (o := .ins A.c_House dx (putF "settings" (.ref p1) (putF "whole" (.int 2) [])))
    have b2 := (b1.new (o := .lst []) np2).at (o := .ins A.c_House dx (putF "tests" (.ref p2) (putF "settings" (.ref p1) (putF "whole" (.int 2) []))))
    have b3 := (b2.new (o := .lst []) np3).at (o := .ins A.c_House dx (putF "passed" (.ref p3) (putF "tests" (.ref p2) (putF "settings" (.ref p1) (putF "whole" (.int 2) [])))))
    have h1 : upd (upd (upd H p (.ins A.c_House dx (putF "whole" (.int 2) []))) p1 (.lst [.int 0])) p (.ins A.c_House dx (putF "settings" (.ref p1) (putF "whole" (.int 2) []))) p1 = some (.lst [.int 0]) := upd_at upd_same q1.symm
    have n12 : p1 ≠ p2 := ne_of_none h1 np2
    have h1' := upd_at (q := p) (u := .ins A.c_House dx (putF "tests" (.ref p2) (putF "settings" (.ref p1) (putF "whole" (.int 2) [])))) (upd_at (q := p2) (u := .lst []) h1 n12) q1.symm
    have n13 : p1 ≠ p3 := ne_of_none h1' np3
    have h2 := upd_at (q := p) (u := .ins A.c_House dx (putF "tests" (.ref p2) (putF "settings" (.ref p1) (putF "whole" (.int 2) [])))) (upd_same (H := upd (upd (upd H p (.ins A.c_House dx (putF "whole" (.int 2) []))) p1 (.lst [.int 0])) p (.ins A.c_House dx (putF "settings" (.ref p1) (putF "whole" (.int 2) [])))) (a := p2) (o := .lst [])) q2.symm
    have n23 : p2 ≠ p3 := ne_of_none h2 np3
    refine k _ ⟨p, dx, p1, p2, p3, []⟩ rfl ⟨?_, ?_, ?_, ?_, rfl, fun i t e => by simp [Rp08.init] at e, n23, n12, n13, fun q hq => by simp at hq⟩ b3.at ?_
    rotate_right
    · rintro b (rfl | rfl | rfl | ⟨q, hq, _⟩)
      · exact b1.free np2 q2.symm
      · exact b2.free np3 q3.symm
      · exact b0.free np1 q1.symm
      · cases hq
    · exact Eq.trans upd_same (congrArg (fun q => some (HO.ins A.c_House dx q)) (hF_new p1 p2 p3))
    · exact upd_at (upd_at (upd_at h1' n13) q1.symm) q1.symm
    · exact upd_at (upd_at (upd_at h2 n23) q2.symm) q2.symm
    · exact upd_at (upd_at upd_same q3.symm) q3.symm
theorem scH_begins : FnScope ["self", "whole", "settings"] ["self", "whole", "settings"] (defScope s_House_begins) := ⟨rfl, rfl, rfl, by decide +kernel, rfl, by decide +kernel, by decide +kernel⟩
theorem okH_begins (T : Txt K mg A) : FnOk P w K mg base CX0 2 A.f_House_begins A.d_House_begins ["self", "whole", "settings"] (spH_begins A) := by
  have GS : FnOk P w K mg base CX0 1 A.f_settings_fit A.d_settings_fit ["settings"] (spSF K) := okSF T
  refine T.F_House_begins.ok scH_begins (fun vs H Q E h => ?_) (fun cdv A1 outer s H vs Q E hr h => ?_)
  · obtain ⟨d, h, n, a, l, rfl, _⟩ := h
    rfl
  · obtain ⟨d, h, n, a, l, rfl, hH, ha, hl, k⟩ := h
    obtain ⟨t1, z1⟩ := T.z_LEAST_WHOLE
    obtain ⟨t2, z2⟩ := T.z_MOST_WHOLE
    obtain ⟨t3, z3⟩ := T.z_OUT_OF_RANGE
    obtain ⟨t4, z4⟩ := T.z_NO_SETTING
    refine ⟨_, pss_cons (ps_if (PW.pt (pw_or (pt_not (pt_chain op_le op_le (pe_gI z1 rfl) (pv 1) (pe_gI z2 rfl))) (pw_or1 (pt_not (pt_val (pe_call GS hr rfl T.g_settings_fit T.k_settings_fit T.b_settings_fit .nil pass0 (pa_cons (pv 2) pa_nil)))))))
        (pss_one (ps_ret (pe_gI z3 rfl))) pss_nil)
      (pss_cons (ps_fld (pv 0) (pv 1) rfl) (pss_cons (ps_fld (pv 0) (pe_callTy call_list_of (by rfl) T.no_list (by decide +kernel) (pa_cons (pv 2) pa_nil)) rfl)
      (pss_cons (ps_fld (pv 0) (pe_lst pa_nil) rfl) (pss_cons (ps_fld (pv 0) (pe_lst pa_nil) rfl) (pss_cons (ps_fld (pv 0) (pe_gI z4 rfl) rfl) (pss_one (ps_ret pe_int))))))), ?_⟩
    have refuse : ∀ H1, Same H H1 → (¬ (2 ≤ n ∧ n ≤ 100) ∨ okS l = false) → Q (.int (-1)) H1 := fun H1 s1 c => by
      have kk := k H1 d
      rw [step_begins_no c] at kk
      exact kk (hH.same s1) (Kept.of_same s1)
    refine ⟨_, rfl, _, _, rfl, rfl, _, rfl, ?_⟩
    by_cases c1 : 2 ≤ n
    · refine if_true_of (decide_eq_true (by omega)) ?_
      refine ⟨_, _, rfl, rfl, _, rfl, ?_⟩
      by_cases c2 : n ≤ 100
      · refine if_false_of (by rw [decide_eq_true (by omega)]; rfl) ?_
        refine ⟨_, rfl, a, l, rfl, SqL.of ha, hl, fun H1 s1 => ⟨_, rfl, ?_⟩⟩
        have hH1 := hH.same s1
        have ha1 := s1 _ _ ha
        by_cases c3 : okS l = true
        · refine if_false_of (by rw [c3]; rfl) ?_
          have nad : a ≠ d.a := ne_of ha1 hH1.ins (by intro z; cases z)
          refine ⟨_, rfl, _, rfl, d.a, A.c_House, d.dx, _, rfl, hH1.ins, T.cl_House, T.n_House_whole, (by show 5 < 1000; decide), ?_⟩
          rw [put_whole]
          refine ⟨_, rfl, a, _, rfl, .inl (SqL.of (upd_at ha1 nad)), fun p1 np1 => ?_⟩
          have q1 : d.a ≠ p1 := ne_of_none upd_same np1
          refine ⟨_, rfl, d.a, A.c_House, d.dx, _, rfl, upd_at upd_same q1, T.cl_House, T.n_House_settings, (by show 5 < 1000; decide), ?_⟩
          rw [put_settings]
          refine ⟨Nat.zero_le _, fun p2 np2 => ?_⟩
          have q2 : d.a ≠ p2 := ne_of_none upd_same np2
          refine ⟨_, rfl, d.a, A.c_House, d.dx, _, rfl, upd_at upd_same q2, T.cl_House, T.n_House_tests, (by show 5 < 1000; decide), ?_⟩
          rw [put_tests]
          refine ⟨Nat.zero_le _, fun p3 np3 => ?_⟩
          have q3 : d.a ≠ p3 := ne_of_none upd_same np3
          refine ⟨_, rfl, d.a, A.c_House, d.dx, _, rfl, upd_at upd_same q3, T.cl_House, T.n_House_passed, (by show 5 < 1000; decide), ?_⟩
          rw [put_passed]
          refine ⟨_, rfl, d.a, A.c_House, d.dx, _, rfl, upd_same, T.cl_House, T.n_House_up, (by show 5 < 1000; decide), ?_⟩
          rw [put_up]
          have b0 : But d.a H (upd H1 d.a (.ins A.c_House d.dx (hF d.ls d.lt d.lp n (upV h.up)))) := (But.of_same s1).at
          have b1 := (b0.new (o := .lst (nL l)) np1).at (o := .ins A.c_House d.dx (hF p1 d.lt d.lp n (upV h.up)))
          have b2 := (b1.new (o := .lst []) np2).at (o := .ins A.c_House d.dx (hF p1 p2 d.lp n (upV h.up)))
          have b3 := (b2.new (o := .lst []) np3).at (o := .ins A.c_House d.dx (hF p1 p2 p3 n (upV h.up)))
          have f2 : H p2 = none := b1.free np2 q2.symm
          have f3 : H p3 = none := b2.free np3 q3.symm
          have h1 : upd (upd (upd H1 d.a (.ins A.c_House d.dx (hF d.ls d.lt d.lp n (upV h.up)))) p1 (.lst (nL l))) d.a (.ins A.c_House d.dx (hF p1 d.lt d.lp n (upV h.up))) p1 = some (.lst (nL l)) := upd_at upd_same q1.symm
          have n12 : p1 ≠ p2 := ne_of_none h1 np2
          have h1' := upd_at (q := d.a) (u := .ins A.c_House d.dx (hF p1 p2 d.lp n (upV h.up))) (upd_at (q := p2) (u := .lst []) h1 n12) q1.symm
          have n13 : p1 ≠ p3 := ne_of_none h1' np3
          have h2 := upd_at (q := d.a) (u := .ins A.c_House d.dx (hF p1 p2 d.lp n (upV h.up))) (upd_same (H := upd (upd (upd H1 d.a (.ins A.c_House d.dx (hF d.ls d.lt d.lp n (upV h.up)))) p1 (.lst (nL l))) d.a (.ins A.c_House d.dx (hF p1 d.lt d.lp n (upV h.up)))) (a := p2) (o := .lst [])) q2.symm
          have n23 : p2 ≠ p3 := ne_of_none h2 np3
          have kk := k (upd (upd (upd (upd (upd (upd (upd (upd H1 d.a (.ins A.c_House d.dx (hF d.ls d.lt d.lp n (upV h.up)))) p1 (.lst (nL l))) d.a (.ins A.c_House d.dx (hF p1 d.lt d.lp n (upV h.up)))) p2 (.lst [])) d.a (.ins A.c_House d.dx (hF p1 p2 d.lp n (upV h.up)))) p3 (.lst [])) d.a (.ins A.c_House d.dx (hF p1 p2 p3 n (upV h.up)))) d.a (.ins A.c_House d.dx (hF p1 p2 p3 n (-1)))) ⟨d.a, d.dx, p1, p2, p3, []⟩
          rw [step_begins_yes c1 c2 c3] at kk
          refine kk ⟨upd_same, ?_, ?_, ?_, rfl, fun i t e => by simp at e, n23, n12, n13, fun q hq => by simp at hq⟩ ⟨rfl, fun b o e nb _ _ => b3.at b o e nb, ?_⟩
          rotate_right
          · rintro b (rfl | rfl | rfl | ⟨q, hq, _⟩)
            · exact .inr f2
            · exact .inr f3
            · exact .inr (b0.free np1 q1.symm)
            · cases hq
          · exact upd_at (upd_at (upd_at h1' n13) q1.symm) q1.symm
          · exact upd_at (upd_at (upd_at h2 n23) q2.symm) q2.symm
          · exact upd_at (upd_at upd_same q3.symm) q3.symm
        · have c3' : okS l = false := by simpa using c3
          refine if_true_of (by rw [c3']; rfl) ?_
          exact refuse H1 s1 (.inr c3')
      · refine if_true_of (by rw [decide_eq_false (by omega)]; rfl) ?_
        refine if_true_of rfl ?_
        exact refuse H (Same.refl H) (.inl (by omega))
    · refine if_false_of (decide_eq_false (by omega)) ?_
      refine ⟨_, rfl, ?_⟩
      refine if_true_of rfl ?_
      refine if_true_of rfl ?_
      exact refuse H (Same.refl H) (.inl (by omega))
end
end Tf
set_option Elab.async false
set_option maxRecDepth 100000
set_option maxHeartbeats 2000000
namespace Tf
open PySem PySem.Spec PyProof.Rows L2
theorem step_test_1 {h : Rp08.House} {t f e : Nat} {l : List Nat} (c : t < 1 ∨ 10000 < t ∨ h.whole ≤ f ∨ h.setups.length ≤ e) : Rp08.step h (.test t f e l) = (h, Rp08.ok (-1)) := by
  refine if_pos ?_
  rcases c with c | c
  · exact .inl (by omega)
  · exact .inr c
theorem test_on {h : Rp08.House} {t f e : Nat} (c : 1 ≤ t ∧ t ≤ 10000 ∧ f < h.whole ∧ e < h.setups.length) : ¬ (t = 0 ∨ Rp08.TIME < t ∨ h.whole ≤ f ∨ h.setups.length ≤ e) := by
  rintro (z | z | z | z)
  · omega
  · have z : 10000 < t := z
    omega
  · omega
  · omega
theorem step_test_7 {h : Rp08.House} {t f e : Nat} {l : List Nat} (c : 1 ≤ t ∧ t ≤ 10000 ∧ f < h.whole ∧ e < h.setups.length) (c6 : h.tests.length = 6) : Rp08.step h (.test t f e l) = (h, Rp08.ok (-7)) :=
  (if_neg (test_on c)).trans (if_pos c6)
theorem step_test_2 {h : Rp08.House} {t f e : Nat} {l : List Nat} (c : 1 ≤ t ∧ t ≤ 10000 ∧ f < h.whole ∧ e < h.setups.length) (c6 : ¬ h.tests.length = 6) (n : fits 0 h.tests.length l = false) : Rp08.step h (.test t f e l) = (h, Rp08.ok (-2)) :=
  (if_neg (test_on c)).trans ((if_neg c6).trans (if_pos ((fits_zero _ _).mp n)))
theorem step_test_0 {h : Rp08.House} {t f e : Nat} {l : List Nat} (c : 1 ≤ t ∧ t ≤ 10000 ∧ f < h.whole ∧ e < h.setups.length) (c6 : ¬ h.tests.length = 6) (n : fits 0 h.tests.length l = true) : Rp08.step h (.test t f e l) = ({ h with tests := h.tests ++ [⟨t, f, e, l⟩] }, Rp08.ok (h.tests.length : Nat)) :=
  (if_neg (test_on c)).trans ((if_neg c6).trans (if_neg (fun z => by rw [(fits_zero _ _).mpr z] at n; cases n)))
theorem step_pass_2 {h : Rp08.House} {i : Nat} (c : h.tests.length ≤ i) : Rp08.step h (.pass i) = (h, Rp08.ok (-2)) := if_pos c
theorem step_pass_4 {h : Rp08.House} {i : Nat} (c : i < h.tests.length) (c2 : h.passed.contains i = true) : Rp08.step h (.pass i) = (h, Rp08.ok (-4)) := (if_neg (by omega)).trans (if_pos c2)
theorem may_is {h : Rp08.House} {i : Nat} (c2 : h.passed.contains i = false) : h.may i = (h.at_ i).needs.all h.passed.contains := by
  unfold Rp08.House.may
  rw [c2]
  rfl
theorem step_pass_5 {h : Rp08.House} {i : Nat} (c : i < h.tests.length) (c2 : h.passed.contains i = false) (c3 : (h.at_ i).needs.all h.passed.contains = false) : Rp08.step h (.pass i) = (h, Rp08.ok (-5)) :=
  (if_neg (by omega)).trans ((if_neg (by rw [c2]; simp)).trans (if_pos (by rw [may_is c2]; exact c3)))
theorem step_pass_0 {h : Rp08.House} {i : Nat} (c : i < h.tests.length) (c2 : h.passed.contains i = false) (c3 : (h.at_ i).needs.all h.passed.contains = true) : Rp08.step h (.pass i) = (h.behind i, Rp08.ok (h.takes h.up i : Nat)) :=
  (if_neg (by omega)).trans ((if_neg (by rw [c2]; simp)).trans (if_neg (by rw [may_is c2, c3]; simp)))
theorem dle {a b : Nat} : decide (((a : Nat) : Int) ≤ ((b : Nat) : Int)) = decide (a ≤ b) := by
  by_cases c : a ≤ b
  · rw [decide_eq_true c, decide_eq_true (by omega)]
  · rw [decide_eq_false c, decide_eq_false (by omega)]
section
variable {P : Program} {w : World} {K : PySem.W.Frag} {mg : Str → Option Value} {base : Heap} {A : Ad}
theorem scH_test : FnScope ["self", "time", "failures", "setting", "needs"] ["self", "time", "failures", "setting", "needs"] (defScope s_House_add_test) := ⟨rfl, rfl, rfl, by decide +kernel, rfl, by decide +kernel, by decide +kernel⟩
theorem okH_test (T : Txt K mg A) : FnOk P w K mg base CX0 3 A.f_House_add_test A.d_House_add_test ["self", "time", "failures", "setting", "needs"] (spH_test A) := by
  have GF : FnOk P w K mg base CX0 1 A.f_needs_fit A.d_needs_fit ["needs", "test_count"] (spNF K) := okNF T
  have GT : FnOk P w K mg base CX0 1 A.f_Test_init A.d_Test_init ["self", "time", "failures", "setting", "needs"] (spT_init A) := okT_init T
  refine T.F_House_add_test.ok scH_test (fun vs H Q E h => ?_) (fun cdv A1 outer s H vs Q E hr h => ?_)
  · obtain ⟨d, h, t, f, e, a, l, rfl, _⟩ := h
    rfl
  · obtain ⟨d, h, t, f, e, a, l, rfl, hH, h6, ha, k⟩ := h
    obtain ⟨t1, z1⟩ := T.z_LONGEST_TIME
    obtain ⟨t2, z2⟩ := T.z_OUT_OF_RANGE
    obtain ⟨t3, z3⟩ := T.z_MOST_TESTS
    obtain ⟨t4, z4⟩ := T.z_TOO_MANY_TESTS
    obtain ⟨t5, z5⟩ := T.z_NOT_THERE
    have hr1 : Room 1 _ := hr.mono (by decide)
    refine ⟨_, pss_cons (ps_if (PW.pt (pw_or (pt_not (pt_chain op_le op_le pe_int (pv 1) (pe_gI z1 rfl))) (pw_or (pt_cmpR op_ge (pv 2) (pe_fld (pv 0) rfl) (nomark _))
          (pw_or1 (pt_cmpR op_ge (pv 3) (pe_callB call_len_seq (by rfl) T.no_len PySem.boot_len (pa_cons (pe_fld (pv 0) rfl) pa_nil)) (nomark _))))))
        (pss_one (ps_ret (pe_gI z2 rfl))) pss_nil)
      (pss_cons (ps_if (pt_cmpR op_ge (pe_callB call_len_seq (by rfl) T.no_len PySem.boot_len (pa_cons (pe_fld (pv 0) rfl) pa_nil)) (pe_gI z3 rfl) (nomark _)) (pss_one (ps_ret (pe_gI z4 rfl))) pss_nil)
      (pss_cons (ps_if (pt_not (pt_val (pe_call GF hr1 rfl T.g_needs_fit T.k_needs_fit T.b_needs_fit .nil pass0 (pa_cons (pv 4) (pa_cons (pe_callB call_len_seq (by rfl) T.no_len PySem.boot_len (pa_cons (pe_fld (pv 0) rfl) pa_nil)) pa_nil)))))
        (pss_one (ps_ret (pe_gI z5 rfl))) pss_nil)
      (pss_cons (ps_expr (pe_bm PySem.F.plainAttrs_list PySem.F.slot_list_append PySem.F.type_list_append mt_append (pe_fld (pv 0) rfl)
        (pa_cons (pe_make T.mk_Test GT hr rfl T.g_Test T.b_Test_init .nil pass0 (pa_cons (pv 1) (pa_cons (pv 2) (pa_cons (pv 3) (pa_cons (pe_callTy call_list_of (by rfl) T.no_list (by decide +kernel) (pa_cons (pv 4) pa_nil)) pa_nil))))) pa_nil)))
      (pss_one (ps_ret (pe_op op_sub (pe_callB call_len_seq (by rfl) T.no_len PySem.boot_len (pa_cons (pe_fld (pv 0) rfl) pa_nil)) pe_int)))))), ?_⟩
    have out : Rp08.step h (.test t f e l) = (h, Rp08.ok (-1)) → Q (.int (-1)) H := fun z => by
      have kk := k H d
      rw [z] at kk
      exact kk hH (Kept.of_same (Same.refl H))
    have ltl : (d.tas.map fun p => V.ref p.1).length = h.tests.length := by rw [List.length_map, hH.tn]
    refine ⟨_, rfl, _, _, rfl, rfl, _, rfl, ?_⟩
    by_cases c1 : 1 ≤ t
    · refine if_true_of (decide_eq_true (by omega)) ?_
      refine ⟨_, _, rfl, rfl, _, rfl, ?_⟩
      by_cases c2 : t ≤ 10000
      · refine if_false_of (by rw [decide_eq_true (by omega)]; rfl) ?_
        refine ⟨_, rfl, _, rfl, d.a, A.c_House, d.dx, _, _, rfl, hH.ins, T.cl_House, T.n_House_whole, hF_whole _ _ _ _ _, _, _, rfl, rfl, _, rfl, ?_⟩
        rw [dle]
        by_cases c3 : h.whole ≤ f
        · refine if_true_of (decide_eq_true c3) (if_true_of rfl ?_)
          exact out (step_test_1 (.inr (.inr (.inl c3))))
        · refine if_false_of (decide_eq_false c3) ?_
          refine ⟨_, rfl, _, rfl, d.a, A.c_House, d.dx, _, _, rfl, hH.ins, T.cl_House, T.n_House_settings, hF_settings _ _ _ _ _, d.ls, _, rfl, .inl (SqL.of hH.ls), _, _, rfl, rfl, _, rfl, ?_⟩
          rw [nL_length, dle]
          by_cases c4 : h.setups.length ≤ e
          · refine if_true_of (decide_eq_true c4) ?_
            exact out (step_test_1 (.inr (.inr (.inr c4))))
          · refine if_false_of (decide_eq_false c4) ?_
            have on : 1 ≤ t ∧ t ≤ 10000 ∧ f < h.whole ∧ e < h.setups.length := ⟨c1, c2, by omega, by omega⟩
            refine ⟨_, rfl, d.a, A.c_House, d.dx, _, _, rfl, hH.ins, T.cl_House, T.n_House_tests, hF_tests _ _ _ _ _, d.lt, _, rfl, .inl (SqL.of hH.lt), _, _, rfl, rfl, _, rfl, ?_⟩
            rw [ltl]
            by_cases c5 : h.tests.length = 6
            · refine if_true_of (decide_eq_true (by omega)) ?_
              have kk := k H d
              rw [step_test_7 on c5] at kk
              exact kk hH (Kept.of_same (Same.refl H))
            · refine if_false_of (decide_eq_false (by omega)) ?_
              refine ⟨_, rfl, _, rfl, d.a, A.c_House, d.dx, _, _, rfl, hH.ins, T.cl_House, T.n_House_tests, hF_tests _ _ _ _ _, d.lt, _, rfl, .inl (SqL.of hH.lt), a, l, h.tests.length, (by rw [ltl]; rfl), SqL.of ha, _, rfl, ?_⟩
              by_cases c6 : fits 0 h.tests.length l = true
              · refine if_false_of (by rw [c6]; rfl) ?_
                refine ⟨_, rfl, d.a, A.c_House, d.dx, _, _, rfl, hH.ins, T.cl_House, T.n_House_tests, hF_tests _ _ _ _ _, .inl ⟨rfl, _, SqL.of hH.lt⟩, _, rfl, _, rfl, _, rfl, _, rfl, a, _, rfl, .inl (SqL.of ha), fun p np => ?_⟩
                intro x dx nx nd ne
                refine ⟨x, dx, p, ⟨t, f, e, l⟩, rfl, upd_same, fun H3 i3 b3 => ⟨rfl, ?_⟩⟩
                have s13 : Same (upd H p (.lst (nL l))) H3 := Same.made nx nd b3
                have s3 : Same H H3 := Same.trans (same_new np) s13
                have hH3 := hH.same s3
                have p3 : H3 p = some (.lst (nL l)) := s13 _ _ upd_same
                have fx : H x = none := Same.free (same_new np) nx
                have nxl : d.lt ≠ x := ne_of_none hH.lt fx
                have npl : d.lt ≠ p := ne_of_none hH.lt np
                have npp : d.lp ≠ p := ne_of_none hH.lp np
                have nal : d.a ≠ d.lt := ne_of hH.ins hH.lt (by intro z; cases z)
                refine ⟨d.lt, _, _, rfl, rfl, hH3.lt, room_of (by rw [ltl]; omega), ?_⟩
                have hi : upd H3 d.lt (.lst ((d.tas.map fun p => V.ref p.1) ++ [V.ref x])) d.a = _ := upd_at hH3.ins nal
                refine ⟨_, rfl, d.a, A.c_House, d.dx, _, _, rfl, hi, T.cl_House, T.n_House_tests, hF_tests _ _ _ _ _, d.lt, _, rfl, .inl (SqL.of upd_same), _, _, rfl, rfl, ?_⟩
                have kk := k (upd H3 d.lt (.lst ((d.tas.map fun p => V.ref p.1) ++ [V.ref x]))) { d with tas := d.tas ++ [(x, p)] }
                rw [step_test_0 on c5 c6] at kk
                have ev : ((((d.tas.map fun p => V.ref p.1) ++ [V.ref x]).length : Nat) : Int) - 1 = ((h.tests.length : Nat) : Int) := by
                  rw [List.length_append, ltl, List.length_singleton]
                  omega
                show Q (.int (((((d.tas.map fun p => V.ref p.1) ++ [V.ref x]).length : Nat) : Int) - 1)) _
                rw [ev]
                refine kk ⟨hi, upd_at hH3.ls hH.n2, ?_, upd_at hH3.lp hH.n1.symm, ?_, ?_, hH.n1, hH.n2, hH.n3, ?_⟩ ⟨rfl, fun b o eb _ nb _ => upd_at (s3 b o eb) nb, ?_⟩
                rotate_right
                · rintro b (z | z | z | ⟨q, hq, z⟩)
                  · exact .inl (.inl z)
                  · exact .inl (.inr (.inl z))
                  · exact .inl (.inr (.inr (.inl z)))
                  · rcases List.mem_append.mp hq with y | y
                    · exact .inl (.inr (.inr (.inr ⟨q, y, z⟩)))
                    · rw [List.mem_singleton] at y
                      subst y
                      subst z
                      exact .inr np
                · show upd H3 d.lt _ d.lt = some (.lst ((d.tas ++ [(x, p)]).map fun p => V.ref p.1))
                  rw [upd_same, List.map_append]
                  rfl
                · show (d.tas ++ [(x, p)]).length = (h.tests ++ [_]).length
                  rw [List.length_append, List.length_append, hH.tn]
                  rfl
                · intro i u eu
                  have eu : (h.tests ++ [(⟨t, f, e, l⟩ : Rp08.Test)])[i]? = some u := eu
                  show ∃ q : Addr × Addr, (d.tas ++ [(x, p)])[i]? = some q ∧ _
                  by_cases ci : i < h.tests.length
                  · rw [List.getElem?_append_left ci] at eu
                    obtain ⟨q, eq, tq⟩ := hH3.ts i u eu
                    refine ⟨q, ?_, ?_, ?_⟩
                    · rw [List.getElem?_append_left (by rw [hH.tn]; exact ci)]
                      exact eq
                    · obtain ⟨dq, hq⟩ := tq.ins
                      exact ⟨dq, upd_at hq (ne_of hq hH3.lt (by intro z; cases z))⟩
                    · exact upd_at tq.nds (hH.n4 q (List.mem_of_getElem? eq)).1
                  · have ei : i = h.tests.length := by
                      have := at_lt eu
                      rw [List.length_append, List.length_singleton] at this
                      omega
                    rw [List.getElem?_append_right (by omega), ei, Nat.sub_self] at eu
                    cases eu
                    refine ⟨(x, p), ?_, ⟨dx, upd_at i3 nxl.symm⟩, upd_at p3 npl.symm⟩
                    rw [List.getElem?_append_right (by rw [hH.tn]; omega), ei, hH.tn, Nat.sub_self]
                    rfl
                · intro q hq
                  rcases List.mem_append.mp hq with z | z
                  · exact hH.n4 q z
                  · rw [List.mem_singleton] at z
                    subst z
                    exact ⟨npl.symm, npp.symm⟩
              · have c6' : fits 0 h.tests.length l = false := by simpa using c6
                refine if_true_of (by rw [c6']; rfl) ?_
                have kk := k H d
                rw [step_test_2 on c5 c6'] at kk
                exact kk hH (Kept.of_same (Same.refl H))
      · refine if_true_of (by rw [decide_eq_false (by omega)]; rfl) ?_
        refine if_true_of rfl ?_
        exact out (step_test_1 (.inr (.inl (by omega))))
    · refine if_false_of (decide_eq_false (by omega)) ?_
      refine ⟨_, rfl, ?_⟩
      refine if_true_of rfl ?_
      refine if_true_of rfl ?_
      exact out (step_test_1 (.inl (by omega)))
theorem scH_pass : FnScope ["self", "number", "test", "took"] ["self", "number"] (defScope s_House_pass_test) := ⟨rfl, rfl, rfl, by decide +kernel, rfl, by decide +kernel, by decide +kernel⟩
theorem okH_pass (T : Txt K mg A) : FnOk P w K mg base CX0 2 A.f_House_pass_test A.d_House_pass_test ["self", "number"] (spH_pass A) := by
  have GN : FnOk P w K mg base CX0 1 A.f_needs_met A.d_needs_met ["test", "done"] (spNM A) := okNM T
  have GS : FnOk P w K mg base CX0 1 A.f_House_time_with_setting A.d_House_time_with_setting ["self", "test", "up"] (spTS A) := okTS T
  refine T.F_House_pass_test.ok scH_pass (fun vs H Q E h => ?_) (fun cdv A1 outer s H vs Q E hr h => ?_)
  · obtain ⟨d, h, i, rfl, _⟩ := h
    rfl
  · obtain ⟨d, h, i, rfl, hH, g, k⟩ := h
    obtain ⟨t1, z1⟩ := T.z_NOT_THERE
    obtain ⟨t2, z2⟩ := T.z_PASSED_ALREADY
    obtain ⟨t3, z3⟩ := T.z_NEEDS_NOT_PASSED
    refine ⟨_, pss_cons (ps_if (pt_cmpR op_ge (pv 1) (pe_callB call_len_seq (by rfl) T.no_len PySem.boot_len (pa_cons (pe_fld (pv 0) rfl) pa_nil)) (nomark _)) (pss_one (ps_ret (pe_gI z1 rfl))) pss_nil)
      (pss_cons (ps_if (pt_cmpR op_in_seq (pv 1) (pe_fld (pv 0) rfl) (by rfl)) (pss_one (ps_ret (pe_gI z2 rfl))) pss_nil)
      (pss_cons (ps_set (i := 2) scH_pass.nd rfl (Or.inl rfl) (pe_ix ix_list (pe_fld (pv 0) rfl) (pv 1) (fun _ _ => rfl)))
      (pss_cons (ps_if (pt_not (pt_val (pe_call GN hr rfl T.g_needs_met T.k_needs_met T.b_needs_met .nil pass0 (pa_cons (pv 2) (pa_cons (pe_fld (pv 0) rfl) pa_nil))))) (pss_one (ps_ret (pe_gI z3 rfl))) pss_nil)
      (pss_cons (ps_set (i := 3) scH_pass.nd rfl (Or.inl rfl) (pe_meth (pv 0) T.cl_House T.m_House_time_with_setting GS hr T.b_House_time_with_setting .nil pass0 (pa_cons (pv 2) (pa_cons (pe_fld (pv 0) rfl) pa_nil))))
      (pss_cons (ps_expr (pe_bm PySem.F.plainAttrs_list PySem.F.slot_list_append PySem.F.type_list_append mt_append (pe_fld (pv 0) rfl) (pa_cons (pv 1) pa_nil)))
      (pss_cons (ps_fld (pv 0) (pe_fld (pv 2) rfl) rfl) (pss_one (ps_ret (pv 3))))))))), ?_⟩
    have ltl : (d.tas.map fun p => V.ref p.1).length = h.tests.length := by rw [List.length_map, hH.tn]
    refine ⟨_, rfl, _, rfl, d.a, A.c_House, d.dx, _, _, rfl, hH.ins, T.cl_House, T.n_House_tests, hF_tests _ _ _ _ _, d.lt, _, rfl, .inl (SqL.of hH.lt), _, _, rfl, rfl, _, rfl, ?_⟩
    rw [ltl, dle]
    by_cases c1 : h.tests.length ≤ i
    · refine if_true_of (decide_eq_true c1) ?_
      have kk := k H d
      rw [step_pass_2 c1] at kk
      exact kk hH (Kept.of_same (Same.refl H))
    · refine if_false_of (decide_eq_false c1) ?_
      have c1' : i < h.tests.length := by omega
      refine ⟨_, rfl, _, rfl, d.a, A.c_House, d.dx, _, _, rfl, hH.ins, T.cl_House, T.n_House_passed, hF_passed _ _ _ _ _, d.lp, _, rfl, .inl (SqL.of hH.lp), rfl, nL_flat _, _, rfl, ?_⟩
      show if inV (nI i) (nL h.passed) = true then _ else _
      rw [inV_nL]
      cases c2 : h.passed.contains i with
      | true =>
        refine if_true_of rfl ?_
        have kk := k H d
        rw [step_pass_4 c1' c2] at kk
        exact kk hH (Kept.of_same (Same.refl H))
      | false =>
        refine if_false_of rfl ?_
        obtain ⟨p, ep, tp⟩ := hH.test c1'
        have ei : (d.tas.map fun p => V.ref p.1)[i]? = some (V.ref p.1) := by rw [List.getElem?_map, ep]; rfl
        refine ⟨_, rfl, d.a, A.c_House, d.dx, _, _, rfl, hH.ins, T.cl_House, T.n_House_tests, hF_tests _ _ _ _ _, _, rfl, d.lt, _, _, _, rfl, rfl, SqL.of hH.lt, atI_nat ei, ?_⟩
        have gt := g.tT _ (at_mem c1')
        refine ⟨_, rfl, _, rfl, d.a, A.c_House, d.dx, _, _, rfl, hH.ins, T.cl_House, T.n_House_passed, hF_passed _ _ _ _ _, p.1, p.2, d.lp, h.at_ i, h.passed, rfl, tp, hH.lp, by omega, fun H1 s1 => ⟨_, rfl, ?_⟩⟩
        have hH1 := hH.same s1
        have tp1 := tp.same s1
        cases c3 : (h.at_ i).needs.all h.passed.contains with
        | false =>
          refine if_true_of rfl ?_
          have kk := k H1 d
          rw [step_pass_5 c1' c2 c3] at kk
          exact kk hH1 (Kept.of_same s1)
        | true =>
          refine if_false_of rfl ?_
          have nal : d.a ≠ d.lp := ne_of hH.ins hH.lp (by intro z; cases z)
          refine ⟨_, rfl, d.a, d.dx, _, rfl, hH1.ins, hF_no _ _ _ _ _ (by decide +kernel), _, rfl, _, rfl, d.a, A.c_House, d.dx, _, _, rfl, hH1.ins, T.cl_House, T.n_House_up, hF_up _ _ _ _ _, d, h, p.1, p.2, h.at_ i, h.up, rfl, hH1, tp1, gt.2.2.2.1, ?_⟩
          refine ⟨_, rfl, d.a, A.c_House, d.dx, _, _, rfl, hH1.ins, T.cl_House, T.n_House_passed, hF_passed _ _ _ _ _, .inl ⟨rfl, _, SqL.of hH1.lp⟩, _, rfl, d.lp, _, _, rfl, rfl, hH1.lp, room_of (by rw [nL_length]; have := g.pass6; have := g.t6; omega), ?_⟩
          have hp1 : ∃ dq, H1 p.1 = some (.ins A.c_Test dq (tF (h.at_ i) p.2)) := tp1.ins
          obtain ⟨dq, hq⟩ := hp1
          have nql : p.1 ≠ d.lp := ne_of hq hH1.lp (by intro z; cases z)
          have hi : upd H1 d.lp (.lst (nL h.passed ++ [nI i])) d.a = _ := upd_at hH1.ins nal
          have hq2 : upd H1 d.lp (.lst (nL h.passed ++ [nI i])) p.1 = _ := upd_at hq nql
          refine ⟨_, rfl, p.1, A.c_Test, dq, _, _, rfl, hq2, T.cl_Test, T.n_Test_setting, tF_setting _ _, _, rfl, d.a, A.c_House, d.dx, _, rfl, hi, T.cl_House, T.n_House_up, (by show 5 < 1000; decide), ?_⟩
          rw [put_up]
          refine ⟨_, rfl, ?_⟩
          have kk := k (upd (upd H1 d.lp (.lst (nL h.passed ++ [nI i]))) d.a (.ins A.c_House d.dx (hF d.ls d.lt d.lp h.whole ((h.at_ i).env : Nat)))) d
          rw [step_pass_0 c1' c2 c3] at kk
          have nla : ∀ {b : Addr} {xs : List V}, H1 b = some (.lst xs) → b ≠ d.a := fun z => ne_of z hH1.ins (by intro z; cases z)
          refine kk ⟨upd_same, upd_at (upd_at hH1.ls hH.n3) (nla hH1.ls), upd_at (upd_at hH1.lt hH.n1) (nla hH1.lt), ?_, hH.tn, ?_, hH.n1, hH.n2, hH.n3, hH.n4⟩ ⟨rfl, fun b o eb n1 _ n3 => upd_at (upd_at (s1 b o eb) n3) n1, fun _ z => .inl z⟩
          · show upd _ d.a _ d.lp = some (.lst (nL (h.passed ++ [i])))
            rw [nL_append]
            exact upd_at upd_same nal.symm
          · intro j u eu
            obtain ⟨q, eq, tq⟩ := hH1.ts j u eu
            obtain ⟨dy, hy⟩ := tq.ins
            have ny : q.1 ≠ d.lp := ne_of hy hH1.lp (by intro z; cases z)
            have nya : q.1 ≠ d.a := fun z => by
              rw [z, hH1.ins] at hy
              have e2 := Option.some.inj hy
              injection e2 with e3 e4 e5
              have e6 : (hF d.ls d.lt d.lp h.whole (upV h.up)).length = (tF u q.2).length := by rw [e5]
              exact absurd e6 (by show ¬ (5 : Nat) = 4; decide)
            exact ⟨q, eq, ⟨dy, upd_at (upd_at hy ny) nya⟩, upd_at (upd_at tq.nds (hH.n4 q (List.mem_of_getElem? eq)).2) (nla tq.nds)⟩
end
end Tf
set_option Elab.async false
set_option maxRecDepth 100000
set_option maxHeartbeats 2000000
namespace Tf
open PySem PySem.Spec PyProof.Rows L2
/-! ### Behind some tests -/
theorem after_snoc (h : Rp08.House) (o : List Nat) (i : Nat) : after h (o ++ [i]) = (after h o).behind i := by
  unfold after
  rw [List.foldl_append]
  rfl
theorem after_tests (h : Rp08.House) : ∀ o, (after h o).tests = h.tests := by
  intro o
  induction o generalizing h with
  | nil => rfl
  | cons i r ih => exact ih (h.behind i)
theorem after_setups (h : Rp08.House) : ∀ o, (after h o).setups = h.setups := by
  intro o
  induction o generalizing h with
  | nil => rfl
  | cons i r ih => exact ih (h.behind i)
theorem after_whole (h : Rp08.House) : ∀ o, (after h o).whole = h.whole := by
  intro o
  induction o generalizing h with
  | nil => rfl
  | cons i r ih => exact ih (h.behind i)
theorem after_passed (h : Rp08.House) : ∀ o, (after h o).passed = h.passed ++ o := by
  intro o
  induction o generalizing h with
  | nil => exact (List.append_nil _).symm
  | cons i r ih =>
    refine (ih (h.behind i)).trans ?_
    show (h.passed ++ [i]) ++ r = _
    rw [List.append_assoc]
    rfl
theorem after_at (h : Rp08.House) (o : List Nat) (i : Nat) : (after h o).at_ i = h.at_ i := by
  unfold Rp08.House.at_
  rw [after_tests]
theorem after_takes (h : Rp08.House) (o : List Nat) (u : Option Nat) (i : Nat) : (after h o).takes u i = h.takes u i := by
  unfold Rp08.House.takes
  rw [after_at, after_setups]
/-- which may be next, told by what has passed -/
def mayQ (h : Rp08.House) (done : List Nat) (i : Nat) : Bool := !done.contains i && (h.at_ i).needs.all done.contains
theorem open_filter (h : Rp08.House) : h.open_ = (List.range h.tests.length).filter (mayQ h h.passed) := by
  unfold Rp08.House.open_ Rp08.House.rest
  rw [List.filter_filter]
  congr 1
  funext i
  unfold Rp08.House.may mayQ
  cases h.passed.contains i <;> simp
theorem after_open (h : Rp08.House) (o : List Nat) : (after h o).open_ = (List.range h.tests.length).filter (mayQ h (h.passed ++ o)) := by
  rw [open_filter, after_tests, after_passed]
  congr 1
  funext i
  unfold mayQ
  rw [after_at]
theorem range_more (q : Nat → Bool) (n : Nat) : (List.range (n + 1)).filter q = (List.range n).filter q ++ (if q n = true then [n] else []) := by
  rw [List.range_succ, List.filter_append]
  congr 1
  simp only [List.filter_cons, List.filter_nil]
/-! ### A run -/
def uF (lo : Addr) (u : Int) (l s a c : Nat) : List (Str × V) := [("order", .ref lo), ("up", .int u), ("length", nI l), ("spent", nI s), ("alive", nI a), ("scale", nI c)]
section
variable (lo : Addr) (u : Int) (l s a c : Nat)
theorem uF_order : (uF lo u l s a c).lookup ("order" : Str) = some (.ref lo) := lk_here
theorem uF_up : (uF lo u l s a c).lookup ("up" : Str) = some (.int u) := (lk_past (by decide +kernel)).trans lk_here
theorem uF_length : (uF lo u l s a c).lookup ("length" : Str) = some (nI l) := (lk_past (by decide +kernel)).trans ((lk_past (by decide +kernel)).trans lk_here)
theorem uF_spent : (uF lo u l s a c).lookup ("spent" : Str) = some (nI s) := (lk_past (by decide +kernel)).trans ((lk_past (by decide +kernel)).trans ((lk_past (by decide +kernel)).trans lk_here))
theorem uF_alive : (uF lo u l s a c).lookup ("alive" : Str) = some (nI a) := (lk_past (by decide +kernel)).trans ((lk_past (by decide +kernel)).trans ((lk_past (by decide +kernel)).trans ((lk_past (by decide +kernel)).trans lk_here)))
theorem uF_scale : (uF lo u l s a c).lookup ("scale" : Str) = some (nI c) := (lk_past (by decide +kernel)).trans ((lk_past (by decide +kernel)).trans ((lk_past (by decide +kernel)).trans ((lk_past (by decide +kernel)).trans ((lk_past (by decide +kernel)).trans lk_here))))
theorem uF_new : putF "scale" (nI c) (putF "alive" (nI a) (putF "spent" (nI s) (putF "length" (nI l) (putF "up" (.int u) (putF "order" (.ref lo) []))))) = uF lo u l s a c := by
  have e1 : putF "up" (.int u) (putF "order" (.ref lo) []) = ([("order", .ref lo), ("up", .int u)] : List (Str × V)) := (put_past (by decide +kernel)).trans rfl
  rw [e1]
  have e2 : putF "length" (nI l) ([("order", .ref lo), ("up", .int u)] : List (Str × V)) = ([("order", .ref lo), ("up", .int u), ("length", nI l)] : List (Str × V)) := (put_past (by decide +kernel)).trans (congrArg _ ((put_past (by decide +kernel)).trans rfl))
  rw [e2]
  have e3 : putF "spent" (nI s) ([("order", .ref lo), ("up", .int u), ("length", nI l)] : List (Str × V)) = ([("order", .ref lo), ("up", .int u), ("length", nI l), ("spent", nI s)] : List (Str × V)) :=
    (put_past (by decide +kernel)).trans (congrArg _ ((put_past (by decide +kernel)).trans (congrArg _ ((put_past (by decide +kernel)).trans rfl))))
  rw [e3]
  have e4 : putF "alive" (nI a) ([("order", .ref lo), ("up", .int u), ("length", nI l), ("spent", nI s)] : List (Str × V)) = ([("order", .ref lo), ("up", .int u), ("length", nI l), ("spent", nI s), ("alive", nI a)] : List (Str × V)) :=
    (put_past (by decide +kernel)).trans (congrArg _ ((put_past (by decide +kernel)).trans (congrArg _ ((put_past (by decide +kernel)).trans (congrArg _ ((put_past (by decide +kernel)).trans rfl))))))
  rw [e4]
  exact (put_past (by decide +kernel)).trans (congrArg _ ((put_past (by decide +kernel)).trans (congrArg _ ((put_past (by decide +kernel)).trans (congrArg _ ((put_past (by decide +kernel)).trans (congrArg _ ((put_past (by decide +kernel)).trans rfl))))))))
end
/-- **the run of the order o from the house h lies at a** -/
def RunAt (A : Ad) (H : Hp) (a : Addr) (h : Rp08.House) (o : List Nat) : Prop :=
  ∃ dx lo, H a = some (.ins A.c_Run dx (uF lo (upV (after h o).up) (h.long o) (h.price o) (alive h o) (h.whole ^ o.length))) ∧ H lo = some (.lst (nL o))
theorem RunAt.same {A : Ad} {H H' : Hp} {a : Addr} {h : Rp08.House} {o : List Nat} (x : RunAt A H a h o) (s : Same H H') : RunAt A H' a h o := let ⟨dx, lo, h1, h2⟩ := x; ⟨dx, lo, s _ _ h1, s _ _ h2⟩
/-- and of its list N is known -/
def RunOn (A : Ad) (H : Hp) (N : Addr → Prop) (a : Addr) (h : Rp08.House) (o : List Nat) : Prop :=
  ∃ dx lo, H a = some (.ins A.c_Run dx (uF lo (upV (after h o).up) (h.long o) (h.price o) (alive h o) (h.whole ^ o.length))) ∧ H lo = some (.lst (nL o)) ∧ N lo
theorem RunOn.at {A : Ad} {H : Hp} {N : Addr → Prop} {a : Addr} {h : Rp08.House} {o : List Nat} (x : RunOn A H N a h o) : RunAt A H a h o := let ⟨dx, lo, h1, h2, _⟩ := x; ⟨dx, lo, h1, h2⟩
theorem RunOn.imp {A : Ad} {H : Hp} {N M : Addr → Prop} {a : Addr} {h : Rp08.House} {o : List Nat} (x : RunOn A H N a h o) (i : ∀ b, N b → M b) : RunOn A H M a h o := let ⟨dx, lo, h1, h2, h3⟩ := x; ⟨dx, lo, h1, h2, i _ h3⟩
theorem RunOn.same {A : Ad} {H H' : Hp} {N : Addr → Prop} {a : Addr} {h : Rp08.House} {o : List Nat} (x : RunOn A H N a h o) (s : Same H H') : RunOn A H' N a h o := let ⟨dx, lo, h1, h2, h3⟩ := x; ⟨dx, lo, s _ _ h1, s _ _ h2, h3⟩
theorem RunOn.off {A : Ad} {H : Hp} {N : Addr → Prop} {a l : Addr} {h : Rp08.House} {o : List Nat} {xs : List V} {u : HO} (x : RunOn A H N a h o) (n : ∀ b, N b → b ≠ l) (hl : H l = some (.lst xs)) : RunOn A (upd H l u) N a h o := by
  obtain ⟨dx, lo, h1, h2, h3⟩ := x
  exact ⟨dx, lo, upd_at h1 (ne_of h1 hl (by intro z; cases z)), upd_at h2 (n lo h3), h3⟩
def spU_init (A : Ad) : Sp := fun vs H Q _ => ∃ (p dx lo : Addr) (u : Int) (l s a c : Nat), vs = [.ref p, .ref lo, .int u, nI l, nI s, nI a, nI c] ∧ H p = some (.ins A.c_Run dx []) ∧
  ∀ H' : Hp, H' p = some (.ins A.c_Run dx (uF lo u l s a c)) → But p H H' → Q .non H'
def spU_empty (A : Ad) : Sp := fun vs H Q _ => ∃ (d : HD) (h : Rp08.House), vs = [.ref d.a] ∧ HouseAt A H d h ∧ ∀ (H' : Hp) (p : Addr), Same H H' → RunOn A H' (fun b => H b = none) p h [] → Q (.ref p) H'
def spU_longer (A : Ad) : Sp := fun vs H Q _ => ∃ (d : HD) (h : Rp08.House) (a : Addr) (o : List Nat) (i : Nat), vs = [.ref d.a, .ref a, nI i] ∧ HouseAt A H d h ∧ Good h ∧ RunAt A H a h o ∧ i < h.tests.length ∧ o.length ≤ 6 ∧
  ∀ (H' : Hp) (p : Addr), Same H H' → RunOn A H' (fun b => H b = none) p h (o ++ [i]) → Q (.ref p) H'
def spU_next (A : Ad) : Sp := fun vs H Q _ => ∃ (d : HD) (h : Rp08.House) (a : Addr) (o : List Nat), vs = [.ref d.a, .ref a] ∧ HouseAt A H d h ∧ Good h ∧ RunAt A H a h o ∧ o.length ≤ 6 ∧
  ∀ (H' : Hp) (p : Addr), Same H H' → H p = none → H' p = some (.lst (nL (after h o).open_)) → Q (.ref p) H'
def spU_avg (A : Ad) : Sp := fun vs H Q _ => ∃ (h : Rp08.House) (a : Addr) (o : List Nat), vs = [.ref a] ∧ Good h ∧ RunAt A H a h o ∧ o.length ≤ 6 ∧ Q (nI (h.shown o)) H
def spU_chance (A : Ad) : Sp := fun vs H Q _ => ∃ (h : Rp08.House) (a : Addr) (o : List Nat), vs = [.ref a] ∧ Good h ∧ RunAt A H a h o ∧ o.length ≤ 6 ∧ Q (nI (Rp08.MILLION * (h.whole ^ o.length - alive h o) / h.whole ^ o.length)) H
theorem Good.scale {h : Rp08.House} (g : Good h) {n : Nat} (hn : n ≤ 6) : 0 < h.whole ^ n ∧ h.whole ^ n < 2 ^ 64 := by
  refine ⟨Nat.pow_pos (by have := g.w2; omega), ?_⟩
  refine Nat.lt_of_le_of_lt (Nat.pow_le_pow_left g.w100 n) (Nat.lt_of_le_of_lt (Nat.pow_le_pow_right (by decide) hn) (by decide))
section
variable {P : Program} {w : World} {K : PySem.W.Frag} {mg : Str → Option Value} {base : Heap} {A : Ad}
theorem scU_init : FnScope ["self", "order", "up", "length", "spent", "alive", "scale"] ["self", "order", "up", "length", "spent", "alive", "scale"] (defScope s_Run_init) := ⟨rfl, rfl, rfl, by decide +kernel, rfl, by decide +kernel, by decide +kernel⟩
theorem okU_init (T : Txt K mg A) : FnOk P w K mg base CX0 1 A.f_Run_init A.d_Run_init ["self", "order", "up", "length", "spent", "alive", "scale"] (spU_init A) := by
  refine T.F_Run_init.ok scU_init (fun vs H Q E h => ?_) (fun cdv A1 outer s H vs Q E hr h => ?_)
  · obtain ⟨p, dx, lo, u, l, s, a, c, rfl, _⟩ := h
    rfl
  · obtain ⟨p, dx, lo, u, l, s, a, c, rfl, hp, k⟩ := h
    refine ⟨_, pss_cons (ps_fld (pv 0) (pv 1) rfl) (pss_cons (ps_fld (pv 0) (pv 2) rfl) (pss_cons (ps_fld (pv 0) (pv 3) rfl) (pss_cons (ps_fld (pv 0) (pv 4) rfl) (pss_cons (ps_fld (pv 0) (pv 5) rfl) (pss_one (ps_fld (pv 0) (pv 6) rfl)))))), ?_⟩
    refine ⟨_, rfl, _, rfl, p, A.c_Run, dx, [], rfl, hp, T.cl_Run, T.n_Run_order, (by show 0 < 1000; decide), ?_⟩
    refine ⟨_, rfl, _, rfl, p, A.c_Run, dx, _, rfl, upd_same, T.cl_Run, T.n_Run_up, few (by show 0 < 999; decide), ?_⟩
    refine ⟨_, rfl, _, rfl, p, A.c_Run, dx, _, rfl, upd_same, T.cl_Run, T.n_Run_length, few (few (by show 0 < 998; decide)), ?_⟩
    refine ⟨_, rfl, _, rfl, p, A.c_Run, dx, _, rfl, upd_same, T.cl_Run, T.n_Run_spent, few (few (few (by show 0 < 997; decide))), ?_⟩
    refine ⟨_, rfl, _, rfl, p, A.c_Run, dx, _, rfl, upd_same, T.cl_Run, T.n_Run_alive, few (few (few (few (by show 0 < 996; decide)))), ?_⟩
    refine ⟨_, rfl, _, rfl, p, A.c_Run, dx, _, rfl, upd_same, T.cl_Run, T.n_Run_scale, few (few (few (few (few (by show 0 < 995; decide))))), ?_⟩
    exact k _ (Eq.trans upd_same (congrArg (fun q => some (HO.ins A.c_Run dx q)) (uF_new lo u l s a c))) (But.trans (But.trans But.upd But.upd) (But.trans But.upd (But.trans But.upd (But.trans But.upd But.upd))))
theorem scU_empty : FnScope ["house"] ["house"] (defScope s_empty_run) := ⟨rfl, rfl, rfl, by decide +kernel, rfl, by decide +kernel, by decide +kernel⟩
theorem okU_empty (T : Txt K mg A) : FnOk P w K mg base CX0 3 A.f_empty_run A.d_empty_run ["house"] (spU_empty A) := by
  have GI : FnOk P w K mg base CX0 1 A.f_Run_init A.d_Run_init ["self", "order", "up", "length", "spent", "alive", "scale"] (spU_init A) := okU_init T
  refine T.F_empty_run.ok scU_empty (fun vs H Q E h => ?_) (fun cdv A1 outer s H vs Q E hr h => ?_)
  · obtain ⟨d, h, rfl, _⟩ := h
    rfl
  · obtain ⟨d, h, rfl, hH, k⟩ := h
    refine ⟨_, pss_one (ps_ret (pe_make T.mk_Run GI hr rfl T.g_Run T.b_Run_init .nil pass0 (pa_cons (pe_lst pa_nil) (pa_cons (pe_fld (pv 0) rfl) (pa_cons pe_int (pa_cons pe_int (pa_cons pe_int (pa_cons pe_int pa_nil)))))))), ?_⟩
    refine ⟨Nat.zero_le _, fun p np => ?_⟩
    refine ⟨_, rfl, d.a, A.c_House, d.dx, _, _, rfl, upd_at hH.ins (ne_of_none hH.ins np), T.cl_House, T.n_House_up, hF_up _ _ _ _ _, ?_⟩
    intro x dx nx nd ne
    refine ⟨x, dx, p, upV h.up, 0, 0, 1, 1, rfl, upd_same, fun H3 i3 b3 => ⟨rfl, ?_⟩⟩
    have s13 := Same.made nx nd b3
    exact k H3 x (Same.trans (same_new np) s13) ⟨dx, p, i3, s13 _ _ upd_same, np⟩
theorem scU_longer : FnScope ["house", "run", "number", "test", "time", "spent", "alive"] ["house", "run", "number"] (defScope s_longer_run) := ⟨rfl, rfl, rfl, by decide +kernel, rfl, by decide +kernel, by decide +kernel⟩
theorem okU_longer (T : Txt K mg A) : FnOk P w K mg base CX0 3 A.f_longer_run A.d_longer_run ["house", "run", "number"] (spU_longer A) := by
  have GI : FnOk P w K mg base CX0 1 A.f_Run_init A.d_Run_init ["self", "order", "up", "length", "spent", "alive", "scale"] (spU_init A) := okU_init T
  have GS : FnOk P w K mg base CX0 1 A.f_House_time_with_setting A.d_House_time_with_setting ["self", "test", "up"] (spTS A) := okTS T
  refine T.F_longer_run.ok scU_longer (fun vs H Q E h => ?_) (fun cdv A1 outer s H vs Q E hr h => ?_)
  · obtain ⟨d, h, a, o, i, rfl, _⟩ := h
    rfl
  · obtain ⟨d, h, a, o, i, rfl, hH, g, ⟨dr, lo, h1, h2⟩, hi, ho, k⟩ := h
    have hr1 : Room 1 _ := hr.mono (by decide)
    refine ⟨_, pss_cons (ps_set (i := 3) scU_longer.nd rfl (Or.inl rfl) (pe_ix ix_list (pe_fld (pv 0) rfl) (pv 2) (fun _ _ => rfl)))
      (pss_cons (ps_set (i := 4) scU_longer.nd rfl (Or.inl rfl) (pe_meth (pv 0) T.cl_House T.m_House_time_with_setting GS hr1 T.b_House_time_with_setting .nil pass0 (pa_cons (pv 3) (pa_cons (pe_fld (pv 1) rfl) pa_nil))))
      (pss_cons (ps_set (i := 5) scU_longer.nd rfl (Or.inl rfl) (pe_op op_mul (pe_op op_add (pe_fld (pv 1) rfl) (pe_op op_mul (pv 4) (pe_fld (pv 1) rfl))) (pe_fld (pv 0) rfl)))
      (pss_cons (ps_set (i := 6) scU_longer.nd rfl (Or.inl rfl) (pe_op op_mul (pe_fld (pv 1) rfl) (pe_op op_sub (pe_fld (pv 0) rfl) (pe_fld (pv 3) rfl))))
      (pss_one (ps_ret (pe_make T.mk_Run GI hr rfl T.g_Run T.b_Run_init .nil pass0 (pa_cons (pe_op op_cat (pe_fld (pv 1) rfl) (pe_lst (pa_cons (pv 2) pa_nil))) (pa_cons (pe_fld (pv 3) rfl) (pa_cons (pe_op op_add (pe_fld (pv 1) rfl) (pv 4)) (pa_cons (pv 5) (pa_cons (pv 6) (pa_cons (pe_op op_mul (pe_fld (pv 1) rfl) (pe_fld (pv 0) rfl)) pa_nil))))))))))))
      , ?_⟩
    obtain ⟨p, ep, tp⟩ := hH.test hi
    obtain ⟨dt, ht⟩ := tp.ins
    have ei : (d.tas.map fun p => V.ref p.1)[i]? = some (V.ref p.1) := by rw [List.getElem?_map, ep]; rfl
    have gt := g.tT _ (at_mem hi)
    refine ⟨_, rfl, d.a, A.c_House, d.dx, _, _, rfl, hH.ins, T.cl_House, T.n_House_tests, hF_tests _ _ _ _ _, _, rfl, d.lt, _, _, _, rfl, rfl, SqL.of hH.lt, atI_nat ei, ?_⟩
    refine ⟨_, rfl, d.a, d.dx, _, rfl, hH.ins, hF_no _ _ _ _ _ (by decide +kernel), _, rfl, _, rfl, a, A.c_Run, dr, _, _, rfl, h1, T.cl_Run, T.n_Run_up, uF_up _ _ _ _ _ _, d, h, p.1, p.2, h.at_ i, (after h o).up, rfl, hH, tp, gt.2.2.2.1, ?_⟩
    have tk : (h.at_ i).time + (if (after h o).up = some (h.at_ i).env then 0 else h.setups.getD (h.at_ i).env 0) = (after h o).takes (after h o).up i := by
      rw [after_takes]
      rfl
    rw [tk]
    have tb : (after h o).takes (after h o).up i ≤ 20000 := by
      rw [after_takes]
      exact g.takes_le hi _
    have hw := g.w100
    refine ⟨_, rfl, a, A.c_Run, dr, _, _, rfl, h1, T.cl_Run, T.n_Run_spent, uF_spent _ _ _ _ _ _, _, rfl, _, rfl, a, A.c_Run, dr, _, _, rfl, h1, T.cl_Run, T.n_Run_alive, uF_alive _ _ _ _ _ _, _, _, rfl, rfl, .inl ⟨by omega, by omega⟩,
      _, _, rfl, rfl, _, rfl, d.a, A.c_House, d.dx, _, _, rfl, hH.ins, T.cl_House, T.n_House_whole, hF_whole _ _ _ _ _, _, _, rfl, rfl, .inr ⟨by omega, by omega⟩, ?_⟩
    refine ⟨_, rfl, a, A.c_Run, dr, _, _, rfl, h1, T.cl_Run, T.n_Run_alive, uF_alive _ _ _ _ _ _, _, rfl, d.a, A.c_House, d.dx, _, _, rfl, hH.ins, T.cl_House, T.n_House_whole, hF_whole _ _ _ _ _, _, rfl, p.1, A.c_Test, dt, _, _, rfl, ht, T.cl_Test, T.n_Test_failures, tF_failures _ _, _, _, rfl, rfl, _, _, rfl, rfl, .inr ⟨by omega, by omega⟩, ?_⟩
    refine ⟨_, rfl, a, A.c_Run, dr, _, _, rfl, h1, T.cl_Run, T.n_Run_order, uF_order _ _ _ _ _ _, _, rfl, (by show 1 ≤ sizeLine; decide), fun p1 np1 => ?_⟩
    refine ⟨lo, p1, _, _, rfl, rfl, upd_at h2 (ne_of_none h2 np1), upd_same, Nat.le_of_lt (room_of (by rw [nL_length]; show o.length + 1 ≤ 1000000; omega)), fun p2 np2 => ?_⟩
    have s2 : Same H (upd (upd H p1 (.lst [nI i])) p2 (.lst (nL o ++ [nI i]))) := Same.trans (same_new np1) (same_new np2)
    refine ⟨_, rfl, p.1, A.c_Test, dt, _, _, rfl, s2 _ _ ht, T.cl_Test, T.n_Test_setting, tF_setting _ _, _, rfl, a, A.c_Run, dr, _, _, rfl, s2 _ _ h1, T.cl_Run, T.n_Run_length, uF_length _ _ _ _ _ _, _, rfl, _, _, rfl, rfl, _, rfl, _, rfl, _, rfl, a, A.c_Run, dr, _, _, rfl, s2 _ _ h1, T.cl_Run, T.n_Run_scale, uF_scale _ _ _ _ _ _, _, rfl, d.a, A.c_House, d.dx, _, _, rfl, s2 _ _ hH.ins, T.cl_House, T.n_House_whole, hF_whole _ _ _ _ _, _, _, rfl, rfl, .inr ⟨by omega, by omega⟩, ?_⟩
    intro x dx nx nd ne
    have e1 : (((h.price o : Nat) : Int) + (((after h o).takes (after h o).up i : Nat) : Int) * ((alive h o : Nat) : Int)) * ((h.whole : Nat) : Int) = ((h.price (o ++ [i]) : Nat) : Int) := by
      rw [price_snoc]
      push_cast
      rfl
    have e2 : ((alive h o : Nat) : Int) * (((h.whole : Nat) : Int) - (((h.at_ i).fails : Nat) : Int)) = ((alive h (o ++ [i]) : Nat) : Int) := by
      rw [alive_snoc]
      have : ((h.whole - (h.at_ i).fails : Nat) : Int) = ((h.whole : Nat) : Int) - (((h.at_ i).fails : Nat) : Int) := by omega
      rw [← this]
      push_cast
      rfl
    have e3 : ((h.whole ^ o.length : Nat) : Int) * ((h.whole : Nat) : Int) = ((h.whole ^ (o ++ [i]).length : Nat) : Int) := by
      rw [List.length_append, List.length_singleton, Nat.pow_succ]
      push_cast
      rfl
    have e4 : ((h.long o : Nat) : Int) + (((after h o).takes (after h o).up i : Nat) : Int) = ((h.long (o ++ [i]) : Nat) : Int) := by
      rw [long_snoc]
      push_cast
      rfl
    dsimp only
    rw [e1, e2, e3, e4]
    refine ⟨x, dx, p2, ((h.at_ i).env : Nat), h.long (o ++ [i]), h.price (o ++ [i]), alive h (o ++ [i]), h.whole ^ (o ++ [i]).length, rfl, upd_same, fun H3 i3 b3 => ⟨rfl, ?_⟩⟩
    have s13 := Same.made nx nd b3
    refine k H3 x (Same.trans s2 s13) ⟨dx, p2, ?_, ?_, (same_new np1).free np2⟩
    · rw [after_snoc]
      show H3 x = some (.ins A.c_Run dx (uF p2 (((after h o).at_ i).env : Nat) _ _ _ _))
      rw [after_at]
      exact i3
    · rw [nL_append]
      exact s13 _ _ upd_same
theorem scU_avg : FnScope ["run"] ["run"] (defScope s_average_in_millionths) := ⟨rfl, rfl, rfl, by decide +kernel, rfl, by decide +kernel, by decide +kernel⟩
theorem okU_avg (T : Txt K mg A) : FnOk P w K mg base CX0 1 A.f_average_in_millionths A.d_average_in_millionths ["run"] (spU_avg A) := by
  refine T.F_average_in_millionths.ok scU_avg (fun vs H Q E h => ?_) (fun cdv A1 outer s H vs Q E hr h => ?_)
  · obtain ⟨h, a, o, rfl, _⟩ := h
    rfl
  · obtain ⟨h, a, o, rfl, g, ⟨dr, lo, h1, h2⟩, ho, k⟩ := h
    obtain ⟨t1, z1⟩ := T.z_MILLION
    refine ⟨_, pss_one (ps_ret (pe_op op_fdivW (pe_op op_mul (pe_fld (pv 0) rfl) (pe_gI z1 rfl)) (pe_fld (pv 0) rfl))), ?_⟩
    have sc := g.scale ho
    refine ⟨_, rfl, a, A.c_Run, dr, _, _, rfl, h1, T.cl_Run, T.n_Run_spent, uF_spent _ _ _ _ _ _, _, _, rfl, rfl, .inr ⟨by decide, by decide⟩, _, rfl, a, A.c_Run, dr, _, _, rfl, h1, T.cl_Run, T.n_Run_scale, uF_scale _ _ _ _ _ _, _, _, rfl, rfl, wide_div (b := 64) (by omega) (by rw [Int.natAbs_natCast]; exact sc.2) (by decide) (by decide), ?_⟩
    have e : ((h.price o : Nat) : Int) * 1000000 / ((h.whole ^ o.length : Nat) : Int) = ((h.shown o : Nat) : Int) := by
      unfold Rp08.House.shown Rp08.MILLION
      rw [Nat.mul_comm 1000000, Int.natCast_ediv, Int.natCast_mul]
      rfl
    show Q (.int (((h.price o : Nat) : Int) * 1000000 / ((h.whole ^ o.length : Nat) : Int))) H
    rw [e]
    exact k
theorem scU_chance : FnScope ["run"] ["run"] (defScope s_chance_in_millionths) := ⟨rfl, rfl, rfl, by decide +kernel, rfl, by decide +kernel, by decide +kernel⟩
theorem okU_chance (T : Txt K mg A) : FnOk P w K mg base CX0 1 A.f_chance_in_millionths A.d_chance_in_millionths ["run"] (spU_chance A) := by
  refine T.F_chance_in_millionths.ok scU_chance (fun vs H Q E h => ?_) (fun cdv A1 outer s H vs Q E hr h => ?_)
  · obtain ⟨h, a, o, rfl, _⟩ := h
    rfl
  · obtain ⟨h, a, o, rfl, g, ⟨dr, lo, h1, h2⟩, ho, k⟩ := h
    obtain ⟨t1, z1⟩ := T.z_MILLION
    refine ⟨_, pss_one (ps_ret (pe_op op_fdivW (pe_op op_mul (pe_op op_sub (pe_fld (pv 0) rfl) (pe_fld (pv 0) rfl)) (pe_gI z1 rfl)) (pe_fld (pv 0) rfl))), ?_⟩
    have sc := g.scale ho
    refine ⟨_, rfl, a, A.c_Run, dr, _, _, rfl, h1, T.cl_Run, T.n_Run_scale, uF_scale _ _ _ _ _ _, _, rfl, a, A.c_Run, dr, _, _, rfl, h1, T.cl_Run, T.n_Run_alive, uF_alive _ _ _ _ _ _, _, _, rfl, rfl, _, _, rfl, rfl, .inr ⟨by decide, by decide⟩, _, rfl, a, A.c_Run, dr, _, _, rfl, h1, T.cl_Run, T.n_Run_scale, uF_scale _ _ _ _ _ _, _, _, rfl, rfl, wide_div (b := 64) (by omega) (by rw [Int.natAbs_natCast]; exact sc.2) (by decide) (by decide), ?_⟩
    have e : (((h.whole ^ o.length : Nat) : Int) - ((alive h o : Nat) : Int)) * 1000000 / ((h.whole ^ o.length : Nat) : Int) = ((Rp08.MILLION * (h.whole ^ o.length - alive h o) / h.whole ^ o.length : Nat) : Int) := by
      have e0 : ((h.whole ^ o.length : Nat) : Int) - ((alive h o : Nat) : Int) = ((h.whole ^ o.length - alive h o : Nat) : Int) := by
        have := alive_le h o
        omega
      rw [e0]
      unfold Rp08.MILLION
      rw [Nat.mul_comm 1000000, Int.natCast_ediv, Int.natCast_mul]
      rfl
    show Q (.int ((((h.whole ^ o.length : Nat) : Int) - ((alive h o : Nat) : Int)) * 1000000 / ((h.whole ^ o.length : Nat) : Int))) H
    rw [e]
    exact k
end
end Tf
set_option Elab.async false
set_option maxRecDepth 100000
set_option maxHeartbeats 2000000
namespace Tf
open PySem PySem.Spec PyProof.Rows L2
section
variable {P : Program} {w : World} {K : PySem.W.Frag} {mg : Str → Option Value} {base : Heap} {A : Ad}
theorem scU_next : FnScope ["house", "run", "done", "number", "test"] ["house", "run"] (defScope s_next_tests) := ⟨rfl, rfl, rfl, by decide +kernel, rfl, by decide +kernel, by decide +kernel⟩
theorem okU_next (T : Txt K mg A) : FnOk P w K mg base CX0 2 A.f_next_tests A.d_next_tests ["house", "run"] (spU_next A) := by
  have GN : FnOk P w K mg base CX0 1 A.f_needs_met A.d_needs_met ["test", "done"] (spNM A) := okNM T
  refine T.F_next_tests.ok scU_next (fun vs H Q E h => ?_) (fun cdv A1 outer s H vs Q E hr h => ?_)
  · obtain ⟨d, h, a, o, rfl, _⟩ := h
    rfl
  · obtain ⟨d, h, a, o, rfl, hH, g, ⟨dr, lo, h1, h2⟩, ho, k⟩ := h
    refine ⟨_, pss_cons (ps_set (i := 2) scU_next.nd rfl (Or.inr rfl) (pe_op op_cat (pe_fld (pv 0) rfl) (pe_fld (pv 1) rfl)))
      (pss_one (ps_ret (pe_lc (own := [("number", 3), ("test", 4)]) (g := gTup K 2 (gCons (gName 3) (gCons (gName 4) gNil))) rfl scU_next.nd (pi_enum (by rfl) T.no_enumerate (pa_cons (pe_fld (pv 0) rfl) pa_nil))
          (blkOk_by (N := ["house", "run", "done", "number", "test"]) (sc := defScope s_next_tests) (by decide +kernel))
          (fun _ _ _ _ _ => pg_tup rfl (pgs_cons (pg_name (i := 3) scU_next.nd rfl (Or.inl rfl)) (pgs_cons (pg_name (i := 4) scU_next.nd rfl (Or.inl rfl)) pgs_nil)))
          (fun _ _ _ _ _ => pts_one (PW.pt (pw_and (pt_cmpR (r := rIn K true) op_notIn_seq (pv 3) (pv 2) (by rfl)) (pw_and1 (pt_val (pe_call GN hr rfl T.g_needs_met T.k_needs_met T.b_needs_met .nil pass0 (pa_cons (pv 4) (pa_cons (pv 2) pa_nil))))))))
          (fun _ _ _ _ _ => pv 3)))), ?_⟩
    have lp6 : h.passed.length ≤ 6 := Nat.le_trans g.pass6 g.t6
    refine ⟨_, rfl, d.a, A.c_House, d.dx, _, _, rfl, hH.ins, T.cl_House, T.n_House_passed, hF_passed _ _ _ _ _, _, rfl, a, A.c_Run, dr, _, _, rfl, h1, T.cl_Run, T.n_Run_order, uF_order _ _ _ _ _ _, d.lp, lo, _, _, rfl, rfl, hH.lp, h2,
      Nat.le_of_lt (room_of (by rw [nL_length, nL_length]; omega)), fun p np => ?_⟩
    have e0 : nL h.passed ++ nL o = nL (h.passed ++ o) := (nL_append _ _).symm
    rw [e0]
    have s1 : Same H (upd H p (.lst (nL (h.passed ++ o)))) := same_new np
    refine ⟨_, rfl, d.a, A.c_House, d.dx, _, _, rfl, s1 _ _ hH.ins, T.cl_House, T.n_House_tests, hF_tests _ _ _ _ _, d.lt, _, rfl, SqL.of (s1 _ _ hH.lt), fun D nD => ?_⟩
    have hp1 : upd H p (.lst (nL (h.passed ++ o))) p = some (.lst (nL (h.passed ++ o))) := upd_same
    revert s1 nD hp1
    generalize upd H p (.lst (nL (h.passed ++ o))) = H1
    intro s1 nD hp1
    have hH1 := hH.same s1
    refine lc_it walk_enum (fun i H' => Same H1 H' ∧ H' D = some (.lst (nL ((List.range i).filter (mayQ h (h.passed ++ o)))))) ⟨same_new nD, upd_same⟩ (fun i H' _ ⟨s2, _⟩ => SqL.of (s2 _ _ hH1.lt)) ?_ ?_
    · rintro i x H2 H3 hi ⟨s2, hD⟩ ⟨T', x1, y1, rfl, nT, rfl, e1, e2⟩
      rw [List.length_map, hH.tn] at hi
      cases e1
      obtain ⟨q, eq, tq⟩ := (hH1.same s2).test hi
      have e2' : (d.tas.map fun p => V.ref p.1)[i]? = some y1 := e2
      rw [List.getElem?_map, eq] at e2'
      cases e2'
      have s3 : Same H2 (upd H2 T' (.tup [nI i, .ref q.1])) := same_new nT
      refine ⟨T', _, rfl, SqT.of upd_same, rfl, ⟨_, _, rfl, ⟨_, _, rfl, ⟨rfl, ⟨rfl, ?_⟩⟩⟩⟩⟩
      have gt := g.tT _ (at_mem hi)
      have fin : ∀ (b : Bool) (H4 : Hp), Same (upd H2 T' (.tup [nI i, .ref q.1])) H4 → mayQ h (h.passed ++ o) i = b → (b = true → ∃ acc, H4 D = some (.lst acc) ∧ acc.length < sizeLine ∧ (Same H1 (upd H4 D (.lst (acc ++ [nI i]))) ∧ upd H4 D (.lst (acc ++ [nI i])) D = some (.lst (nL ((List.range (i + 1)).filter (mayQ h (h.passed ++ o)))))))
          ∧ (b = false → (Same H1 H4 ∧ H4 D = some (.lst (nL ((List.range (i + 1)).filter (mayQ h (h.passed ++ o))))))) := by
        intro b H4 s4 eb
        have hD4 := s4 _ _ (s3 _ _ hD)
        refine ⟨fun z => ?_, fun z => ?_⟩
        · subst z
          refine ⟨_, hD4, room_of ?_, fun b o' e => ?_, ?_⟩
          · rw [nL_length]
            have := List.length_filter_le (mayQ h (h.passed ++ o)) (List.range i)
            rw [List.length_range] at this
            have := g.t6
            omega
          · rw [upd_ne (ne_of_none e nD)]
            exact s4 _ _ (s3 _ _ (s2 _ _ e))
          · rw [upd_same, range_more, eb, nL_append]
            rfl
        · subst z
          refine ⟨Same.trans s2 (Same.trans s3 s4), ?_⟩
          rw [hD4, range_more, eb]
          simp
      refine ⟨_, rfl, _, rfl, p, _, rfl, .inl (SqL.of (s3 _ _ (s2 _ _ hp1))), rfl, nL_flat _, _, rfl, ?_⟩
      show if (!inV (nI i) (nL (h.passed ++ o))) = true then _ else _
      rw [inV_nL]
      cases c1 : (h.passed ++ o).contains i with
      | true =>
        refine if_false_of rfl ?_
        refine if_false_of rfl ?_
        exact (fin false _ (Same.refl _) (by unfold mayQ; rw [c1]; rfl)).2 rfl
      | false =>
        refine if_true_of rfl ?_
        refine ⟨_, rfl, _, rfl, q.1, q.2, p, h.at_ i, h.passed ++ o, rfl, tq.same s3, s3 _ _ (s2 _ _ hp1), by omega, fun H4 s4 => ⟨_, rfl, ?_⟩⟩
        have em : mayQ h (h.passed ++ o) i = (h.at_ i).needs.all (h.passed ++ o).contains := by
          unfold mayQ
          rw [c1]
          rfl
        cases c2 : (h.at_ i).needs.all (h.passed ++ o).contains with
        | true =>
          refine if_true_of rfl ?_
          refine ⟨_, rfl, ?_⟩
          exact (fin true H4 s4 (by rw [em, c2])).1 rfl
        | false =>
          refine if_false_of rfl ?_
          exact (fin false H4 s4 (by rw [em, c2])).2 rfl
    · rintro H2 ⟨s2, hD⟩
      rw [List.length_map, hH.tn, ← after_open] at hD
      exact k H2 D (Same.trans s1 s2) (s1.free nD) hD
end
end Tf
set_option Elab.async false
set_option maxRecDepth 100000
set_option maxHeartbeats 2000000
namespace Tf
open PySem PySem.Spec PyProof.Rows L2
/-! ### Many runs -/
theorem nil_or_snoc {B : Type} (l : List B) : l = [] ∨ ∃ m b, l = m ++ [b] := by
  rcases List.eq_nil_or_concat l with e | ⟨m, b, e⟩
  · exact .inl e
  · exact .inr ⟨m, b, by rw [e, List.concat_eq_append]⟩
/-- the runs of the orders os lie at ras -/
structure RunsOn (A : Ad) (H : Hp) (N : Addr → Prop) (h : Rp08.House) (os : List (List Nat)) (ras : List Addr) : Prop where
  ln : ras.length = os.length
  rs : ∀ (j : Nat) (o : List Nat), os[j]? = some o → ∃ a : Addr, ras[j]? = some a ∧ RunOn A H N a h o
theorem RunsOn.nil {A : Ad} {H : Hp} {N : Addr → Prop} {h : Rp08.House} : RunsOn A H N h [] [] := ⟨rfl, fun j o e => by simp at e⟩
theorem RunsOn.same {A : Ad} {H H' : Hp} {N : Addr → Prop} {h : Rp08.House} {os : List (List Nat)} {ras : List Addr} (x : RunsOn A H N h os ras) (s : Same H H') : RunsOn A H' N h os ras :=
  ⟨x.ln, fun j o e => let ⟨a, e1, e2⟩ := x.rs j o e; ⟨a, e1, e2.same s⟩⟩
theorem RunsOn.imp {A : Ad} {H : Hp} {N M : Addr → Prop} {h : Rp08.House} {os : List (List Nat)} {ras : List Addr} (x : RunsOn A H N h os ras) (i : ∀ b, N b → M b) : RunsOn A H M h os ras :=
  ⟨x.ln, fun j o e => let ⟨a, e1, e2⟩ := x.rs j o e; ⟨a, e1, e2.imp i⟩⟩
theorem RunsOn.off {A : Ad} {H : Hp} {N : Addr → Prop} {l : Addr} {h : Rp08.House} {os : List (List Nat)} {ras : List Addr} {xs : List V} {u : HO} (x : RunsOn A H N h os ras) (n : ∀ b, N b → b ≠ l) (hl : H l = some (.lst xs)) : RunsOn A (upd H l u) N h os ras :=
  ⟨x.ln, fun j o e => let ⟨a, e1, e2⟩ := x.rs j o e; ⟨a, e1, e2.off n hl⟩⟩
theorem RunsOn.push {A : Ad} {H : Hp} {N : Addr → Prop} {p : Addr} {h : Rp08.House} {os : List (List Nat)} {ras : List Addr} {o : List Nat} (x : RunsOn A H N h os ras) (y : RunOn A H N p h o) : RunsOn A H N h (os ++ [o]) (ras ++ [p]) := by
  refine ⟨?_, fun j u eu => ?_⟩
  · rw [List.length_append, List.length_append, x.ln]
    rfl
  · by_cases c : j < os.length
    · rw [List.getElem?_append_left c] at eu
      obtain ⟨a, e1, e2⟩ := x.rs j u eu
      refine ⟨a, ?_, e2⟩
      rw [List.getElem?_append_left (by rw [x.ln]; exact c)]
      exact e1
    · have ej : j = os.length := by
        have := at_lt eu
        rw [List.length_append, List.length_singleton] at this
        omega
      rw [List.getElem?_append_right (by omega), ej, Nat.sub_self] at eu
      cases eu
      refine ⟨p, ?_, y⟩
      rw [List.getElem?_append_right (by rw [x.ln]; omega), ej, x.ln, Nat.sub_self]
      rfl
theorem RunsOn.pop {A : Ad} {H : Hp} {N : Addr → Prop} {h : Rp08.House} {os : List (List Nat)} {ras : List Addr} {o : List Nat} (x : RunsOn A H N h (os ++ [o]) ras) : ∃ rs a, ras = rs ++ [a] ∧ RunsOn A H N h os rs ∧ RunOn A H N a h o := by
  have ln := x.ln
  rw [List.length_append, List.length_singleton] at ln
  rcases nil_or_snoc ras with e | ⟨rs, a, e⟩
  · rw [e] at ln
    simp at ln
  · subst e
    rw [List.length_append, List.length_singleton] at ln
    refine ⟨rs, a, rfl, ⟨by omega, fun j u eu => ?_⟩, ?_⟩
    · have jl := at_lt eu
      obtain ⟨b, e1, e2⟩ := x.rs j u (by rw [List.getElem?_append_left jl]; exact eu)
      rw [List.getElem?_append_left (by omega)] at e1
      exact ⟨b, e1, e2⟩
    · obtain ⟨b, e1, e2⟩ := x.rs os.length o (by rw [List.getElem?_append_right (Nat.le_refl _), Nat.sub_self]; rfl)
      rw [List.getElem?_append_right (by omega)] at e1
      have e3 : os.length - rs.length = 0 := by omega
      rw [e3] at e1
      cases e1
      exact e2
theorem RunsOn.at {A : Ad} {H : Hp} {N : Addr → Prop} {h : Rp08.House} {os : List (List Nat)} {ras : List Addr} (x : RunsOn A H N h os ras) {i : Nat} {a : Addr} (e : ras[i]? = some a) : ∃ o, os[i]? = some o ∧ RunOn A H N a h o := by
  have hi := at_lt e
  rw [x.ln] at hi
  obtain ⟨b, e1, e2⟩ := x.rs i _ (List.getElem?_eq_getElem hi)
  rw [e] at e1
  cases e1
  exact ⟨_, List.getElem?_eq_getElem hi, e2⟩
/-- all those, in the list at l -/
structure RunsAt (A : Ad) (H : Hp) (l : Addr) (h : Rp08.House) (os : List (List Nat)) (ras : List Addr) : Prop where
  ls : H l = some (.lst (ras.map V.ref))
  on : RunsOn A H (fun _ => True) h os ras
theorem RunsAt.same {A : Ad} {H H' : Hp} {l : Addr} {h : Rp08.House} {os : List (List Nat)} {ras : List Addr} (x : RunsAt A H l h os ras) (s : Same H H') : RunsAt A H' l h os ras := ⟨s _ _ x.ls, x.on.same s⟩
theorem ref_at {ras : List Addr} {i : Nat} {y : V} (h : (ras.map V.ref)[i]? = some y) : ∃ a, ras[i]? = some a ∧ y = .ref a := by
  rw [List.getElem?_map] at h
  cases e : ras[i]? with
  | none => rw [e] at h; cases h
  | some x => rw [e] at h; exact ⟨x, rfl, (Option.some.inj h).symm⟩
theorem Good.can6 {h : Rp08.House} (g : Good h) {o : List Nat} (c : h.can o = true) : o.length ≤ 6 ∧ o.length ≤ h.tests.length := by
  have a := can_length o h c
  have b := rest_le h
  have t := g.t6
  omega
theorem flat_ge (h : Rp08.House) : ∀ ws : List (List Nat), ws.length ≤ (ws.flatMap (full h)).length
  | [] => Nat.zero_le _
  | o :: r => by
    rw [List.flatMap_cons, List.length_append, List.length_cons]
    have a := full_ne h o
    have b := flat_ge h r
    omega
theorem can_snoc {h : Rp08.House} {o : List Nat} {i : Nat} (c : h.can o = true) (hi : i ∈ (after h o).open_) : h.can (o ++ [i]) = true := (can_cat o h [i]).mpr ⟨c, can_cons.mpr ⟨hi, rfl⟩⟩
/-- one order taken from the waiting ones, those that go on from it put there -/
theorem next_flat {h : Rp08.House} {ws : List (List Nat)} {o : List Nat} (c : h.can o = true) :
    (ws ++ [o]).reverse.flatMap (full h) = o :: ((ws ++ (after h o).open_.reverse.map fun i => o ++ [i]).reverse.flatMap (full h)) := by
  rw [List.reverse_append, List.reverse_append, ← List.map_reverse, List.reverse_reverse, List.flatMap_append, List.flatMap_append, List.flatMap_map]
  show (full h o ++ []) ++ _ = _
  rw [List.append_nil, full_eq c]
  rfl
def spS_all (A : Ad) : Sp := fun vs H Q _ => ∃ (d : HD) (h : Rp08.House), vs = [.ref d.a] ∧ HouseAt A H d h ∧ Good h ∧
  ∀ (H' : Hp) (p : Addr) (rs : List Addr), Same H H' → RunsAt A H' p h (full h []) rs → Q (.ref p) H'
section
variable {P : Program} {w : World} {K : PySem.W.Frag} {mg : Str → Option Value} {base : Heap} {A : Ad}
theorem scS_all : FnScope ["house", "runs", "waiting", "run", "number"] ["house"] (defScope s_all_runs) := ⟨rfl, rfl, rfl, by decide +kernel, rfl, by decide +kernel, by decide +kernel⟩
theorem okS_all (T : Txt K mg A) : FnOk P w K mg base CX0 4 A.f_all_runs A.d_all_runs ["house"] (spS_all A) := by
  have GE : FnOk P w K mg base CX0 3 A.f_empty_run A.d_empty_run ["house"] (spU_empty A) := okU_empty T
  have GN : FnOk P w K mg base CX0 2 A.f_next_tests A.d_next_tests ["house", "run"] (spU_next A) := okU_next T
  have GL : FnOk P w K mg base CX0 3 A.f_longer_run A.d_longer_run ["house", "run", "number"] (spU_longer A) := okU_longer T
  refine T.F_all_runs.ok scS_all (fun vs H Q E h => ?_) (fun cdv A1 outer s H vs Q E hr h => ?_)
  · obtain ⟨d, h, rfl, _⟩ := h
    rfl
  · obtain ⟨d, h, rfl, hH, g, k⟩ := h
    have hr2 : Room 2 _ := hr.mono (by decide)
    refine ⟨_, pss_cons (ps_set (i := 1) scS_all.nd rfl (Or.inl rfl) (pe_lst pa_nil))
      (pss_cons (ps_set (i := 2) scS_all.nd rfl (Or.inl rfl) (pe_lst (pa_cons (pe_call GE hr rfl T.g_empty_run T.k_empty_run T.b_empty_run .nil pass0 (pa_cons (pv 0) pa_nil)) pa_nil)))
      (pss_cons (ps_while PassesOwn.never (pt_cmpR op_gt (pe_callB call_len_seq (by rfl) T.no_len PySem.boot_len (pa_cons (pv 2) pa_nil)) pe_int (nomark _))
        (pss_cons (ps_set (i := 3) scS_all.nd rfl (Or.inl rfl) (pe_bm0 PySem.F.plainAttrs_list PySem.F.slot_list_pop PySem.F.type_list_pop mt_pop (pv 2)))
        (pss_cons (ps_expr (pe_bm PySem.F.plainAttrs_list PySem.F.slot_list_append PySem.F.type_list_append mt_append (pv 1) (pa_cons (pv 3) pa_nil)))
        (pss_one (ps_for PassesOwn.never rfl (pi_reversed (by rfl) T.no_reversed (pa_cons (pe_call GN hr2 rfl T.g_next_tests T.k_next_tests T.b_next_tests .nil pass0 (pa_cons (pv 0) (pa_cons (pv 3) pa_nil))) pa_nil)) (pg_name (i := 4) scS_all.nd rfl (Or.inl rfl))
          (pss_one (ps_expr (pe_bm PySem.F.plainAttrs_list PySem.F.slot_list_append PySem.F.type_list_append mt_append (pv 2)
            (pa_cons (pe_call GL hr rfl T.g_longer_run T.k_longer_run T.b_longer_run .nil pass0 (pa_cons (pv 0) (pa_cons (pv 3) (pa_cons (pv 4) pa_nil)))) pa_nil)))))))))
      (pss_one (ps_ret (pv 1))))), ?_⟩
    refine ⟨Nat.zero_le _, fun L nL' => ?_⟩
    have s0 : Same H (upd H L (.lst [])) := same_new nL'
    refine ⟨_, rfl, d, h, rfl, hH.same s0, fun H1 p s1 r1 => ⟨(by show 1 ≤ sizeLine; decide), fun Wt nW => ?_⟩⟩
    have hL1 : H1 L = some (.lst []) := s1 _ _ upd_same
    have nLW : L ≠ Wt := ne_of_none hL1 nW
    have s2 : Same H1 (upd H1 Wt (.lst [.ref p])) := same_new nW
    have fW : H Wt = none := (Same.trans s0 s1).free nW
    have r2 : RunOn A (upd H1 Wt (.lst [.ref p])) (fun b => b ≠ L ∧ b ≠ Wt) p h [] := by
      obtain ⟨dx, lo, h1, h2, h3⟩ := r1
      refine ⟨dx, lo, s2 _ _ h1, s2 _ _ h2, fun z => ?_, ne_of_none h2 nW⟩
      rw [z, upd_same] at h3
      cases h3
    refine ⟨fun m σ H' => ∃ (v1 v2 : Option V) (done ws : List (List Nat)) (das was : List Addr), m = (ws.reverse.flatMap (full h)).length ∧ σ = [some (.ref d.a), some (.ref L), some (.ref Wt), v1, v2] ∧ Same H H' ∧ H' L = some (.lst (das.map V.ref)) ∧ H' Wt = some (.lst (was.map V.ref)) ∧
        RunsOn A H' (fun b => b ≠ L ∧ b ≠ Wt) h done das ∧ RunsOn A H' (fun b => b ≠ L ∧ b ≠ Wt) h ws was ∧ (∀ o ∈ ws, h.can o = true) ∧ done ++ ws.reverse.flatMap (full h) = full h [],
      ⟨_, none, none, [], [[]], [], [p], rfl, rfl, Same.trans s0 (Same.trans s1 s2), s2 _ _ hL1, upd_same, .nil, RunsOn.nil.push r2, fun o ho => by simp at ho; subst ho; rfl, by simp⟩, ?_⟩
    rintro m σ H3 ⟨v1, v2, done, ws, das, was, rfl, rfl, s3, hL3, hW3, rd3, rw3, cn3, tot⟩
    refine ⟨_, rfl, Wt, _, rfl, .inl (SqL.of hW3), _, _, rfl, rfl, _, rfl, ?_⟩
    rw [List.length_map, rw3.ln]
    rcases nil_or_snoc ws with e | ⟨ws', o, e⟩
    · subst e
      refine if_false_of (by decide) ?_
      refine ⟨_, rfl, k H3 L das s3 ⟨hL3, ?_⟩⟩
      have e0 : done = full h [] := by simpa using tot
      rw [← e0]
      exact rd3.imp fun _ _ => trivial
    · subst e
      have co : h.can o = true := cn3 o (by simp)
      have cn3' : ∀ u ∈ ws', h.can u = true := fun u hu => cn3 u (by simp [hu])
      obtain ⟨o6, _⟩ := g.can6 co
      rw [next_flat co] at tot
      have big : done.length + (ws'.length + (after h o).open_.length + 1) ≤ 117649 := by
        have a1 := full_count g.t6 []
        rw [← tot, List.length_append, List.length_cons] at a1
        have a2 := flat_ge h (ws' ++ (after h o).open_.reverse.map fun i => o ++ [i]).reverse
        rw [List.length_reverse, List.length_append, List.length_map, List.length_reverse] at a2
        omega
      obtain ⟨was', a, rfl, rw3', ra3⟩ := rw3.pop
      refine if_true_of (decide_eq_true (by rw [List.length_append, List.length_singleton]; omega)) ?_
      refine ⟨fun σ' H' => ∃ m', m' < ((ws' ++ [o]).reverse.flatMap (full h)).length ∧ _, fun σ' H' z => z, ?_⟩
      have ew : (was' ++ [a]).map V.ref = was'.map V.ref ++ [V.ref a] := by
        rw [List.map_append]
        rfl
      rw [ew] at hW3
      refine ⟨_, rfl, .inl ⟨rfl, _, SqL.of hW3⟩, Wt, _, V.ref a, rfl, rfl, hW3, ?_, ?_⟩
      · rw [List.length_append, List.length_singleton, Nat.add_sub_cancel, List.getElem?_append_right (Nat.le_refl _), Nat.sub_self]
        rfl
      rw [List.dropLast_concat]
      have nN1 : ∀ b : Addr, (b ≠ L ∧ b ≠ Wt) → b ≠ L := fun _ z => z.1
      have nN2 : ∀ b : Addr, (b ≠ L ∧ b ≠ Wt) → b ≠ Wt := fun _ z => z.2
      have hL4 : upd H3 Wt (.lst (was'.map V.ref)) L = some (.lst (das.map V.ref)) := upd_at hL3 nLW
      refine ⟨_, rfl, .inl ⟨rfl, _, SqL.of hL4⟩, _, rfl, L, _, _, rfl, rfl, hL4, room_of (by rw [List.length_map, rd3.ln]; omega), ?_⟩
      have e4 : das.map V.ref ++ [V.ref a] = (das ++ [a]).map V.ref := by
        rw [List.map_append]
        rfl
      rw [e4]
      have s5 : Same H (upd (upd H3 Wt (.lst (was'.map V.ref))) L (.lst ((das ++ [a]).map V.ref))) := fun b u e => by
        rw [upd_ne (ne_of_none e nL'), upd_ne (ne_of_none e fW)]
        exact s3 _ _ e
      have hW5 : upd (upd H3 Wt (.lst (was'.map V.ref))) L (.lst ((das ++ [a]).map V.ref)) Wt = some (.lst (was'.map V.ref)) := upd_at upd_same nLW.symm
      have hL5 : upd (upd H3 Wt (.lst (was'.map V.ref))) L (.lst ((das ++ [a]).map V.ref)) L = some (.lst ((das ++ [a]).map V.ref)) := upd_same
      have ra5 := (ra3.off (u := .lst (was'.map V.ref)) nN2 hW3).off (u := .lst ((das ++ [a]).map V.ref)) nN1 hL4
      have rd5 := ((rd3.off (u := .lst (was'.map V.ref)) nN2 hW3).off (u := .lst ((das ++ [a]).map V.ref)) nN1 hL4).push ra5
      have rw5 := (rw3'.off (u := .lst (was'.map V.ref)) nN2 hW3).off (u := .lst ((das ++ [a]).map V.ref)) nN1 hL4
      revert s5 hW5 hL5 ra5 rd5 rw5
      generalize upd (upd H3 Wt (.lst (was'.map V.ref))) L (.lst ((das ++ [a]).map V.ref)) = H5
      intro s5 hW5 hL5 ra5 rd5 rw5
      refine ⟨_, rfl, _, rfl, d, h, a, o, rfl, hH.same s5, g, ra5.at, o6, fun H6 q s6 nq hq => ?_⟩
      have nqL : q ≠ L := (ne_of_none hL5 nq).symm
      have nqW : q ≠ Wt := (ne_of_none hW5 nq).symm
      refine ⟨q, _, rfl, SqL.of hq, for_it walk_rev
        (fun j σ H' => ∃ (v : Option V) (was2 : List Addr), σ = [some (.ref d.a), some (.ref L), some (.ref Wt), some (.ref a), v] ∧ Same H H' ∧ H' q = some (.lst (nL (after h o).open_)) ∧ H' L = some (.lst ((das ++ [a]).map V.ref)) ∧ H' Wt = some (.lst (was2.map V.ref)) ∧
          RunOn A H' (fun b => b ≠ L ∧ b ≠ Wt) a h o ∧ RunsOn A H' (fun b => b ≠ L ∧ b ≠ Wt) h (done ++ [o]) (das ++ [a]) ∧ RunsOn A H' (fun b => b ≠ L ∧ b ≠ Wt) h (ws' ++ ((after h o).open_.reverse.take j).map fun i => o ++ [i]) was2)
        ⟨_, was', rfl, Same.trans s5 s6, hq, s6 _ _ hL5, s6 _ _ hW5, ra5.same s6, rd5.same s6, by simpa using rw5.same s6⟩ ?_ ?_ ?_⟩
      · rintro j σ H' _ ⟨_, _, _, _, z, _⟩
        exact SqL.of z
      · rintro j y σ H7 H7' hj ⟨v, was2, rfl, s7, hq7, hL7, hW7, ra7, rd7, rw7⟩ ⟨rfl, hy⟩
        rw [nL_length] at hj hy
        obtain ⟨x, hx, rfl⟩ := nL_at hy
        have hx' : (after h o).open_.reverse[j]? = some x := by
          rw [List.getElem?_reverse hj]
          exact hx
        have hxo := List.mem_of_getElem? hx
        have hxi : x < h.tests.length := by
          have := (mem_open.mp hxo).1
          rwa [after_tests] at this
        refine ⟨_, rfl, .inl ⟨rfl, _, SqL.of hW7⟩, _, rfl, _, rfl, _, rfl, d, h, a, o, x, rfl, hH.same s7, g, ra7.at, hxi, o6, fun H8 p8 s8 r8 => ?_⟩
        have hW8 := s8 _ _ hW7
        have r8' : RunOn A H8 (fun b => b ≠ L ∧ b ≠ Wt) p8 h (o ++ [x]) := r8.imp fun b z => ⟨(ne_of_none hL7 z).symm, (ne_of_none hW7 z).symm⟩
        refine ⟨Wt, _, _, rfl, rfl, hW8, room_of ?_, ?_⟩
        · rw [List.length_map, rw7.ln, List.length_append, List.length_map, List.length_take, List.length_reverse]
          omega
        · refine ⟨_, was2 ++ [p8], rfl, fun b u e => ?_, upd_at (s8 _ _ hq7) nqW, upd_at (s8 _ _ hL7) nLW, ?_, (ra7.same s8).off nN2 hW8, (rd7.same s8).off nN2 hW8, ?_⟩
          · rw [upd_ne (ne_of_none e fW)]
            exact s8 _ _ (s7 _ _ e)
          · rw [upd_same, List.map_append]
            rfl
          · have e5 : ws' ++ ((after h o).open_.reverse.take (j + 1)).map (fun i => o ++ [i]) = (ws' ++ ((after h o).open_.reverse.take j).map fun i => o ++ [i]) ++ [o ++ [x]] := by
              rw [take_more hx', List.map_append, List.append_assoc]
              rfl
            rw [e5]
            exact ((rw7.same s8).off nN2 hW8).push (r8'.off nN2 hW8)
      · rintro σ H7 ⟨v, was2, rfl, s7, hq7, hL7, hW7, ra7, rd7, rw7⟩
        rw [nL_length] at rw7
        have e6 : (after h o).open_.reverse.take (after h o).open_.length = (after h o).open_.reverse := List.take_of_length_le (by rw [List.length_reverse]; exact Nat.le_refl _)
        rw [e6] at rw7
        refine ⟨_, ?_, _, _, done ++ [o], _, das ++ [a], was2, rfl, rfl, s7, hL7, hW7, rd7, rw7, ?_, ?_⟩
        · rw [next_flat co, List.length_cons]
          exact Nat.lt_succ_self _
        · intro u hu
          rcases List.mem_append.mp hu with z | z
          · exact cn3' u z
          · obtain ⟨i, hi, rfl⟩ := List.mem_map.mp z
            exact can_snoc co (List.mem_reverse.mp hi)
        · rw [List.append_assoc]
          exact tot
end
end Tf
set_option Elab.async false
set_option maxRecDepth 100000
set_option maxHeartbeats 2000000
namespace Tf
open PySem PySem.Spec PyProof.Rows L2
/-! ### The best order, the order within a time, a given order -/
def spS_whole (A : Ad) : Sp := fun vs H Q _ => ∃ (d : HD) (h : Rp08.House), vs = [.ref d.a] ∧ HouseAt A H d h ∧ Good h ∧
  ∀ (H' : Hp) (p : Addr) (rs : List Addr), Same H H' → RunsAt A H' p h (all h.rest.length h) rs → Q (.ref p) H'
def spS_best (A : Ad) : Sp := fun vs H Q _ => ∃ (d : HD) (h : Rp08.House), vs = [.ref d.a] ∧ HouseAt A H d h ∧ Good h ∧
  ∀ (H' : Hp) (p : Addr), Same H H' → RunAt A H' p h (h.best h.rest.length) → Q (.ref p) H'
def spS_more (A : Ad) : Sp := fun vs H Q _ => ∃ (h : Rp08.House) (a b : Addr) (o u : List Nat), vs = [.ref a, .ref b] ∧ Good h ∧ RunAt A H a h o ∧ RunAt A H b h u ∧ h.can o = true ∧ h.can u = true ∧ Q (.bl (more h o u)) H
def spS_within (A : Ad) : Sp := fun vs H Q _ => ∃ (d : HD) (h : Rp08.House) (b : Nat), vs = [.ref d.a, nI b] ∧ HouseAt A H d h ∧ Good h ∧
  ∀ (H' : Hp) (p : Addr), Same H H' → RunAt A H' p h (h.within b) → Q (.ref p) H'
def spS_row (K : PySem.W.Frag) (A : Ad) : Sp := fun vs H Q _ => ∃ (d : HD) (h : Rp08.House) (a : Addr) (l : List Nat), vs = [.ref d.a, .ref a] ∧ HouseAt A H d h ∧ Good h ∧ SqL K H a (nL l) ∧
  (∀ (H' : Hp) (p : Addr), Same H H' → h.can l = true → RunAt A H' p h l → Q (.ref p) H') ∧ (∀ H' : Hp, Same H H' → h.can l = false → Q .non H')
theorem filter_more {B : Type} {l : List B} {q : B → Bool} {i : Nat} {x : B} (h : l[i]? = some x) : (l.take (i + 1)).filter q = (l.take i).filter q ++ if q x = true then [x] else [] := by
  rw [take_more h, List.filter_append]
  congr 1
  simp only [List.filter_cons, List.filter_nil]
theorem RunsOn.to {A : Ad} {H : Hp} {a : Addr} {h : Rp08.House} {o : List Nat} (x : RunAt A H a h o) : RunOn A H (fun _ => True) a h o := let ⟨dx, lo, h1, h2⟩ := x; ⟨dx, lo, h1, h2, trivial⟩
theorem dlt {a b : Nat} : decide (((a : Nat) : Int) < ((b : Nat) : Int)) = decide (a < b) := by
  by_cases c : a < b
  · rw [decide_eq_true c, decide_eq_true (by omega)]
  · rw [decide_eq_false c, decide_eq_false (by omega)]
section
variable {P : Program} {w : World} {K : PySem.W.Frag} {mg : Str → Option Value} {base : Heap} {A : Ad}
theorem scS_whole : FnScope ["house", "left", "run"] ["house"] (defScope s_whole_runs) := ⟨rfl, rfl, rfl, by decide +kernel, rfl, by decide +kernel, by decide +kernel⟩
theorem okS_whole (T : Txt K mg A) : FnOk P w K mg base CX0 5 A.f_whole_runs A.d_whole_runs ["house"] (spS_whole A) := by
  have GA : FnOk P w K mg base CX0 4 A.f_all_runs A.d_all_runs ["house"] (spS_all A) := okS_all T
  refine T.F_whole_runs.ok scS_whole (fun vs H Q E h => ?_) (fun cdv A1 outer s H vs Q E hr h => ?_)
  · obtain ⟨d, h, rfl, _⟩ := h
    rfl
  · obtain ⟨d, h, rfl, hH, g, k⟩ := h
    refine ⟨_, pss_cons (ps_set (i := 1) scS_whole.nd rfl (Or.inr rfl) (pe_op op_sub (pe_callB call_len_seq (by rfl) T.no_len PySem.boot_len (pa_cons (pe_fld (pv 0) rfl) pa_nil)) (pe_callB call_len_seq (by rfl) T.no_len PySem.boot_len (pa_cons (pe_fld (pv 0) rfl) pa_nil))))
      (pss_one (ps_ret (pe_lc (own := [("run", 2)]) (g := gName 2) (tt := tTest (tOp rEq (tCB (Evl.rLenS K) (tCons (tFld K (tVar 2) "order") tNil)) (tVar 1))) rfl scS_whole.nd (pi_list (pe_call GA hr rfl T.g_all_runs T.k_all_runs T.b_all_runs .nil pass0 (pa_cons (pv 0) pa_nil)))
          (blkOk_by (N := ["house", "left", "run"]) (sc := defScope s_whole_runs) (by decide +kernel))
          (fun _ _ _ _ _ => pg_name (i := 2) scS_whole.nd rfl (Or.inl rfl))
          (fun _ _ _ _ _ => pts_one (pt_cmpR (r := rEq) op_eq (pe_callB (r := Evl.rLenS K) call_len_seq (by rfl) T.no_len PySem.boot_len (pa_cons (pe_fld (pv 2) rfl) pa_nil)) (pv 1) (nomark _)))
          (fun _ _ _ _ _ => pv 2)))), ?_⟩
    have t6 := g.t6
    have p6 := g.pass6
    refine ⟨_, rfl, d.a, A.c_House, d.dx, _, _, rfl, hH.ins, T.cl_House, T.n_House_tests, hF_tests _ _ _ _ _, d.lt, _, rfl, .inl (SqL.of hH.lt), _, rfl, d.a, A.c_House, d.dx, _, _, rfl, hH.ins, T.cl_House, T.n_House_passed, hF_passed _ _ _ _ _, d.lp, _, rfl, .inl (SqL.of hH.lp), _, _, rfl, rfl, ?_⟩
    have en : (((d.tas.map fun p => V.ref p.1).length : Nat) : Int) - (((nL h.passed).length : Nat) : Int) = ((h.rest.length : Nat) : Int) := by
      rw [List.length_map, hH.tn, nL_length, g.rest_len]
      omega
    dsimp only
    rw [en]
    refine ⟨_, rfl, d, h, rfl, hH, g, fun H1 l rs s1 r1 => ⟨l, rfl, ⟨_, SqL.of r1.ls⟩, fun D nD => ?_⟩⟩
    have e0 := full_whole h
    have cnt := full_count t6 []
    revert e0 r1 cnt
    generalize full h [] = os
    intro r1 e0 cnt
    refine lc_list (K := K) (a := l) (xs := rs.map V.ref) (fun i H' => Same H1 H' ∧ ∃ das : List Addr, H' D = some (.lst (das.map V.ref)) ∧ RunsOn A H1 (fun _ => True) h ((os.take i).filter fun p => decide (p.length = h.rest.length)) das)
      ⟨same_new nD, [], upd_same, .nil⟩ (fun i H' _ ⟨s2, _⟩ => SqL.of (s2 _ _ r1.ls)) ?_ ?_
    · rintro i y H2 hi ⟨s2, das, hD, rd⟩
      obtain ⟨a, ea, rfl⟩ := ref_at hi
      obtain ⟨o, eo, ra⟩ := r1.on.at ea
      obtain ⟨dx, lo, h1, h2, _⟩ := id ra
      have il := at_lt eo
      refine ⟨rfl, ?_⟩
      refine ⟨_, rfl, a, A.c_Run, dx, _, _, rfl, s2 _ _ h1, T.cl_Run, T.n_Run_order, uF_order _ _ _ _ _ _, lo, _, rfl, .inl (SqL.of (s2 _ _ h2)), _, rfl, rfl, _, rfl, ?_⟩
      have ed : decide (V.int (((nL o).length : Nat) : Int) = V.int ((h.rest.length : Nat) : Int)) = decide (o.length = h.rest.length) := by
        rw [nL_length]
        by_cases c : o.length = h.rest.length
        · rw [decide_eq_true c, decide_eq_true (by rw [c])]
        · rw [decide_eq_false c, decide_eq_false fun z => c (by have := V.int.inj z; omega)]
      rw [ed]
      have em := filter_more (q := fun p : List Nat => decide (p.length = h.rest.length)) eo
      by_cases c : o.length = h.rest.length
      · refine if_true_of (decide_eq_true c) ?_
        refine ⟨_, rfl, das.map V.ref, hD, room_of ?_, fun b u e => ?_, das ++ [a], ?_, ?_⟩
        · rw [List.length_map, rd.ln]
          have := List.length_filter_le (fun p : List Nat => decide (p.length = h.rest.length)) (os.take i)
          rw [List.length_take] at this
          omega
        · rw [upd_ne (ne_of_none e nD)]
          exact s2 _ _ e
        · rw [upd_same, List.map_append]
          rfl
        · rw [em, if_pos (decide_eq_true c)]
          exact rd.push ra
      · refine if_false_of (decide_eq_false c) ?_
        refine ⟨s2, das, hD, ?_⟩
        rw [em, if_neg (by rw [decide_eq_false c]; exact Bool.false_ne_true), List.append_nil]
        exact rd
    · rintro H2 ⟨s2, das, hD, rd⟩
      rw [List.length_map, r1.on.ln, List.take_length, e0] at rd
      exact k H2 D das (Same.trans s1 s2) ⟨hD, rd.same s2⟩
theorem scS_best : FnScope ["house", "runs", "best", "run"] ["house"] (defScope s_best_run) := ⟨rfl, rfl, rfl, by decide +kernel, rfl, by decide +kernel, by decide +kernel⟩
theorem okS_best (T : Txt K mg A) : FnOk P w K mg base CX0 6 A.f_best_run A.d_best_run ["house"] (spS_best A) := by
  have GW : FnOk P w K mg base CX0 5 A.f_whole_runs A.d_whole_runs ["house"] (spS_whole A) := okS_whole T
  refine T.F_best_run.ok scS_best (fun vs H Q E h => ?_) (fun cdv A1 outer s H vs Q E hr h => ?_)
  · obtain ⟨d, h, rfl, _⟩ := h
    rfl
  · obtain ⟨d, h, rfl, hH, g, k⟩ := h
    refine ⟨_, pss_cons (ps_set (i := 1) scS_best.nd rfl (Or.inl rfl) (pe_call GW hr rfl T.g_whole_runs T.k_whole_runs T.b_whole_runs .nil pass0 (pa_cons (pv 0) pa_nil)))
      (pss_cons (ps_set (i := 2) scS_best.nd rfl (Or.inl rfl) (pe_ix ix_list (pv 1) pe_int (fun _ _ => rfl)))
      (pss_cons (ps_for PassesOwn.never rfl (pi_list (pv 1)) (pg_name (i := 3) scS_best.nd rfl (Or.inl rfl))
        (pss_one (ps_if (pt_cmpR op_lt (pe_fld (pv 3) rfl) (pe_fld (pv 2) rfl) (nomark _)) (pss_one (ps_set (i := 2) scS_best.nd rfl (Or.inl rfl) (pv 3))) pss_nil)))
      (pss_one (ps_ret (pv 2))))), ?_⟩
    have fm := best_FM h.rest.length h g.firm rfl
    refine ⟨_, rfl, d, h, rfl, hH, g, fun H1 l rs s1 r1 => ?_⟩
    have hm := fm.mem
    cases ho : all h.rest.length h with
    | nil =>
      rw [ho] at hm
      cases hm
    | cons o0 os =>
      rw [ho] at r1 fm
      obtain ⟨a0, e0, ra0⟩ := r1.on.rs 0 o0 rfl
      have e0' : (rs.map V.ref)[0]? = some (V.ref a0) := by rw [List.getElem?_map, e0]; rfl
      refine ⟨_, rfl, l, _, _, _, rfl, rfl, SqL.of r1.ls, atI_nat e0', ?_⟩
      refine ⟨_, rfl, l, rfl, ⟨_, SqL.of r1.ls⟩, for_list (K := K) (a := l) (xs := rs.map V.ref) (fun i σ H' => H' = H1 ∧ ∃ (a : Addr) (v : Option V), σ = [some (.ref d.a), some (.ref l), some (.ref a), v] ∧ RunAt A H1 a h (((o0 :: os).take i).foldl (keep h.price) o0))
        ⟨rfl, a0, none, rfl, ra0.at⟩ (fun i σ H' _ ⟨e, _⟩ => by rw [e]; exact SqL.of r1.ls) ?_ ?_⟩
      · rintro i y σ H' hi ⟨rfl, a, v, rfl, ra⟩
        obtain ⟨b, eb, rfl⟩ := ref_at hi
        obtain ⟨o, eo, rb⟩ := r1.on.at eb
        obtain ⟨dx1, lo1, h1, h2⟩ := id ra
        obtain ⟨dx2, lo2, h3, h4, _⟩ := id rb
        refine ⟨_, rfl, b, A.c_Run, dx2, _, _, rfl, h3, T.cl_Run, T.n_Run_spent, uF_spent _ _ _ _ _ _, _, rfl, a, A.c_Run, dx1, _, _, rfl, h1, T.cl_Run, T.n_Run_spent, uF_spent _ _ _ _ _ _, _, _, rfl, rfl, _, rfl, ?_⟩
        have ef : ((o0 :: os).take (i + 1)).foldl (keep h.price) o0 = keep h.price (((o0 :: os).take i).foldl (keep h.price) o0) o := by
          rw [take_more eo, List.foldl_append]
          rfl
        by_cases c : h.price o < h.price (((o0 :: os).take i).foldl (keep h.price) o0)
        · refine if_true_of (decide_eq_true (by omega)) ?_
          refine ⟨_, rfl, rfl, b, _, rfl, ?_⟩
          rw [ef]
          unfold keep at c ⊢
          rw [if_pos c]
          exact rb.at
        · refine if_false_of (decide_eq_false (by omega)) ?_
          refine ⟨rfl, a, _, rfl, ?_⟩
          rw [ef]
          have e : keep h.price (((o0 :: os).take i).foldl (keep h.price) o0) o = ((o0 :: os).take i).foldl (keep h.price) o0 := by
            rw [keep.eq_1, if_neg c]
          rw [e]
          exact ra
      · rintro σ H' ⟨rfl, a, v, rfl, ra⟩
        rw [List.length_map, r1.on.ln, List.take_length] at ra
        have eb : h.best h.rest.length = (o0 :: os).foldl (keep h.price) o0 := fm.uniq (FM.again o0 os)
        refine ⟨_, rfl, k H' a s1 ?_⟩
        rw [eb]
        exact ra
theorem scS_more : FnScope ["run", "other", "alive", "other_alive"] ["run", "other"] (defScope s_shows_more) := ⟨rfl, rfl, rfl, by decide +kernel, rfl, by decide +kernel, by decide +kernel⟩
theorem okS_more (T : Txt K mg A) : FnOk P w K mg base CX0 1 A.f_shows_more A.d_shows_more ["run", "other"] (spS_more A) := by
  refine T.F_shows_more.ok scS_more (fun vs H Q E h => ?_) (fun cdv A1 outer s H vs Q E hr h => ?_)
  · obtain ⟨h, a, b, o, u, rfl, _⟩ := h
    rfl
  · obtain ⟨h, a, b, o, u, rfl, g, ⟨dx1, lo1, h1, h2⟩, ⟨dx2, lo2, h3, h4⟩, co, cu, k⟩ := h
    refine ⟨_, pss_cons (ps_set (i := 2) scS_more.nd rfl (Or.inl rfl) (pe_op op_mul (pe_fld (pv 0) rfl) (pe_fld (pv 1) rfl)))
      (pss_cons (ps_set (i := 3) scS_more.nd rfl (Or.inl rfl) (pe_op op_mul (pe_fld (pv 1) rfl) (pe_fld (pv 0) rfl)))
      (pss_cons (ps_if (pt_cmpR op_eq (pv 2) (pv 3) (nomark _)) (pss_one (ps_ret (pe_cmpR op_lt (pe_fld (pv 0) rfl) (pe_fld (pv 1) rfl) (nomark _)))) pss_nil)
      (pss_one (ps_ret (pe_cmpR op_lt (pv 2) (pv 3) (nomark _)))))), ?_⟩
    obtain ⟨o6, ot⟩ := g.can6 co
    obtain ⟨u6, ut⟩ := g.can6 cu
    have so := g.scale o6
    have su := g.scale u6
    have w0 : 0 < h.whole := by have := g.w2; omega
    rw [more_is w0 ot ut] at k
    have e1 : ((alive h o : Nat) : Int) * ((h.whole ^ u.length : Nat) : Int) = ((alive h o * h.whole ^ u.length : Nat) : Int) := (Int.natCast_mul _ _).symm
    have e2 : ((alive h u : Nat) : Int) * ((h.whole ^ o.length : Nat) : Int) = ((alive h u * h.whole ^ o.length : Nat) : Int) := (Int.natCast_mul _ _).symm
    refine ⟨_, rfl, a, A.c_Run, dx1, _, _, rfl, h1, T.cl_Run, T.n_Run_alive, uF_alive _ _ _ _ _ _, _, rfl, b, A.c_Run, dx2, _, _, rfl, h3, T.cl_Run, T.n_Run_scale, uF_scale _ _ _ _ _ _, _, _, rfl, rfl, .inr ⟨by omega, by omega⟩, ?_⟩
    refine ⟨_, rfl, b, A.c_Run, dx2, _, _, rfl, h3, T.cl_Run, T.n_Run_alive, uF_alive _ _ _ _ _ _, _, rfl, a, A.c_Run, dx1, _, _, rfl, h1, T.cl_Run, T.n_Run_scale, uF_scale _ _ _ _ _ _, _, _, rfl, rfl, .inr ⟨by omega, by omega⟩, ?_⟩
    dsimp only
    rw [e1, e2]
    revert k
    generalize alive h o * h.whole ^ u.length = x
    generalize alive h u * h.whole ^ o.length = y
    intro k
    refine ⟨_, rfl, _, rfl, rfl, _, rfl, ?_⟩
    by_cases c : x = y
    · refine if_true_of (decide_eq_true (by rw [c])) ?_
      refine ⟨_, rfl, a, A.c_Run, dx1, _, _, rfl, h1, T.cl_Run, T.n_Run_length, uF_length _ _ _ _ _ _, _, rfl, b, A.c_Run, dx2, _, _, rfl, h3, T.cl_Run, T.n_Run_length, uF_length _ _ _ _ _ _, _, _, rfl, rfl, ?_⟩
      rw [if_pos c, ← dlt] at k
      exact k
    · refine if_false_of (decide_eq_false fun z => c (by have := V.int.inj z; omega)) ?_
      refine ⟨_, rfl, _, rfl, _, _, rfl, rfl, ?_⟩
      rw [if_neg c, ← dlt] at k
      exact k
theorem scS_within : FnScope ["house", "time", "best", "run"] ["house", "time"] (defScope s_run_within) := ⟨rfl, rfl, rfl, by decide +kernel, rfl, by decide +kernel, by decide +kernel⟩
theorem okS_within (T : Txt K mg A) : FnOk P w K mg base CX0 5 A.f_run_within A.d_run_within ["house", "time"] (spS_within A) := by
  have GE : FnOk P w K mg base CX0 3 A.f_empty_run A.d_empty_run ["house"] (spU_empty A) := okU_empty T
  have GA : FnOk P w K mg base CX0 4 A.f_all_runs A.d_all_runs ["house"] (spS_all A) := okS_all T
  have GM : FnOk P w K mg base CX0 1 A.f_shows_more A.d_shows_more ["run", "other"] (spS_more A) := okS_more T
  refine T.F_run_within.ok scS_within (fun vs H Q E h => ?_) (fun cdv A1 outer s H vs Q E hr h => ?_)
  · obtain ⟨d, h, b, rfl, _⟩ := h
    rfl
  · obtain ⟨d, h, b, rfl, hH, g, k⟩ := h
    have hr1 : Room 1 _ := hr.mono (by decide)
    have hr3 : Room 3 _ := hr.mono (by decide)
    refine ⟨_, pss_cons (ps_set (i := 2) scS_within.nd rfl (Or.inl rfl) (pe_call GE hr3 rfl T.g_empty_run T.k_empty_run T.b_empty_run .nil pass0 (pa_cons (pv 0) pa_nil)))
      (pss_cons (ps_for PassesOwn.never rfl (pi_list (pe_call GA hr rfl T.g_all_runs T.k_all_runs T.b_all_runs .nil pass0 (pa_cons (pv 0) pa_nil))) (pg_name (i := 3) scS_within.nd rfl (Or.inl rfl))
        (pss_one (ps_if (PW.pt (pw_and (pt_cmpR op_le (pe_fld (pv 3) rfl) (pv 1) (nomark _)) (pw_and1 (pt_val (pe_call GM hr1 rfl T.g_shows_more T.k_shows_more T.b_shows_more .nil pass0 (pa_cons (pv 3) (pa_cons (pv 2) pa_nil)))))))
          (pss_one (ps_set (i := 2) scS_within.nd rfl (Or.inl rfl) (pv 3))) pss_nil)))
      (pss_one (ps_ret (pv 2)))), ?_⟩
    rw [within_fold] at k
    have cf : ∀ o ∈ full h [], h.can o = true := fun o ho => mem_full.mp ho
    refine ⟨_, rfl, d, h, rfl, hH, fun H1 p s1 r1 => ?_⟩
    refine ⟨_, rfl, d, h, rfl, hH.same s1, g, fun H2 l rs s2 r2 => ?_⟩
    revert k cf r2
    generalize full h [] = os
    intro k cf r2
    refine ⟨l, rfl, ⟨_, SqL.of r2.ls⟩, for_list (K := K) (a := l) (xs := rs.map V.ref) (fun i σ H' => H' = H2 ∧ ∃ (a : Addr) (v : Option V), σ = [some (.ref d.a), some (nI b), some (.ref a), v] ∧ RunAt A H2 a h ((os.take i).foldl (keepW h b) []))
        ⟨rfl, p, none, rfl, r1.at.same s2⟩ (fun i σ H' _ ⟨e, _⟩ => by rw [e]; exact SqL.of r2.ls) ?_ ?_⟩
    · rintro i y σ H' hi ⟨rfl, a, v, rfl, ra⟩
      obtain ⟨c, ec, rfl⟩ := ref_at hi
      obtain ⟨o, eo, rc⟩ := r2.on.at ec
      obtain ⟨dx2, lo2, h3, h4, _⟩ := id rc
      have ef : (os.take (i + 1)).foldl (keepW h b) [] = keepW h b ((os.take i).foldl (keepW h b) []) o := by
        rw [take_more eo, List.foldl_append]
        rfl
      have cc : h.can ((os.take i).foldl (keepW h b) []) = true := fold_can (fun x hx => cf x (List.mem_of_mem_take hx)) rfl
      revert ra ef cc
      generalize (os.take i).foldl (keepW h b) [] = u
      intro ra ef cc
      refine ⟨_, rfl, c, A.c_Run, dx2, _, _, rfl, h3, T.cl_Run, T.n_Run_length, uF_length _ _ _ _ _ _, _, rfl, _, _, rfl, rfl, _, rfl, ?_⟩
      rw [dle]
      have stay : ¬ (h.long o ≤ b ∧ more h o u = true) → RunAt A H' a h ((os.take (i + 1)).foldl (keepW h b) []) := fun z => by
        rw [ef, keepW.eq_1, if_neg z]
        exact ra
      by_cases c1 : h.long o ≤ b
      · refine if_true_of (decide_eq_true c1) ?_
        refine ⟨_, rfl, _, rfl, h, c, a, o, u, rfl, g, rc.at, ra, cf o (List.mem_of_getElem? eo), cc, _, rfl, ?_⟩
        cases c2 : more h o u with
        | true =>
          refine if_true_of rfl ?_
          refine ⟨_, rfl, rfl, c, _, rfl, ?_⟩
          rw [ef, keepW.eq_1, if_pos ⟨c1, c2⟩]
          exact rc.at
        | false =>
          refine if_false_of rfl ?_
          exact ⟨rfl, a, _, rfl, stay (by rw [c2]; simp)⟩
      · refine if_false_of (decide_eq_false c1) ?_
        refine if_false_of rfl ?_
        exact ⟨rfl, a, _, rfl, stay fun z => c1 z.1⟩
    · rintro σ H' ⟨rfl, a, v, rfl, ra⟩
      rw [List.length_map, r2.on.ln, List.take_length] at ra
      exact ⟨_, rfl, k H' a (Same.trans s1 s2) ra⟩
theorem scS_row : FnScope ["house", "row", "run", "number"] ["house", "row"] (defScope s_run_of_row) := ⟨rfl, rfl, rfl, by decide +kernel, rfl, by decide +kernel, by decide +kernel⟩
theorem okS_row (T : Txt K mg A) : FnOk P w K mg base CX0 4 A.f_run_of_row A.d_run_of_row ["house", "row"] (spS_row K A) := by
  have GE : FnOk P w K mg base CX0 3 A.f_empty_run A.d_empty_run ["house"] (spU_empty A) := okU_empty T
  have GN : FnOk P w K mg base CX0 2 A.f_next_tests A.d_next_tests ["house", "run"] (spU_next A) := okU_next T
  have GL : FnOk P w K mg base CX0 3 A.f_longer_run A.d_longer_run ["house", "run", "number"] (spU_longer A) := okU_longer T
  refine T.F_run_of_row.ok scS_row (fun vs H Q E h => ?_) (fun cdv A1 outer s H vs Q E hr h => ?_)
  · obtain ⟨d, h, a, l, rfl, _⟩ := h
    rfl
  · obtain ⟨d, h, a, l, rfl, hH, g, hS, k1, k2⟩ := h
    have hr2 : Room 2 _ := hr.mono (by decide)
    refine ⟨_, pss_cons (ps_set (i := 2) scS_row.nd rfl (Or.inl rfl) (pe_call GE hr rfl T.g_empty_run T.k_empty_run T.b_empty_run .nil pass0 (pa_cons (pv 0) pa_nil)))
      (pss_cons (ps_for PassesOwn.never rfl (pi_list (pv 1)) (pg_name (i := 3) scS_row.nd rfl (Or.inl rfl))
        (pss_cons (ps_if (pt_cmpR op_notIn_seq (pv 3) (pe_call GN hr2 rfl T.g_next_tests T.k_next_tests T.b_next_tests .nil pass0 (pa_cons (pv 0) (pa_cons (pv 2) pa_nil))) (by rfl)) (pss_one (ps_ret pe_non)) pss_nil)
        (pss_one (ps_set (i := 2) scS_row.nd rfl (Or.inl rfl) (pe_call GL hr rfl T.g_longer_run T.k_longer_run T.b_longer_run .nil pass0 (pa_cons (pv 0) (pa_cons (pv 2) (pa_cons (pv 3) pa_nil))))))))
      (pss_one (ps_ret (pv 2)))), ?_⟩
    refine ⟨_, rfl, d, h, rfl, hH, fun H1 p s1 r1 => ?_⟩
    refine ⟨_, rfl, a, rfl, ⟨_, s1.seq hS⟩, for_list (K := K) (a := a) (xs := nL l) (fun i σ H' => ∃ (p : Addr) (v : Option V), σ = [some (.ref d.a), some (.ref a), some (.ref p), v] ∧ Same H H' ∧ h.can (l.take i) = true ∧ RunAt A H' p h (l.take i))
      ⟨p, none, rfl, s1, rfl, r1.at⟩ (fun i σ H' _ ⟨_, _, _, s2, _⟩ => s2.seq hS) ?_ ?_⟩
    · rintro i y σ H2 hi ⟨p2, v, rfl, s2, c2, r2⟩
      obtain ⟨x, hx, rfl⟩ := nL_at hi
      obtain ⟨o6, _⟩ := g.can6 c2
      refine ⟨_, rfl, _, rfl, _, rfl, d, h, p2, l.take i, rfl, hH.same s2, g, r2, o6, fun H3 q s3 nq hq => ?_⟩
      refine ⟨q, _, rfl, .inl (SqL.of hq), rfl, nL_flat _, _, rfl, ?_⟩
      show if (!inV (nI x) (nL (after h (l.take i)).open_)) = true then _ else _
      rw [inV_nL]
      have em := take_more hx
      have ed : l = l.take i ++ x :: l.drop (i + 1) := by
        have hlt := at_lt hx
        have e1 : l.drop i = x :: l.drop (i + 1) := by
          rw [List.drop_eq_getElem_cons hlt]
          congr 1
          exact (List.getElem?_eq_some_iff.mp hx).2
        rw [← e1, List.take_append_drop]
      cases c : (after h (l.take i)).open_.contains x with
      | false =>
        refine if_true_of rfl ?_
        refine k2 H3 (Same.trans s2 s3) ?_
        cases cl : h.can l with
        | false => rfl
        | true =>
          rw [ed] at cl
          have := (can_cons.mp ((can_cat _ _ _).mp cl).2).1
          have c' : ¬ x ∈ (after h (l.take i)).open_ := by simpa using c
          exact absurd this c'
      | true =>
        refine if_false_of rfl ?_
        have hx2 : x ∈ (after h (l.take i)).open_ := by simpa using c
        have hxi : x < h.tests.length := by
          have := (mem_open.mp hx2).1
          rwa [after_tests] at this
        refine ⟨_, rfl, _, rfl, _, rfl, d, h, p2, l.take i, x, rfl, hH.same (Same.trans s2 s3), g, r2.same s3, hxi, o6, fun H4 p4 s4 r4 => ?_⟩
        rw [← em] at r4
        refine ⟨p4, _, rfl, Same.trans s2 (Same.trans s3 s4), ?_, r4.at⟩
        rw [em]
        exact can_snoc c2 hx2
    · rintro σ H2 ⟨p2, v, rfl, s2, c2, r2⟩
      rw [nL_length, List.take_length] at c2 r2
      exact ⟨_, rfl, k1 H2 p2 s2 c2 r2⟩
end
end Tf
set_option Elab.async false
set_option maxRecDepth 100000
set_option maxHeartbeats 2000000
namespace Tf
open PySem PySem.Spec PyProof.Rows L2
/-! ### One call, read and answered -/
theorem drop_cons {ns : List Int} {i : Nat} {x : Int} {r : List Int} (h : ns.drop i = x :: r) : ns[i]? = some x ∧ ns.drop (i + 1) = r ∧ i < ns.length := by
  have hi : i < ns.length := by
    apply Classical.byContradiction
    intro c
    rw [List.drop_eq_nil_of_le (by omega)] at h
    cases h
  rw [List.drop_eq_getElem_cons hi] at h
  injection h with h1 h2
  exact ⟨by rw [List.getElem?_eq_getElem hi, h1], h2, hi⟩
/-- how the house and the reader stand ahead of a call -/
structure Ahead (K : PySem.W.Frag) (A : Ad) (H : Hp) (d : HD) (h : Rp08.House) (r a : Addr) (i : Nat) (ns : List Int) : Prop where
  hs : HouseAt A H d h
  good : Good h
  rd : ReaderAt A H r a i
  sq : SqL K H a (ns.map V.int)
/-- and behind it: the answer at p -/
structure Behind (A : Ad) (H H' : Hp) (d d' : HD) (h' : Rp08.House) (r a : Addr) (j : Nat) (p : Addr) (ans : List Int) : Prop where
  hs : HouseAt A H' d' h'
  rd : ReaderAt A H' r a j
  da : d'.a = d.a
  fr : ∀ b o, H b = some o → b ≠ d.a → b ≠ d.lt → b ≠ d.lp → b ≠ r → H' b = some o
  own : ∀ b, Owns d' b → Owns d b ∨ H b = none
  ap : ∀ b o, H b = some o → b ≠ d.a → b ≠ d.lt → b ≠ d.lp → b ≠ r → b ≠ p
  out : H' p = some (.lst (ans.map V.int))
theorem house_but {A : Ad} {H H' : Hp} {d : HD} {h : Rp08.House} {r dr : Addr} {a : Addr} {i : Nat} (hH : HouseAt A H d h) (hr : H r = some (.ins A.c_Reader dr (rF a i))) (b : But r H H') : HouseAt A H' d h := by
  have nl : ∀ {b : Addr} {xs : List V}, H b = some (.lst xs) → b ≠ r := fun z => ne_of z hr (by intro z; cases z)
  have na : d.a ≠ r := fun z => by
    have hh := hH.ins
    rw [z, hr] at hh
    have e2 := Option.some.inj hh
    injection e2 with e3 e4 e5
    have e6 : (rF a i).length = (hF d.ls d.lt d.lp h.whole (upV h.up)).length := by rw [e5]
    exact absurd e6 (by show ¬ (2 : Nat) = 5; decide)
  refine ⟨b _ _ hH.ins na, b _ _ hH.ls (nl hH.ls), b _ _ hH.lt (nl hH.lt), b _ _ hH.lp (nl hH.lp), hH.tn, fun i t e => ?_, hH.n1, hH.n2, hH.n3, hH.n4⟩
  obtain ⟨p, e1, ⟨dx, h1⟩, h2⟩ := hH.ts i t e
  refine ⟨p, e1, ⟨dx, b _ _ h1 fun z => ?_⟩, b _ _ h2 (nl h2)⟩
  rw [z, hr] at h1
  have e2 := Option.some.inj h1
  injection e2 with e3 e4 e5
  have e6 := congrArg List.length e5
  exact absurd e6 (by show ¬ (2 : Nat) = 4; decide)
theorem reader_ne {A : Ad} {H : Hp} {d : HD} {h : Rp08.House} {r a : Addr} {i : Nat} (hH : HouseAt A H d h) (hr : ReaderAt A H r a i) : r ≠ d.a ∧ r ≠ d.lt ∧ r ≠ d.lp := by
  obtain ⟨dr, h1⟩ := hr
  refine ⟨fun z => ?_, ne_of h1 hH.lt (by intro z; cases z), ne_of h1 hH.lp (by intro z; cases z)⟩
  have hh := hH.ins
  rw [← z, h1] at hh
  have e2 := Option.some.inj hh
  injection e2 with e3 e4 e5
  have e6 : (rF a i).length = (hF d.ls d.lt d.lp h.whole (upV h.up)).length := by rw [e5]
  exact absurd e6 (by show ¬ (2 : Nat) = 5; decide)
/-- what has been read leaves the house as it was; what is done on the house leaves the reader -/
theorem behind_of {A : Ad} {H H1 H2 : Hp} {d d' : HD} {h h' : Rp08.House} {r a : Addr} {i j : Nat} {p : Addr} {v : V} {ans : List Int} (hH : HouseAt A H d h) (h1 : HouseAt A H1 d h) (r1 : ReaderAt A H1 r a j) (b1 : But r H H1) (h2 : HouseAt A H2 d' h') (k2 : Kept H1 H2 d d')
    (np : H2 p = none) (ev : [v] = ans.map V.int) : Behind A H (upd H2 p (.lst [v])) d d' h' r a j p ans := by
  obtain ⟨n1, n2, n3⟩ := reader_ne h1 r1
  obtain ⟨dr, hr⟩ := r1
  have hr2 : H2 r = _ := k2.fr _ _ hr n1 n2 n3
  have free : ∀ x, H1 x = none → x ≠ r → H x = none := fun x hx nx => b1.free hx nx
  refine ⟨h2.same (same_new np), ⟨dr, upd_at hr2 (ne_of_none hr2 np)⟩, k2.a, fun b o e e1 e2 e3 e4 => ?_, ?_, ?_, ?_⟩
  · have := k2.fr _ _ (b1 _ _ e e4) e1 e2 e3
    exact upd_at this (ne_of_none this np)
  · intro b z
    rcases k2.own b z with z | z
    · exact .inl z
    · exact .inr (free _ z fun y => by rw [y, hr] at z; cases z)
  · intro b o e e1 e2 e3 e4
    exact ne_of_none (k2.fr _ _ (b1 _ _ e e4) e1 e2 e3) np
  · rw [upd_same, ev]
theorem free_of {H H1 : Hp} {x y : Addr} {o : HO} (b : But x H H1) (h : H y = some o) (n : y ≠ x) {p : Addr} (np : H1 p = none) : y ≠ p := ne_of_none (b _ _ h n) np
def spA_begins (K : PySem.W.Frag) (A : Ad) : Sp := fun vs H Q _ => ∃ (d : HD) (h : Rp08.House) (r a : Addr) (i : Nat) (ns : List Int) (w n : Nat) (l : List Nat), vs = [.ref d.a, .ref r] ∧ Ahead K A H d h r a i ns ∧
  ns[i]? = some (w : Int) ∧ ns[i + 1]? = some (n : Int) ∧ ((ns.drop (i + 2)).take n).map V.int = nL l ∧ l.length ≤ 1000 ∧
  ∀ (H' : Hp) (d' : HD) (p : Addr), Behind A H H' d d' (Rp08.step h (.begins w l)).1 r a (i + 2 + n) p [(Rp08.step h (.begins w l)).2.v] → Q (.ref p) H'
def spA_test (K : PySem.W.Frag) (A : Ad) : Sp := fun vs H Q _ => ∃ (d : HD) (h : Rp08.House) (r a : Addr) (i : Nat) (ns : List Int) (t f e n : Nat) (l : List Nat), vs = [.ref d.a, .ref r] ∧ Ahead K A H d h r a i ns ∧
  ns[i]? = some (t : Int) ∧ ns[i + 1]? = some (f : Int) ∧ ns[i + 2]? = some (e : Int) ∧ ns[i + 3]? = some (n : Int) ∧ ((ns.drop (i + 4)).take n).map V.int = nL l ∧
  ∀ (H' : Hp) (d' : HD) (p : Addr), Behind A H H' d d' (Rp08.step h (.test t f e l)).1 r a (i + 4 + n) p [(Rp08.step h (.test t f e l)).2.v] → Q (.ref p) H'
def spA_pass (K : PySem.W.Frag) (A : Ad) : Sp := fun vs H Q _ => ∃ (d : HD) (h : Rp08.House) (r a : Addr) (i : Nat) (ns : List Int) (j : Nat), vs = [.ref d.a, .ref r] ∧ Ahead K A H d h r a i ns ∧
  ns[i]? = some (j : Int) ∧
  ∀ (H' : Hp) (d' : HD) (p : Addr), Behind A H H' d d' (Rp08.step h (.pass j)).1 r a (i + 1) p [(Rp08.step h (.pass j)).2.v] → Q (.ref p) H'
def spA_order (A : Ad) : Sp := fun vs H Q _ => ∃ (d : HD) (h : Rp08.House), vs = [.ref d.a] ∧ HouseAt A H d h ∧ Good h ∧
  ∀ (H' : Hp) (p : Addr), Same H H' → H p = none → H' p = some (.lst (nL ((h.best h.rest.length).length :: (h.best h.rest.length ++ [h.shown (h.best h.rest.length)])))) → Q (.ref p) H'
def spA_price (K : PySem.W.Frag) (A : Ad) : Sp := fun vs H Q _ => ∃ (d : HD) (h : Rp08.House) (r a : Addr) (i : Nat) (ns : List Int) (n : Nat) (l : List Nat), vs = [.ref d.a, .ref r] ∧ Ahead K A H d h r a i ns ∧
  ns[i]? = some (n : Int) ∧ ((ns.drop (i + 1)).take n).map V.int = nL l ∧
  ∀ (H' : Hp) (p : Addr), Behind A H H' d d h r a (i + 1 + n) p (Rp08Neutral.out (Rp08.step h (.price l)).2) → Q (.ref p) H'
def spA_within (K : PySem.W.Frag) (A : Ad) : Sp := fun vs H Q _ => ∃ (d : HD) (h : Rp08.House) (r a : Addr) (i : Nat) (ns : List Int) (b : Nat), vs = [.ref d.a, .ref r] ∧ Ahead K A H d h r a i ns ∧
  ns[i]? = some (b : Int) ∧
  ∀ (H' : Hp) (p : Addr), Behind A H H' d d h r a (i + 1) p (Rp08Neutral.out (Rp08.step h (.within b)).2) → Q (.ref p) H'
def spA_open (A : Ad) : Sp := fun vs H Q _ => ∃ (d : HD) (h : Rp08.House), vs = [.ref d.a] ∧ HouseAt A H d h ∧ Good h ∧
  ∀ (H' : Hp) (p : Addr), Same H H' → H p = none → H' p = some (.lst (nL (h.open_.length :: h.open_))) → Q (.ref p) H'
theorem behind_same {A : Ad} {H H1 H' : Hp} {d : HD} {h : Rp08.House} {r a : Addr} {j : Nat} {p : Addr} {ans : List Int} (h1 : HouseAt A H1 d h) (r1 : ReaderAt A H1 r a j) (b : But r H H1) (s : Same H1 H') (np : H1 p = none) (hp : H' p = some (.lst (ans.map V.int))) : Behind A H H' d d h r a j p ans := by
  obtain ⟨dr, hr⟩ := r1
  exact ⟨h1.same s, ⟨dr, s _ _ hr⟩, rfl, fun c o e _ _ _ e4 => s _ _ (b _ _ e e4), fun _ z => .inl z, fun c o e _ _ _ e4 => ne_of_none (b _ _ e e4) np, hp⟩
theorem nL_cast (l : List Nat) : nL l = (l.map fun (n : Nat) => (n : Int)).map V.int := by
  unfold nL
  rw [List.map_map]
  rfl
theorem step_price_no {h : Rp08.House} {l : List Nat} (c : h.can l = false) : Rp08.step h (.price l) = (h, Rp08.ok (-5)) := if_pos c
theorem step_price_yes {h : Rp08.House} {l : List Nat} (c : h.can l = true) : Rp08.step h (.price l) = (h, ⟨((h.shown l : Nat) : Int), [h.long l]⟩) := if_neg (by rw [c]; exact fun z => Bool.noConfusion z)
section
variable {P : Program} {w : World} {K : PySem.W.Frag} {mg : Str → Option Value} {base : Heap} {A : Ad}
theorem scA_begins : FnScope ["house", "reader", "whole", "settings"] ["house", "reader"] (defScope s_answer_begins) := ⟨rfl, rfl, rfl, by decide +kernel, rfl, by decide +kernel, by decide +kernel⟩
theorem okA_begins (T : Txt K mg A) : FnOk P w K mg base CX0 3 A.f_answer_begins A.d_answer_begins ["house", "reader"] (spA_begins K A) := by
  have GN : FnOk P w K mg base CX0 1 A.f_Reader_read_number A.d_Reader_read_number ["self"] (spR_num K A) := okR_num T
  have GR : FnOk P w K mg base CX0 2 A.f_Reader_read_row A.d_Reader_read_row ["self"] (spR_row K A) := okR_row T
  have GB : FnOk P w K mg base CX0 2 A.f_House_begins A.d_House_begins ["self", "whole", "settings"] (spH_begins A) := okH_begins T
  refine T.F_answer_begins.ok scA_begins (fun vs H Q E h => ?_) (fun cdv A1 outer s H vs Q E hr h => ?_)
  · obtain ⟨d, h, r, a, i, ns, w, n, l, rfl, _⟩ := h
    rfl
  · obtain ⟨d, h, r, a, i, ns, wh, n, l, rfl, ah, e1, e2, el, ll, k⟩ := h
    have hr1 : Room 1 _ := hr.mono (by decide)
    refine ⟨_, pss_cons (ps_set (i := 2) scA_begins.nd rfl (Or.inl rfl) (pe_meth0 (pv 1) T.cl_Reader T.m_Reader_read_number GN hr1 T.b_Reader_read_number .nil pass0))
      (pss_cons (ps_set (i := 3) scA_begins.nd rfl (Or.inl rfl) (pe_meth0 (pv 1) T.cl_Reader T.m_Reader_read_row GR hr T.b_Reader_read_row .nil pass0))
      (pss_one (ps_ret (pe_lst (pa_cons (pe_meth (pv 0) T.cl_House T.m_House_begins GB hr T.b_House_begins .nil pass0 (pa_cons (pv 2) (pa_cons (pv 3) pa_nil))) pa_nil))))), ?_⟩
    obtain ⟨dr0, hr0⟩ := ah.rd
    refine ⟨_, rfl, r, dr0, _, rfl, hr0, rF_no _ _ (by decide +kernel) (by decide +kernel), r, a, i, ns, _, rfl, ah.rd, ah.sq, e1, fun H1 r1 b1 => ?_⟩
    have hH1 := house_but ah.hs hr0 b1
    have sq1 := SqL.but b1 hr0 ah.sq
    obtain ⟨dr1, hr1'⟩ := id r1
    refine ⟨_, rfl, r, dr1, _, rfl, hr1', rF_no _ _ (by decide +kernel) (by decide +kernel), r, a, i + 1, ns, n, rfl, r1, sq1, e2, fun H2 p r2 b2 np hp => ?_⟩
    have hH2 := house_but hH1 hr1' b2
    rw [el] at hp
    refine ⟨_, rfl, d.a, d.dx, _, rfl, hH2.ins, hF_no _ _ _ _ _ (by decide +kernel), _, rfl, _, rfl, d, h, wh, p, l, rfl, hH2, hp, ll, fun H3 d' hH3 k3 => ?_⟩
    refine ⟨(by show 1 ≤ sizeLine; decide), fun q nq => ?_⟩
    have e3 : i + 1 + 1 + n = i + 2 + n := by omega
    rw [e3] at r2
    exact k _ d' q (behind_of (i := i) ah.hs hH2 r2 (But.trans b1 b2) hH3 k3 nq rfl)
theorem scA_test : FnScope ["house", "reader", "time", "failures", "setting", "needs"] ["house", "reader"] (defScope s_answer_test) := ⟨rfl, rfl, rfl, by decide +kernel, rfl, by decide +kernel, by decide +kernel⟩
theorem okA_test (T : Txt K mg A) : FnOk P w K mg base CX0 4 A.f_answer_test A.d_answer_test ["house", "reader"] (spA_test K A) := by
  have GN : FnOk P w K mg base CX0 1 A.f_Reader_read_number A.d_Reader_read_number ["self"] (spR_num K A) := okR_num T
  have GR : FnOk P w K mg base CX0 2 A.f_Reader_read_row A.d_Reader_read_row ["self"] (spR_row K A) := okR_row T
  have GB : FnOk P w K mg base CX0 3 A.f_House_add_test A.d_House_add_test ["self", "time", "failures", "setting", "needs"] (spH_test A) := okH_test T
  refine T.F_answer_test.ok scA_test (fun vs H Q E h => ?_) (fun cdv A1 outer s H vs Q E hr h => ?_)
  · obtain ⟨d, h, r, a, i, ns, t, f, e, n, l, rfl, _⟩ := h
    rfl
  · obtain ⟨d, h, r, a, i, ns, t, f, e, n, l, rfl, ah, e1, e2, e3, e4, el, k⟩ := h
    have hr1 : Room 1 _ := hr.mono (by decide)
    have hr2 : Room 2 _ := hr.mono (by decide)
    refine ⟨_, pss_cons (ps_set (i := 2) scA_test.nd rfl (Or.inl rfl) (pe_meth0 (pv 1) T.cl_Reader T.m_Reader_read_number GN hr1 T.b_Reader_read_number .nil pass0))
      (pss_cons (ps_set (i := 3) scA_test.nd rfl (Or.inl rfl) (pe_meth0 (pv 1) T.cl_Reader T.m_Reader_read_number GN hr1 T.b_Reader_read_number .nil pass0))
      (pss_cons (ps_set (i := 4) scA_test.nd rfl (Or.inl rfl) (pe_meth0 (pv 1) T.cl_Reader T.m_Reader_read_number GN hr1 T.b_Reader_read_number .nil pass0))
      (pss_cons (ps_set (i := 5) scA_test.nd rfl (Or.inl rfl) (pe_meth0 (pv 1) T.cl_Reader T.m_Reader_read_row GR hr2 T.b_Reader_read_row .nil pass0))
      (pss_one (ps_ret (pe_lst (pa_cons (pe_meth (pv 0) T.cl_House T.m_House_add_test GB hr T.b_House_add_test .nil pass0 (pa_cons (pv 2) (pa_cons (pv 3) (pa_cons (pv 4) (pa_cons (pv 5) pa_nil))))) pa_nil))))))), ?_⟩
    obtain ⟨dr0, hr0⟩ := ah.rd
    refine ⟨_, rfl, r, dr0, _, rfl, hr0, rF_no _ _ (by decide +kernel) (by decide +kernel), r, a, i, ns, _, rfl, ah.rd, ah.sq, e1, fun H1 r1 b1 => ?_⟩
    have hH1 := house_but ah.hs hr0 b1
    have sq1 := SqL.but b1 hr0 ah.sq
    obtain ⟨dr1, hr1'⟩ := id r1
    refine ⟨_, rfl, r, dr1, _, rfl, hr1', rF_no _ _ (by decide +kernel) (by decide +kernel), r, a, i + 1, ns, _, rfl, r1, sq1, e2, fun H2 r2 b2 => ?_⟩
    have hH2 := house_but hH1 hr1' b2
    have sq2 := SqL.but b2 hr1' sq1
    obtain ⟨dr2, hr2'⟩ := id r2
    refine ⟨_, rfl, r, dr2, _, rfl, hr2', rF_no _ _ (by decide +kernel) (by decide +kernel), r, a, i + 1 + 1, ns, _, rfl, r2, sq2, e3, fun H3 r3 b3 => ?_⟩
    have hH3 := house_but hH2 hr2' b3
    have sq3 := SqL.but b3 hr2' sq2
    obtain ⟨dr3, hr3'⟩ := id r3
    refine ⟨_, rfl, r, dr3, _, rfl, hr3', rF_no _ _ (by decide +kernel) (by decide +kernel), r, a, i + 1 + 1 + 1, ns, n, rfl, r3, sq3, e4, fun H4 p r4 b4 np hp => ?_⟩
    have hH4 := house_but hH3 hr3' b4
    have hp' : H4 p = some (.lst (nL l)) := by
      rw [← el]
      exact hp
    refine ⟨_, rfl, d.a, d.dx, _, rfl, hH4.ins, hF_no _ _ _ _ _ (by decide +kernel), _, rfl, _, rfl, _, rfl, _, rfl, d, h, t, f, e, p, l, rfl, hH4, ah.good.t6, hp', fun H5 d' hH5 k5 => ?_⟩
    refine ⟨(by show 1 ≤ sizeLine; decide), fun q nq => ?_⟩
    have e5 : i + 1 + 1 + 1 + 1 + n = i + 4 + n := by omega
    rw [e5] at r4
    exact k _ d' q (behind_of (i := i) ah.hs hH4 r4 (But.trans (But.trans b1 b2) (But.trans b3 b4)) hH5 k5 nq rfl)
theorem scA_pass : FnScope ["house", "reader"] ["house", "reader"] (defScope s_answer_pass_test) := ⟨rfl, rfl, rfl, by decide +kernel, rfl, by decide +kernel, by decide +kernel⟩
theorem okA_pass (T : Txt K mg A) : FnOk P w K mg base CX0 3 A.f_answer_pass_test A.d_answer_pass_test ["house", "reader"] (spA_pass K A) := by
  have GN : FnOk P w K mg base CX0 1 A.f_Reader_read_number A.d_Reader_read_number ["self"] (spR_num K A) := okR_num T
  have GB : FnOk P w K mg base CX0 2 A.f_House_pass_test A.d_House_pass_test ["self", "number"] (spH_pass A) := okH_pass T
  refine T.F_answer_pass_test.ok scA_pass (fun vs H Q E h => ?_) (fun cdv A1 outer s H vs Q E hr h => ?_)
  · obtain ⟨d, h, r, a, i, ns, j, rfl, _⟩ := h
    rfl
  · obtain ⟨d, h, r, a, i, ns, j, rfl, ah, e1, k⟩ := h
    have hr1 : Room 1 _ := hr.mono (by decide)
    refine ⟨_, pss_one (ps_ret (pe_lst (pa_cons (pe_meth (pv 0) T.cl_House T.m_House_pass_test GB hr T.b_House_pass_test .nil pass0 (pa_cons (pe_meth0 (pv 1) T.cl_Reader T.m_Reader_read_number GN hr1 T.b_Reader_read_number .nil pass0) pa_nil)) pa_nil))), ?_⟩
    obtain ⟨dr0, hr0⟩ := ah.rd
    refine ⟨_, rfl, d.a, d.dx, _, rfl, ah.hs.ins, hF_no _ _ _ _ _ (by decide +kernel), ?_⟩
    refine ⟨_, rfl, r, dr0, _, rfl, hr0, rF_no _ _ (by decide +kernel) (by decide +kernel), r, a, i, ns, _, rfl, ah.rd, ah.sq, e1, fun H1 r1 b1 => ?_⟩
    have hH1 := house_but ah.hs hr0 b1
    refine ⟨d, h, j, rfl, hH1, ah.good, fun H2 d' hH2 k2 => ?_⟩
    refine ⟨(by show 1 ≤ sizeLine; decide), fun q nq => ?_⟩
    exact k _ d' q (behind_of (i := i) ah.hs hH1 r1 b1 hH2 k2 nq rfl)
theorem scA_order : FnScope ["house", "best"] ["house"] (defScope s_answer_order) := ⟨rfl, rfl, rfl, by decide +kernel, rfl, by decide +kernel, by decide +kernel⟩
theorem okA_order (T : Txt K mg A) : FnOk P w K mg base CX0 7 A.f_answer_order A.d_answer_order ["house"] (spA_order A) := by
  have GB : FnOk P w K mg base CX0 6 A.f_best_run A.d_best_run ["house"] (spS_best A) := okS_best T
  have GV : FnOk P w K mg base CX0 1 A.f_average_in_millionths A.d_average_in_millionths ["run"] (spU_avg A) := okU_avg T
  refine T.F_answer_order.ok scA_order (fun vs H Q E h => ?_) (fun cdv A1 outer s H vs Q E hr h => ?_)
  · obtain ⟨d, h, rfl, _⟩ := h
    rfl
  · obtain ⟨d, h, rfl, hH, g, k⟩ := h
    have hr1 : Room 1 _ := hr.mono (by decide)
    refine ⟨_, pss_cons (ps_set (i := 1) scA_order.nd rfl (Or.inl rfl) (pe_call GB hr rfl T.g_best_run T.k_best_run T.b_best_run .nil pass0 (pa_cons (pv 0) pa_nil)))
      (pss_one (ps_ret (pe_op op_cat (pe_op op_cat (pe_lst (pa_cons (pe_callB call_len_seq (by rfl) T.no_len PySem.boot_len (pa_cons (pe_fld (pv 1) rfl) pa_nil)) pa_nil)) (pe_fld (pv 1) rfl))
        (pe_lst (pa_cons (pe_call GV hr1 rfl T.g_average_in_millionths T.k_average_in_millionths T.b_average_in_millionths .nil pass0 (pa_cons (pv 1) pa_nil)) pa_nil))))), ?_⟩
    refine ⟨_, rfl, d, h, rfl, hH, g, fun H1 b s1 rb => ?_⟩
    have l6 : (h.best h.rest.length).length ≤ 6 := by
      have e1 := all_length _ _ _ (best_FM h.rest.length h g.firm rfl).mem
      have e2 := rest_le h
      have e3 := g.t6
      omega
    revert rb l6 k
    generalize h.best h.rest.length = o
    intro k rb l6
    obtain ⟨db, lo, h1, h2⟩ := id rb
    refine ⟨_, rfl, b, A.c_Run, db, _, _, rfl, h1, T.cl_Run, T.n_Run_order, uF_order _ _ _ _ _ _, lo, _, rfl, .inl (SqL.of h2), (by show 1 ≤ sizeLine; decide), fun p1 np1 => ?_⟩
    have s2 := same_new (o := .lst [V.int (((nL o).length : Nat) : Int)]) np1
    refine ⟨_, rfl, b, A.c_Run, db, _, _, rfl, s2 _ _ h1, T.cl_Run, T.n_Run_order, uF_order _ _ _ _ _ _, p1, lo, _, _, rfl, rfl, upd_same, s2 _ _ h2, Nat.le_of_lt (room_of (by rw [nL_length]; show 1 + o.length ≤ 1000000; omega)), fun p2 np2 => ?_⟩
    have s3 := Same.trans s2 (same_new (o := .lst ([V.int (((nL o).length : Nat) : Int)] ++ nL o)) np2)
    refine ⟨_, rfl, h, b, o, rfl, g, rb.same s3, l6, (by show 1 ≤ sizeLine; decide), fun p3 np3 => ?_⟩
    have hp2 : upd (upd H1 p1 (.lst [V.int (((nL o).length : Nat) : Int)])) p2 (.lst ([V.int (((nL o).length : Nat) : Int)] ++ nL o)) p2 = some (.lst ([V.int (((nL o).length : Nat) : Int)] ++ nL o)) := upd_same
    refine ⟨p2, p3, _, _, rfl, rfl, upd_at hp2 (ne_of_none hp2 np3), upd_same, Nat.le_of_lt (room_of (by rw [List.length_append, nL_length]; show 1 + o.length + 1 ≤ 1000000; omega)), fun p4 np4 => ?_⟩
    have s4 := Same.trans s3 (same_new (o := .lst [nI (h.shown o)]) np3)
    refine k _ p4 (Same.trans s1 (Same.trans s4 (same_new np4))) ((Same.trans s1 s4).free np4) ?_
    rw [upd_same, nL_length]
    show some (HO.lst ([nI o.length] ++ nL o ++ [nI (h.shown o)])) = some (HO.lst (nI o.length :: nL (o ++ [h.shown o])))
    rw [nL_append]
    rfl
theorem scA_price : FnScope ["house", "reader", "run"] ["house", "reader"] (defScope s_answer_price) := ⟨rfl, rfl, rfl, by decide +kernel, rfl, by decide +kernel, by decide +kernel⟩
theorem okA_price (T : Txt K mg A) : FnOk P w K mg base CX0 5 A.f_answer_price A.d_answer_price ["house", "reader"] (spA_price K A) := by
  have GR : FnOk P w K mg base CX0 2 A.f_Reader_read_row A.d_Reader_read_row ["self"] (spR_row K A) := okR_row T
  have GW : FnOk P w K mg base CX0 4 A.f_run_of_row A.d_run_of_row ["house", "row"] (spS_row K A) := okS_row T
  have GV : FnOk P w K mg base CX0 1 A.f_average_in_millionths A.d_average_in_millionths ["run"] (spU_avg A) := okU_avg T
  refine T.F_answer_price.ok scA_price (fun vs H Q E h => ?_) (fun cdv A1 outer s H vs Q E hr h => ?_)
  · obtain ⟨d, h, r, a, i, ns, n, l, rfl, _⟩ := h
    rfl
  · obtain ⟨d, h, r, a, i, ns, n, l, rfl, ah, e1, el, k⟩ := h
    obtain ⟨t1, z1⟩ := T.z_NO_ORDER
    have hr1 : Room 1 _ := hr.mono (by decide)
    have hr2 : Room 2 _ := hr.mono (by decide)
    refine ⟨_, pss_cons (ps_set (i := 2) scA_price.nd rfl (Or.inl rfl) (pe_call GW hr rfl T.g_run_of_row T.k_run_of_row T.b_run_of_row .nil pass0 (pa_cons (pv 0) (pa_cons (pe_meth0 (pv 1) T.cl_Reader T.m_Reader_read_row GR hr2 T.b_Reader_read_row .nil pass0) pa_nil))))
      (pss_cons (ps_if (pt_cmpR op_isN (pv 2) pe_non (nomark _)) (pss_one (ps_ret (pe_lst (pa_cons (pe_gI z1 rfl) pa_nil)))) pss_nil)
      (pss_one (ps_ret (pe_lst (pa_cons (pe_call GV hr1 rfl T.g_average_in_millionths T.k_average_in_millionths T.b_average_in_millionths .nil pass0 (pa_cons (pv 2) pa_nil)) (pa_cons (pe_fld (pv 2) rfl) pa_nil)))))), ?_⟩
    obtain ⟨dr0, hr0⟩ := ah.rd
    refine ⟨_, rfl, _, rfl, r, dr0, _, rfl, hr0, rF_no _ _ (by decide +kernel) (by decide +kernel), r, a, i, ns, n, rfl, ah.rd, ah.sq, e1, fun H1 p r1 b1 np hp => ?_⟩
    have hH1 := house_but ah.hs hr0 b1
    rw [el] at hp
    refine ⟨d, h, p, l, rfl, hH1, ah.good, SqL.of hp, fun H2 q s2 c2 rq => ?_, fun H2 s2 c2 => ?_⟩
    · obtain ⟨l6, _⟩ := ah.good.can6 c2
      obtain ⟨dq, lo, h1, h2⟩ := id rq
      refine ⟨_, rfl, rfl, _, rfl, if_false_of (decide_eq_false (by intro z; cases z)) ?_⟩
      refine ⟨_, rfl, h, q, l, rfl, ah.good, rq, l6, _, rfl, q, A.c_Run, dq, _, _, rfl, h1, T.cl_Run, T.n_Run_length, uF_length _ _ _ _ _ _, (by show 2 ≤ sizeLine; decide), fun p3 np3 => ?_⟩
      refine k _ p3 ?_
      rw [step_price_yes c2]
      exact behind_same hH1 r1 b1 (Same.trans s2 (same_new np3)) (s2.free np3) upd_same
    · refine ⟨_, rfl, rfl, _, rfl, if_true_of (decide_eq_true rfl) ?_⟩
      refine ⟨(by show 1 ≤ sizeLine; decide), fun p3 np3 => ?_⟩
      refine k _ p3 ?_
      rw [step_price_no c2]
      exact behind_same hH1 r1 b1 (Same.trans s2 (same_new np3)) (s2.free np3) upd_same
theorem scA_within : FnScope ["house", "reader", "run"] ["house", "reader"] (defScope s_answer_within) := ⟨rfl, rfl, rfl, by decide +kernel, rfl, by decide +kernel, by decide +kernel⟩
theorem okA_within (T : Txt K mg A) : FnOk P w K mg base CX0 6 A.f_answer_within A.d_answer_within ["house", "reader"] (spA_within K A) := by
  have GN : FnOk P w K mg base CX0 1 A.f_Reader_read_number A.d_Reader_read_number ["self"] (spR_num K A) := okR_num T
  have GW : FnOk P w K mg base CX0 5 A.f_run_within A.d_run_within ["house", "time"] (spS_within A) := okS_within T
  have GV : FnOk P w K mg base CX0 1 A.f_chance_in_millionths A.d_chance_in_millionths ["run"] (spU_chance A) := okU_chance T
  refine T.F_answer_within.ok scA_within (fun vs H Q E h => ?_) (fun cdv A1 outer s H vs Q E hr h => ?_)
  · obtain ⟨d, h, r, a, i, ns, b, rfl, _⟩ := h
    rfl
  · obtain ⟨d, h, r, a, i, ns, b, rfl, ah, e1, k⟩ := h
    have hr1 : Room 1 _ := hr.mono (by decide)
    refine ⟨_, pss_cons (ps_set (i := 2) scA_within.nd rfl (Or.inl rfl) (pe_call GW hr rfl T.g_run_within T.k_run_within T.b_run_within .nil pass0 (pa_cons (pv 0) (pa_cons (pe_meth0 (pv 1) T.cl_Reader T.m_Reader_read_number GN hr1 T.b_Reader_read_number .nil pass0) pa_nil))))
      (pss_one (ps_ret (pe_op op_cat (pe_lst (pa_cons (pe_call GV hr1 rfl T.g_chance_in_millionths T.k_chance_in_millionths T.b_chance_in_millionths .nil pass0 (pa_cons (pv 2) pa_nil)) (pa_cons (pe_fld (pv 2) rfl) pa_nil))) (pe_fld (pv 2) rfl)))), ?_⟩
    obtain ⟨dr0, hr0⟩ := ah.rd
    refine ⟨_, rfl, _, rfl, r, dr0, _, rfl, hr0, rF_no _ _ (by decide +kernel) (by decide +kernel), r, a, i, ns, _, rfl, ah.rd, ah.sq, e1, fun H1 r1 b1 => ?_⟩
    have hH1 := house_but ah.hs hr0 b1
    refine ⟨d, h, b, rfl, hH1, ah.good, fun H2 q s2 rq => ?_⟩
    obtain ⟨l6, lt⟩ := ah.good.can6 (within_can h b).1
    have w0 : 0 < h.whole := by have := ah.good.w2; omega
    have ec := chance_is w0 lt
    have k' : ∀ (H' : Hp) (p : Addr), Behind A H H' d d h r a (i + 1) p (Rp08Neutral.out ⟨((Rp08.MILLION * (h.whole ^ (h.within b).length - alive h (h.within b)) / h.whole ^ (h.within b).length : Nat) : Int), h.long (h.within b) :: h.within b⟩) → Q (.ref p) H' := by
      rw [← ec]
      exact k
    revert rq l6 k'
    generalize h.within b = o
    intro rq l6 k'
    obtain ⟨dq, lo, h1, h2⟩ := id rq
    refine ⟨_, rfl, h, q, o, rfl, ah.good, rq, l6, _, rfl, q, A.c_Run, dq, _, _, rfl, h1, T.cl_Run, T.n_Run_length, uF_length _ _ _ _ _ _, (by show 2 ≤ sizeLine; decide), fun p3 np3 => ?_⟩
    have s3 := same_new (o := .lst [nI (Rp08.MILLION * (h.whole ^ o.length - alive h o) / h.whole ^ o.length), nI (h.long o)]) np3
    refine ⟨_, rfl, q, A.c_Run, dq, _, _, rfl, s3 _ _ h1, T.cl_Run, T.n_Run_order, uF_order _ _ _ _ _ _, p3, lo, _, _, rfl, rfl, upd_same, s3 _ _ h2, Nat.le_of_lt (room_of (by rw [nL_length]; show 2 + o.length ≤ 1000000; omega)), fun p4 np4 => ?_⟩
    refine k' _ p4 (behind_same hH1 r1 b1 (Same.trans s2 (Same.trans s3 (same_new np4))) ((Same.trans s2 s3).free np4) ?_)
    rw [upd_same, nL_cast]
    rfl
theorem scA_open : FnScope ["house", "numbers"] ["house"] (defScope s_answer_open_tests) := ⟨rfl, rfl, rfl, by decide +kernel, rfl, by decide +kernel, by decide +kernel⟩
theorem okA_open (T : Txt K mg A) : FnOk P w K mg base CX0 4 A.f_answer_open_tests A.d_answer_open_tests ["house"] (spA_open A) := by
  have GE : FnOk P w K mg base CX0 3 A.f_empty_run A.d_empty_run ["house"] (spU_empty A) := okU_empty T
  have GN : FnOk P w K mg base CX0 2 A.f_next_tests A.d_next_tests ["house", "run"] (spU_next A) := okU_next T
  refine T.F_answer_open_tests.ok scA_open (fun vs H Q E h => ?_) (fun cdv A1 outer s H vs Q E hr h => ?_)
  · obtain ⟨d, h, rfl, _⟩ := h
    rfl
  · obtain ⟨d, h, rfl, hH, g, k⟩ := h
    have hr2 : Room 2 _ := hr.mono (by decide)
    refine ⟨_, pss_cons (ps_set (i := 1) scA_open.nd rfl (Or.inl rfl) (pe_call GN hr2 rfl T.g_next_tests T.k_next_tests T.b_next_tests .nil pass0 (pa_cons (pv 0) (pa_cons (pe_call GE hr rfl T.g_empty_run T.k_empty_run T.b_empty_run .nil pass0 (pa_cons (pv 0) pa_nil)) pa_nil))))
      (pss_one (ps_ret (pe_op op_cat (pe_lst (pa_cons (pe_callB call_len_seq (by rfl) T.no_len PySem.boot_len (pa_cons (pv 1) pa_nil)) pa_nil)) (pv 1)))), ?_⟩
    refine ⟨_, rfl, _, rfl, d, h, rfl, hH, fun H1 p s1 r1 => ?_⟩
    refine ⟨d, h, p, [], rfl, hH.same s1, g, r1.at, Nat.zero_le _, fun H2 q s2 nq hq => ?_⟩
    have hq' : H2 q = some (.lst (nL h.open_)) := hq
    have o6 : h.open_.length ≤ 6 := open_le6 g.t6
    refine ⟨_, rfl, q, _, rfl, .inl (SqL.of hq'), (by show 1 ≤ sizeLine; decide), fun p3 np3 => ?_⟩
    have s3 := same_new (o := .lst [V.int (((nL h.open_).length : Nat) : Int)]) np3
    refine ⟨_, rfl, p3, q, _, _, rfl, rfl, upd_same, s3 _ _ hq', Nat.le_of_lt (room_of (by rw [nL_length]; show 1 + h.open_.length ≤ 1000000; omega)), fun p4 np4 => ?_⟩
    refine k _ p4 (Same.trans s1 (Same.trans s2 (Same.trans s3 (same_new np4)))) ((Same.trans s1 (Same.trans s2 s3)).free np4) ?_
    rw [upd_same, nL_length]
    rfl
end
end Tf
set_option Elab.async false
set_option maxRecDepth 100000
set_option maxHeartbeats 2000000
namespace Tf
open PySem PySem.Spec PyProof.Rows L2
/-! ### A call's state and answer, told by what was read -/
theorem good_step {h : Rp08.House} (g : Good h) {c : List (List Int)} (a : Rp08Neutral.asked1 c = true) : Good (Rp08Neutral.step h c).1 := by
  unfold Rp08Neutral.step
  cases e : Rp08Neutral.callOf c with
  | none => exact g
  | some x =>
    show Good (Rp08.step h x).1
    cases x with
    | begins d l =>
      show Good (if _ then _ else _ : Rp08.House × Rp08.Ans).1
      split
      · exact g
      · rename_i z
        exact good_begins z
    | test t f v ns =>
      have hl : ns.length ≤ 10 := by
        unfold Rp08Neutral.callOf at e
        split at e <;> cases e
        unfold Rp08Neutral.asked1 Rp08Neutral.row32 at a
        simp only [Bool.and_eq_true, decide_eq_true_eq] at a
        unfold Rp08Neutral.nats
        rw [List.length_map]
        exact a.2.2.2.1
      by_cases c1 : t < 1 ∨ 10000 < t ∨ h.whole ≤ f ∨ h.setups.length ≤ v
      · rw [step_test_1 c1]
        exact g
      · have on : 1 ≤ t ∧ t ≤ 10000 ∧ f < h.whole ∧ v < h.setups.length := by omega
        by_cases c2 : h.tests.length = 6
        · rw [step_test_7 on c2]
          exact g
        · cases c3 : fits 0 h.tests.length ns with
          | false =>
            rw [step_test_2 on c2 c3]
            exact g
          | true =>
            rw [step_test_0 on c2 c3]
            exact g.add on.1 on.2.1 on.2.2.1 on.2.2.2 (by have := g.t6; omega) c3 hl
    | pass i =>
      by_cases c1 : h.tests.length ≤ i
      · rw [step_pass_2 c1]
        exact g
      · have c1' : i < h.tests.length := by omega
        cases c2 : h.passed.contains i with
        | true =>
          rw [step_pass_4 c1' c2]
          exact g
        | false =>
          cases c3 : (h.at_ i).needs.all h.passed.contains with
          | false =>
            rw [step_pass_5 c1' c2 c3]
            exact g
          | true =>
            rw [step_pass_0 c1' c2 c3]
            exact g.behind c1' (by simpa using c2)
    | order => exact g
    | price o =>
      show Good (if _ then _ else _ : Rp08.House × Rp08.Ans).1
      split <;> exact g
    | within b => exact g
    | open_ => exact g
theorem behind_trans {A : Ad} {H H1 H' : Hp} {d d' : HD} {h' : Rp08.House} {r a : Addr} {j : Nat} {p : Addr} {ans : List Int} (b : But r H H1) (x : Behind A H1 H' d d' h' r a j p ans) : Behind A H H' d d' h' r a j p ans := by
  obtain ⟨dr, hr⟩ := x.rd
  refine ⟨x.hs, x.rd, x.da, fun c o e e1 e2 e3 e4 => x.fr c o (b _ _ e e4) e1 e2 e3 e4, fun c z => ?_, fun c o e e1 e2 e3 e4 => x.ap c o (b _ _ e e4) e1 e2 e3 e4, x.out⟩
  rcases x.own c z with y | y
  · exact .inl y
  · obtain ⟨xs, hc⟩ := x.hs.owns z
    exact .inr (b.free y (ne_of hc hr (by intro z; cases z)))
theorem read_cons {l t : List Int} {c : List (List Int)} (h : Read l c t) : ∃ x r, l = x :: r := by
  cases h <;> exact ⟨_, _, rfl⟩
/-- a call that answers one number -/
theorem neutral_one {h : Rp08.House} {c : List (List Int)} {x : Rp08.Call} (e : Rp08Neutral.callOf c = some x) (z : (Rp08.step h x).2.l = []) : Rp08Neutral.step h c = ((Rp08.step h x).1, [(Rp08.step h x).2.v]) := by
  unfold Rp08Neutral.step
  rw [e]
  show (_, Rp08Neutral.out (Rp08.step h x).2) = _
  unfold Rp08Neutral.out
  rw [z]
  rfl
theorem one_begins (h : Rp08.House) (d : Nat) (l : List Nat) : (Rp08.step h (.begins d l)).2.l = [] := by
  show (if _ then _ else _ : Rp08.House × Rp08.Ans).2.l = []
  split <;> rfl
theorem one_test (h : Rp08.House) (t f e : Nat) (l : List Nat) : (Rp08.step h (.test t f e l)).2.l = [] := by
  show (if _ then _ else if _ then _ else if _ then _ else _ : Rp08.House × Rp08.Ans).2.l = []
  split
  · rfl
  · split
    · rfl
    · split <;> rfl
theorem one_pass (h : Rp08.House) (i : Nat) : (Rp08.step h (.pass i)).2.l = [] := by
  show (if _ then _ else if _ then _ else if _ then _ else _ : Rp08.House × Rp08.Ans).2.l = []
  split
  · rfl
  · split
    · rfl
    · split <;> rfl
def spA_call (K : PySem.W.Frag) (A : Ad) : Sp := fun vs H Q _ => ∃ (d : HD) (h : Rp08.House) (r a : Addr) (i : Nat) (ns : List Int) (c : List (List Int)) (t : List Int), vs = [.ref d.a, .ref r] ∧ Ahead K A H d h r a i ns ∧ (∀ z ∈ ns, 0 ≤ z) ∧ Read (ns.drop i) c t ∧ Rp08Neutral.asked1 c = true ∧
  ∀ (H' : Hp) (d' : HD) (p : Addr) (j : Nat), ns.drop j = t → i < j → Behind A H H' d d' (Rp08Neutral.step h c).1 r a j p (Rp08Neutral.step h c).2 → Q (.ref p) H'
section
variable {P : Program} {w : World} {K : PySem.W.Frag} {mg : Str → Option Value} {base : Heap} {A : Ad}
theorem scA_call : FnScope ["house", "reader", "call"] ["house", "reader"] (defScope s_answer_call) := ⟨rfl, rfl, rfl, by decide +kernel, rfl, by decide +kernel, by decide +kernel⟩
theorem ne_int {i j : Int} (h : i ≠ j) : decide (V.int i = V.int j) = false := decide_eq_false fun z => h (V.int.inj z)
theorem row_nat {ns : List Int} (pos : ∀ z ∈ ns, 0 ≤ z) (i n : Nat) : ((ns.drop i).take n).map V.int = nL (((ns.drop i).take n).map Int.toNat) := nL_toNat _ fun z hz => pos z (List.mem_of_mem_drop (List.mem_of_mem_take hz))
theorem okA_call (T : Txt K mg A) : FnOk P w K mg base CX0 8 A.f_answer_call A.d_answer_call ["house", "reader"] (spA_call K A) := by
  have GN : FnOk P w K mg base CX0 1 A.f_Reader_read_number A.d_Reader_read_number ["self"] (spR_num K A) := okR_num T
  have GB : FnOk P w K mg base CX0 3 A.f_answer_begins A.d_answer_begins ["house", "reader"] (spA_begins K A) := okA_begins T
  have GT : FnOk P w K mg base CX0 4 A.f_answer_test A.d_answer_test ["house", "reader"] (spA_test K A) := okA_test T
  have GP : FnOk P w K mg base CX0 3 A.f_answer_pass_test A.d_answer_pass_test ["house", "reader"] (spA_pass K A) := okA_pass T
  have GO : FnOk P w K mg base CX0 7 A.f_answer_order A.d_answer_order ["house"] (spA_order A) := okA_order T
  have GC : FnOk P w K mg base CX0 5 A.f_answer_price A.d_answer_price ["house", "reader"] (spA_price K A) := okA_price T
  have GW : FnOk P w K mg base CX0 6 A.f_answer_within A.d_answer_within ["house", "reader"] (spA_within K A) := okA_within T
  have GX : FnOk P w K mg base CX0 4 A.f_answer_open_tests A.d_answer_open_tests ["house"] (spA_open A) := okA_open T
  refine T.F_answer_call.ok scA_call (fun vs H Q E h => ?_) (fun cdv A1 outer s H vs Q E hr h => ?_)
  · obtain ⟨d, h, r, a, i, ns, c, t, rfl, _⟩ := h
    rfl
  · obtain ⟨d, h, r, a, i, ns, c, t, rfl, ah, pos, rd, ask, k⟩ := h
    have hr1 : Room 1 _ := hr.mono (by decide)
    have hr3 : Room 3 _ := hr.mono (by decide)
    have hr4 : Room 4 _ := hr.mono (by decide)
    have hr5 : Room 5 _ := hr.mono (by decide)
    have hr6 : Room 6 _ := hr.mono (by decide)
    obtain ⟨t1, z1⟩ := T.z_BEGINS
    obtain ⟨t2, z2⟩ := T.z_TEST
    obtain ⟨t3, z3⟩ := T.z_PASS_TEST
    obtain ⟨t4, z4⟩ := T.z_ORDER
    obtain ⟨t5, z5⟩ := T.z_PRICE
    obtain ⟨t6, z6⟩ := T.z_WITHIN
    obtain ⟨t7, z7⟩ := T.z_OPEN_TESTS
    refine ⟨_, pss_cons (ps_set (i := 2) scA_call.nd rfl (Or.inl rfl) (pe_meth0 (pv 1) T.cl_Reader T.m_Reader_read_number GN hr1 T.b_Reader_read_number .nil pass0))
      (pss_cons (ps_if (pt_cmpR op_eq (pv 2) (pe_gI z1 rfl) (nomark _)) (pss_one (ps_ret (pe_call GB hr3 rfl T.g_answer_begins T.k_answer_begins T.b_answer_begins .nil pass0 (pa_cons (pv 0) (pa_cons (pv 1) pa_nil))))) pss_nil)
      (pss_cons (ps_if (pt_cmpR op_eq (pv 2) (pe_gI z2 rfl) (nomark _)) (pss_one (ps_ret (pe_call GT hr4 rfl T.g_answer_test T.k_answer_test T.b_answer_test .nil pass0 (pa_cons (pv 0) (pa_cons (pv 1) pa_nil))))) pss_nil)
      (pss_cons (ps_if (pt_cmpR op_eq (pv 2) (pe_gI z3 rfl) (nomark _)) (pss_one (ps_ret (pe_call GP hr3 rfl T.g_answer_pass_test T.k_answer_pass_test T.b_answer_pass_test .nil pass0 (pa_cons (pv 0) (pa_cons (pv 1) pa_nil))))) pss_nil)
      (pss_cons (ps_if (pt_cmpR op_eq (pv 2) (pe_gI z4 rfl) (nomark _)) (pss_one (ps_ret (pe_call GO hr rfl T.g_answer_order T.k_answer_order T.b_answer_order .nil pass0 (pa_cons (pv 0) pa_nil)))) pss_nil)
      (pss_cons (ps_if (pt_cmpR op_eq (pv 2) (pe_gI z5 rfl) (nomark _)) (pss_one (ps_ret (pe_call GC hr5 rfl T.g_answer_price T.k_answer_price T.b_answer_price .nil pass0 (pa_cons (pv 0) (pa_cons (pv 1) pa_nil))))) pss_nil)
      (pss_cons (ps_if (pt_cmpR op_eq (pv 2) (pe_gI z6 rfl) (nomark _)) (pss_one (ps_ret (pe_call GW hr6 rfl T.g_answer_within T.k_answer_within T.b_answer_within .nil pass0 (pa_cons (pv 0) (pa_cons (pv 1) pa_nil))))) pss_nil)
      (pss_cons (ps_if (pt_cmpR op_eq (pv 2) (pe_gI z7 rfl) (nomark _)) (pss_one (ps_ret (pe_call GX hr4 rfl T.g_answer_open_tests T.k_answer_open_tests T.b_answer_open_tests .nil pass0 (pa_cons (pv 0) pa_nil)))) pss_nil)
      (pss_one ps_never)))))))), ?_⟩
    obtain ⟨dr0, hr0⟩ := ah.rd
    obtain ⟨x, l, ex⟩ := read_cons rd
    obtain ⟨ex1, ex2, ilt⟩ := drop_cons ex
    refine ⟨_, rfl, r, dr0, _, rfl, hr0, rF_no _ _ (by decide +kernel) (by decide +kernel), r, a, i, ns, _, rfl, ah.rd, ah.sq, ex1, fun H1 r1 b1 => ?_⟩
    have ah1 : Ahead K A H1 d h r a (i + 1) ns := ⟨house_but ah.hs hr0 b1, ah.good, r1, SqL.but b1 hr0 ah.sq⟩
    rw [ex] at rd
    refine ⟨_, rfl, rfl, _, rfl, ?_⟩
    have nat : ∀ z, z ∈ ns.drop (i + 1) → ∃ n : Nat, z = (n : Int) := fun z hz => ⟨z.toNat, (Int.toNat_of_nonneg (pos z (List.mem_of_mem_drop hz))).symm⟩
    cases rd with
    | begins dd n rr h0 h1 =>
      refine if_true_of rfl ?_
      obtain ⟨m, rfl⟩ : ∃ m : Nat, n = (m : Int) := ⟨n.toNat, (Int.toNat_of_nonneg h0).symm⟩
      obtain ⟨v, rfl⟩ := nat dd (by rw [ex2]; simp)
      obtain ⟨f1, f2, _⟩ := drop_cons ex2
      obtain ⟨f3, f4, _⟩ := drop_cons f2
      have f4' : ns.drop (i + 1 + 2) = rr := f4
      refine ⟨_, rfl, _, rfl, d, h, r, a, i + 1, ns, v, m, _, rfl, ah1, f1, f3, row_nat pos _ _, ?_, fun H2 d' p bh => ?_⟩
      · rw [f4', List.length_map, List.length_take]
        unfold Rp08Neutral.asked1 Rp08Neutral.row32 at ask
        simp only [Bool.and_eq_true, decide_eq_true_eq, List.length_take] at ask
        have := ask.2.1
        rw [Int.toNat_natCast] at this
        omega
      · rw [f4'] at bh
        refine k H2 d' p (i + 1 + 2 + m) ?_ (by omega) ?_
        · rw [← List.drop_drop, f4']
          rfl
        · rw [neutral_one (x := .begins v ((rr.take m).map Int.toNat)) rfl (one_begins _ _ _)]
          exact behind_trans b1 bh
    | test tt ff ee n rr h0 h1 =>
      refine if_false_of (ne_int (by decide)) ?_
      refine ⟨_, rfl, rfl, _, rfl, ?_⟩
      refine if_true_of rfl ?_
      obtain ⟨m, rfl⟩ : ∃ m : Nat, n = (m : Int) := ⟨n.toNat, (Int.toNat_of_nonneg h0).symm⟩
      obtain ⟨u1, rfl⟩ := nat tt (by rw [ex2]; simp)
      obtain ⟨u2, rfl⟩ := nat ff (by rw [ex2]; simp)
      obtain ⟨u3, rfl⟩ := nat ee (by rw [ex2]; simp)
      obtain ⟨f1, g1, _⟩ := drop_cons ex2
      obtain ⟨f2, g2, _⟩ := drop_cons g1
      obtain ⟨f3, g3, _⟩ := drop_cons g2
      obtain ⟨f4, g4, _⟩ := drop_cons g3
      have g4' : ns.drop (i + 1 + 4) = rr := g4
      refine ⟨_, rfl, _, rfl, d, h, r, a, i + 1, ns, u1, u2, u3, m, _, rfl, ah1, f1, f2, f3, f4, row_nat pos _ _, fun H2 d' p bh => ?_⟩
      rw [g4'] at bh
      refine k H2 d' p (i + 1 + 4 + m) ?_ (by omega) ?_
      · rw [← List.drop_drop, g4']
        rfl
      · rw [neutral_one (x := .test u1 u2 u3 ((rr.take m).map Int.toNat)) rfl (one_test _ _ _ _ _)]
        exact behind_trans b1 bh
    | pass jj rr =>
      refine if_false_of (ne_int (by decide)) ?_
      refine ⟨_, rfl, rfl, _, rfl, ?_⟩
      refine if_false_of (ne_int (by decide)) ?_
      refine ⟨_, rfl, rfl, _, rfl, ?_⟩
      refine if_true_of rfl ?_
      obtain ⟨u1, rfl⟩ := nat jj (by rw [ex2]; simp)
      obtain ⟨f1, g1, _⟩ := drop_cons ex2
      refine ⟨_, rfl, _, rfl, d, h, r, a, i + 1, ns, u1, rfl, ah1, f1, fun H2 d' p bh => ?_⟩
      refine k H2 d' p (i + 1 + 1) g1 (by omega) ?_
      rw [neutral_one (x := .pass u1) rfl (one_pass _ _)]
      exact behind_trans b1 bh
    | order rr =>
      refine if_false_of (ne_int (by decide)) ?_
      refine ⟨_, rfl, rfl, _, rfl, ?_⟩
      refine if_false_of (ne_int (by decide)) ?_
      refine ⟨_, rfl, rfl, _, rfl, ?_⟩
      refine if_false_of (ne_int (by decide)) ?_
      refine ⟨_, rfl, rfl, _, rfl, ?_⟩
      refine if_true_of rfl ?_
      refine ⟨_, rfl, d, h, rfl, ah1.hs, ah1.good, fun H2 p s2 np hp => ?_⟩
      refine k H2 d p (i + 1) ex2 (by omega) (behind_same ah1.hs r1 b1 s2 np ?_)
      rw [hp, nL_cast]
      rfl
    | price n rr h0 h1 =>
      refine if_false_of (ne_int (by decide)) ?_
      refine ⟨_, rfl, rfl, _, rfl, ?_⟩
      refine if_false_of (ne_int (by decide)) ?_
      refine ⟨_, rfl, rfl, _, rfl, ?_⟩
      refine if_false_of (ne_int (by decide)) ?_
      refine ⟨_, rfl, rfl, _, rfl, ?_⟩
      refine if_false_of (ne_int (by decide)) ?_
      refine ⟨_, rfl, rfl, _, rfl, ?_⟩
      refine if_true_of rfl ?_
      obtain ⟨m, rfl⟩ : ∃ m : Nat, n = (m : Int) := ⟨n.toNat, (Int.toNat_of_nonneg h0).symm⟩
      obtain ⟨f1, g1, _⟩ := drop_cons ex2
      refine ⟨_, rfl, _, rfl, d, h, r, a, i + 1, ns, m, _, rfl, ah1, f1, row_nat pos _ _, fun H2 p bh => ?_⟩
      rw [g1] at bh
      refine k H2 d p (i + 1 + 1 + m) ?_ (by omega) ?_
      · rw [← List.drop_drop, g1]
        rfl
      · have e : Rp08Neutral.step h [[4], rr.take ((m : Nat) : Int).toNat] = (h, Rp08Neutral.out (Rp08.step h (.price ((rr.take m).map Int.toNat))).2) := by
          show ((Rp08.step h (.price ((rr.take m).map Int.toNat))).1, _) = _
          have e1 : (Rp08.step h (.price ((rr.take m).map Int.toNat))).1 = h := by
            show (if _ then _ else _ : Rp08.House × Rp08.Ans).1 = h
            split <;> rfl
          rw [e1]
          rfl
        rw [e]
        exact behind_trans b1 bh
    | within b rr =>
      refine if_false_of (ne_int (by decide)) ?_
      refine ⟨_, rfl, rfl, _, rfl, ?_⟩
      refine if_false_of (ne_int (by decide)) ?_
      refine ⟨_, rfl, rfl, _, rfl, ?_⟩
      refine if_false_of (ne_int (by decide)) ?_
      refine ⟨_, rfl, rfl, _, rfl, ?_⟩
      refine if_false_of (ne_int (by decide)) ?_
      refine ⟨_, rfl, rfl, _, rfl, ?_⟩
      refine if_false_of (ne_int (by decide)) ?_
      refine ⟨_, rfl, rfl, _, rfl, ?_⟩
      refine if_true_of rfl ?_
      obtain ⟨u1, rfl⟩ := nat b (by rw [ex2]; simp)
      obtain ⟨f1, g1, _⟩ := drop_cons ex2
      refine ⟨_, rfl, _, rfl, d, h, r, a, i + 1, ns, u1, rfl, ah1, f1, fun H2 p bh => ?_⟩
      exact k H2 d p (i + 1 + 1) g1 (by omega) (behind_trans b1 bh)
    | opens rr =>
      refine if_false_of (ne_int (by decide)) ?_
      refine ⟨_, rfl, rfl, _, rfl, ?_⟩
      refine if_false_of (ne_int (by decide)) ?_
      refine ⟨_, rfl, rfl, _, rfl, ?_⟩
      refine if_false_of (ne_int (by decide)) ?_
      refine ⟨_, rfl, rfl, _, rfl, ?_⟩
      refine if_false_of (ne_int (by decide)) ?_
      refine ⟨_, rfl, rfl, _, rfl, ?_⟩
      refine if_false_of (ne_int (by decide)) ?_
      refine ⟨_, rfl, rfl, _, rfl, ?_⟩
      refine if_false_of (ne_int (by decide)) ?_
      refine ⟨_, rfl, rfl, _, rfl, ?_⟩
      refine if_true_of rfl ?_
      refine ⟨_, rfl, d, h, rfl, ah1.hs, ah1.good, fun H2 p s2 np hp => ?_⟩
      refine k H2 d p (i + 1) ex2 (by omega) (behind_same ah1.hs r1 b1 s2 np ?_)
      rw [hp, nL_cast]
      rfl
end
end Tf
set_option Elab.async false
set_option maxRecDepth 100000
set_option maxHeartbeats 2000000
namespace Tf
open PySem PySem.Spec PyProof.Rows L2
/-! ### The whole list of calls -/
def spAns (K : PySem.W.Frag) : Sp := fun vs H Q _ => ∃ (a : Addr) (ns : List Int), vs = [.ref a] ∧ SqL K H a (ns.map V.int) ∧ (∀ z ∈ ns, 0 ≤ z) ∧ PyRp08.answers_asked ns = true ∧
  ∀ (H' : Hp) (p : Addr), H' p = some (.lst ((PyRp08.answers ns).map V.int)) → Q (.ref p) H'
theorem told_cons (a : List Int) (l : List (List Int)) : PyFlat.told (a :: l) = ((a.length : Nat) : Int) :: (a ++ PyFlat.told l) := by
  unfold PyFlat.told
  rw [List.flatMap_cons]
  rfl
theorem reads_inv {l : List Int} {cs : List (List (List Int))} (h : Reads l cs) : (l = [] ∧ cs = []) ∨ ∃ c t cs', Read l c t ∧ Reads t cs' ∧ cs = c :: cs' := by
  cases h with
  | nil => exact .inl ⟨rfl, rfl⟩
  | cons h r => exact .inr ⟨_, _, _, h, r, rfl⟩
section
variable {P : Program} {w : World} {K : PySem.W.Frag} {mg : Str → Option Value} {base : Heap} {A : Ad}
theorem scAns : FnScope ["calls", "house", "reader", "told", "answer"] ["calls"] (defScope s_answers) := ⟨rfl, rfl, rfl, by decide +kernel, rfl, by decide +kernel, by decide +kernel⟩
theorem ok_answers (T : Txt K mg A) : FnOk P w K mg base CX0 9 A.f_answers A.d_answers ["calls"] (spAns K) := by
  have GH : FnOk P w K mg base CX0 1 A.f_House_init A.d_House_init ["self"] (spH_init A) := okH_init T
  have GR : FnOk P w K mg base CX0 1 A.f_Reader_init A.d_Reader_init ["self", "calls"] (spR_init A) := okR_init T
  have GE : FnOk P w K mg base CX0 1 A.f_Reader_at_end A.d_Reader_at_end ["self"] (spR_end K A) := okR_end T
  have GC : FnOk P w K mg base CX0 8 A.f_answer_call A.d_answer_call ["house", "reader"] (spA_call K A) := okA_call T
  refine T.F_answers.ok scAns (fun vs H Q E h => ?_) (fun cdv A1 outer s H vs Q E hr h => ?_)
  · obtain ⟨a, ns, rfl, _⟩ := h
    rfl
  · obtain ⟨a, ns, rfl, hS, pos, ask, k⟩ := h
    obtain ⟨cs0, rd0, as0, _, hlen, due0⟩ := due ask
    have hr1 : Room 1 _ := hr.mono (by decide)
    have hr2 : Room 2 _ := hr.mono (by decide)
    refine ⟨_, pss_cons (ps_set (i := 1) scAns.nd rfl (Or.inl rfl) (pe_make0 T.mk_House GH hr2 rfl T.g_House T.b_House_init .nil pass0))
      (pss_cons (ps_set (i := 2) scAns.nd rfl (Or.inl rfl) (pe_make T.mk_Reader GR hr2 rfl T.g_Reader T.b_Reader_init .nil pass0 (pa_cons (pv 0) pa_nil)))
      (pss_cons (ps_set (i := 3) scAns.nd rfl (Or.inl rfl) (pe_lst pa_nil))
      (pss_cons (ps_while PassesOwn.never (pt_not (pt_val (pe_meth0 (pv 2) T.cl_Reader T.m_Reader_at_end GE hr1 T.b_Reader_at_end .nil pass0)))
        (pss_cons (ps_set (i := 4) scAns.nd rfl (Or.inl rfl) (pe_call GC hr rfl T.g_answer_call T.k_answer_call T.b_answer_call .nil pass0 (pa_cons (pv 1) (pa_cons (pv 2) pa_nil))))
        (pss_cons (ps_expr (pe_bm PySem.F.plainAttrs_list PySem.F.slot_list_append PySem.F.type_list_append mt_append (pv 3) (pa_cons (pe_callB call_len_seq (by rfl) T.no_len PySem.boot_len (pa_cons (pv 4) pa_nil)) pa_nil)))
        (pss_one (ps_expr (pe_bm PySem.F.plainAttrs_list PySem.F.slot_list_extend PySem.F.type_list_extend mt_extend (pv 3) (pa_cons (pv 4) pa_nil)))))))
      (pss_one (ps_ret (pv 3)))))), ?_⟩
    intro x dx nx nd ne
    refine ⟨x, dx, rfl, upd_same, fun H1 d0 ea hH1 b1 fo => ⟨rfl, ?_⟩⟩
    have s1 : Same H H1 := Same.made nx nd b1
    have nul : ∀ {y : Addr}, upd (upd H dx (.own x)) x (.ins A.c_House dx []) y = none → H y = none := fun {y} z => by
      cases q : H y with
      | none => rfl
      | some o =>
        have e1 : y ≠ x := ne_of_none q nx
        have e2 : y ≠ dx := ne_of_none q nd
        rw [upd_ne e1, upd_ne e2, q] at z
        cases z
    refine ⟨_, rfl, ?_⟩
    intro r dr nr ndr ner
    refine ⟨r, dr, a, rfl, upd_same, fun H2 r2 b2 => ⟨rfl, ?_⟩⟩
    have s12 : Same H1 H2 := Same.made nr ndr b2
    refine ⟨Nat.zero_le _, fun tl ntl => ?_⟩
    have s23 : Same H2 (upd H2 tl (.lst [])) := same_new ntl
    have hH2 := hH1.same s12
    have fr : H r = none := s1.free nr
    have ftl : H tl = none := (Same.trans s1 s12).free ntl
    obtain ⟨dr2, hr2'⟩ := id r2
    have no0 : ¬ Owns d0 tl := fun z => by
      obtain ⟨xs, hx⟩ := hH2.owns z
      rw [ntl] at hx
      cases hx
    refine ⟨fun m σ H' => ∃ (d : HD) (h : Rp08.House) (i : Nat) (cs : List (List (List Int))) (v : Option V) (done : List Int), m = ns.length - i ∧ σ = [some (.ref a), some (.ref x), some (.ref r), some (.ref tl), v] ∧ d.a = x ∧ Same H H' ∧ HouseAt A H' d h ∧ Good h ∧
        ReaderAt A H' r a i ∧ Reads (ns.drop i) cs ∧ (∀ c ∈ cs, Rp08Neutral.asked1 c = true) ∧ H' tl = some (.lst (done.map V.int)) ∧ PyRp08.answers ns = done ++ PyFlat.told (PyFlat.played Rp08Neutral.step h cs) ∧ ¬ Owns d tl ∧ (∀ b, Owns d b → H b = none),
      ⟨_, d0, Rp08.init, 0, cs0, none, [], rfl, rfl, ea, Same.trans s1 (Same.trans s12 s23), hH2.same s23, good_init, ⟨dr2, s23 _ _ hr2'⟩, rd0, as0, upd_same, due0, no0, fun b z => nul (fo b z)⟩, ?_⟩
    rintro m σ H3 ⟨d, h, i, cs, v, done, rfl, rfl, ed, s3, hH3, g3, r3, rd3, as3, tl3, due3, no, f0⟩
    have n1 : tl ≠ d.lt := fun z => no (.inl z)
    have n2 : tl ≠ d.lp := fun z => no (.inr (.inl z))
    have f1 : H d.lt = none := f0 _ (.inl rfl)
    have f2 : H d.lp = none := f0 _ (.inr (.inl rfl))
    have sq3 := s3.seq hS
    obtain ⟨dr3, hr3⟩ := id r3
    refine ⟨_, rfl, r, dr3, _, rfl, hr3, rF_no _ _ (by decide +kernel) (by decide +kernel), r, a, i, ns, rfl, r3, sq3, _, rfl, ?_⟩
    rcases reads_inv rd3 with ⟨e0, rfl⟩ | ⟨c, t, cs', rc, rs, rfl⟩
    · have il : ns.length ≤ i := List.drop_eq_nil_iff.mp e0
      refine if_false_of (by rw [decide_eq_true il]; rfl) ?_
      refine ⟨_, rfl, k H3 tl ?_⟩
      rw [due3, tl3]
      show some (HO.lst (done.map V.int)) = some (HO.lst ((done ++ []).map V.int))
      rw [List.append_nil]
    · obtain ⟨x0, l0, ex⟩ := read_cons rc
      obtain ⟨_, _, ilt⟩ := drop_cons ex
      refine if_true_of (by rw [decide_eq_false (by omega)]; rfl) ?_
      have ac := as3 c (List.mem_cons_self ..)
      refine ⟨fun σ' H' => ∃ m', m' < ns.length - i ∧ _, fun σ' H' z => z, ?_⟩
      refine ⟨_, rfl, _, rfl, d, h, r, a, i, ns, c, t, by rw [ed]; rfl, ⟨hH3, g3, r3, sq3⟩, pos, rc, ac, fun H4 d' p j ej ij bh => ?_⟩
      have due4 : PyRp08.answers ns = done ++ (((Rp08Neutral.step h c).2.length : Nat) : Int) :: ((Rp08Neutral.step h c).2 ++ PyFlat.told (PyFlat.played Rp08Neutral.step (Rp08Neutral.step h c).1 cs')) := by
        rw [due3]
        show done ++ PyFlat.told ((Rp08Neutral.step h c).2 :: PyFlat.played Rp08Neutral.step (Rp08Neutral.step h c).1 cs') = _
        rw [told_cons]
      have len4 : done.length + 1 + (Rp08Neutral.step h c).2.length ≤ 10000000 := by
        have := hlen
        rw [due4, List.length_append, List.length_cons, List.length_append] at this
        omega
      have ng := good_step g3 ac
      revert bh due4 len4 ng
      generalize (Rp08Neutral.step h c).2 = ans
      generalize (Rp08Neutral.step h c).1 = h'
      intro bh due4 len4 ng
      have tx : tl ≠ d.a := ne_of tl3 hH3.ins (by intro z; cases z)
      have tr : tl ≠ r := ne_of tl3 hr3 (by intro z; cases z)
      have tl4 := bh.fr _ _ tl3 tx n1 n2 tr
      have tp : tl ≠ p := bh.ap _ _ tl3 tx n1 n2 tr
      have s4 : Same H H4 := fun b o e => bh.fr _ _ (s3 _ _ e) (by rw [ed]; exact ne_of_none e nx) (ne_of_none e f1) (ne_of_none e f2) (ne_of_none e fr)
      have no4 : ¬ Owns d' tl := fun z => by
        rcases bh.own tl z with y | y
        · exact no y
        · rw [tl3] at y
          cases y
      have f4 : ∀ b, Owns d' b → H b = none := fun b z => by
        rcases bh.own b z with y | y
        · exact f0 b y
        · exact s3.free y
      refine ⟨_, rfl, .inl ⟨rfl, _, SqL.of tl4⟩, _, rfl, p, _, rfl, .inl (SqL.of bh.out), tl, _, _, rfl, rfl, tl4, ?_, ?_⟩
      · rw [List.length_map]
        exact Nat.lt_of_le_of_lt (show done.length ≤ 10000000 by omega) (by decide)
      · have out5 := upd_at (u := .lst (done.map V.int ++ [V.int (((ans.map V.int).length : Nat) : Int)])) bh.out tp.symm
        refine ⟨_, rfl, .inl ⟨rfl, _, SqL.of upd_same⟩, _, rfl, tl, p, _, _, rfl, rfl, upd_same, out5, ?_, ?_⟩
        · rw [List.length_append, List.length_map, List.length_map, List.length_singleton]
          exact Nat.le_trans len4 (by decide)
        · obtain ⟨dr4, hr4⟩ := bh.rd
          refine ⟨ns.length - j, by omega, d', h', j, cs', _, done ++ (((ans.length : Nat) : Int) :: ans), rfl, rfl, bh.da.trans ed, ?_, ?_, ng, ?_, ?_, fun c' hc' => as3 c' (List.mem_cons_of_mem _ hc'), ?_, ?_, no4, f4⟩
          · intro b o e
            have nb := ne_of_none e ftl
            rw [upd_ne nb, upd_ne nb]
            exact s4 _ _ e
          · exact (bh.hs.off tl4 no4).off upd_same no4
          · exact ⟨dr4, upd_at (upd_at hr4 tr.symm) tr.symm⟩
          · rw [ej]
            exact rs
          · rw [upd_same, List.length_map, List.map_append]
            show some (HO.lst (done.map V.int ++ [V.int ((ans.length : Nat) : Int)] ++ ans.map V.int)) = some (HO.lst (done.map V.int ++ (V.int ((ans.length : Nat) : Int) :: ans.map V.int)))
            rw [List.append_assoc]
            rfl
          · rw [due4, List.append_assoc]
            rfl
end
end Tf
set_option Elab.async false
set_option maxRecDepth 100000
set_option maxHeartbeats 8000000
namespace Tf
open PySem PySem.Spec PyProof.Rows L2
open PySem.W (Codec)
theorem all_mk {P : Program} {w : World} {K : PySem.W.Frag} {h : Heap} {mg : Str → Option Value} {fa : Addr} (X : K.In h) (G : h.Ns mainGlobals mg) (hfa : mg "answers" = some (.ref fa))
    {CTest : Addr}
    {CHouse : Addr}
    {CReader : Addr}
    {CRun : Addr}
    {fsettings_fit : Addr} {odsettings_fit ansettings_fit : Option Addr} {slsettings_fit : Array (Option Value)} {ocsettings_fit kVsettings_fit dcsettings_fit pmsettings_fit cdsettings_fit ctsettings_fit : Value}
    {fneeds_fit : Addr} {odneeds_fit anneeds_fit : Option Addr} {slneeds_fit : Array (Option Value)} {ocneeds_fit kVneeds_fit dcneeds_fit pmneeds_fit cdneeds_fit ctneeds_fit : Value}
    {fneeds_met : Addr} {odneeds_met anneeds_met : Option Addr} {slneeds_met : Array (Option Value)} {ocneeds_met kVneeds_met dcneeds_met pmneeds_met cdneeds_met ctneeds_met : Value}
    {fTest_init : Addr} {odTest_init anTest_init : Option Addr} {slTest_init : Array (Option Value)} {ocTest_init kVTest_init dcTest_init pmTest_init cdTest_init ctTest_init : Value}
    {fHouse_init : Addr} {odHouse_init anHouse_init : Option Addr} {slHouse_init : Array (Option Value)} {ocHouse_init kVHouse_init dcHouse_init pmHouse_init cdHouse_init ctHouse_init : Value}
    {fHouse_begins : Addr} {odHouse_begins anHouse_begins : Option Addr} {slHouse_begins : Array (Option Value)} {ocHouse_begins kVHouse_begins dcHouse_begins pmHouse_begins cdHouse_begins ctHouse_begins : Value}
    {fHouse_add_test : Addr} {odHouse_add_test anHouse_add_test : Option Addr} {slHouse_add_test : Array (Option Value)} {ocHouse_add_test kVHouse_add_test dcHouse_add_test pmHouse_add_test cdHouse_add_test ctHouse_add_test : Value}
    {fHouse_pass_test : Addr} {odHouse_pass_test anHouse_pass_test : Option Addr} {slHouse_pass_test : Array (Option Value)} {ocHouse_pass_test kVHouse_pass_test dcHouse_pass_test pmHouse_pass_test cdHouse_pass_test ctHouse_pass_test : Value}
    {fHouse_time_with_setting : Addr} {odHouse_time_with_setting anHouse_time_with_setting : Option Addr} {slHouse_time_with_setting : Array (Option Value)} {ocHouse_time_with_setting kVHouse_time_with_setting dcHouse_time_with_setting pmHouse_time_with_setting cdHouse_time_with_setting ctHouse_time_with_setting : Value}
    {fReader_init : Addr} {odReader_init anReader_init : Option Addr} {slReader_init : Array (Option Value)} {ocReader_init kVReader_init dcReader_init pmReader_init cdReader_init ctReader_init : Value}
    {fReader_at_end : Addr} {odReader_at_end anReader_at_end : Option Addr} {slReader_at_end : Array (Option Value)} {ocReader_at_end kVReader_at_end dcReader_at_end pmReader_at_end cdReader_at_end ctReader_at_end : Value}
    {fReader_read_number : Addr} {odReader_read_number anReader_read_number : Option Addr} {slReader_read_number : Array (Option Value)} {ocReader_read_number kVReader_read_number dcReader_read_number pmReader_read_number cdReader_read_number ctReader_read_number : Value}
    {fReader_read_row : Addr} {odReader_read_row anReader_read_row : Option Addr} {slReader_read_row : Array (Option Value)} {ocReader_read_row kVReader_read_row dcReader_read_row pmReader_read_row cdReader_read_row ctReader_read_row : Value}
    {fRun_init : Addr} {odRun_init anRun_init : Option Addr} {slRun_init : Array (Option Value)} {ocRun_init kVRun_init dcRun_init pmRun_init cdRun_init ctRun_init : Value}
    {fempty_run : Addr} {odempty_run anempty_run : Option Addr} {slempty_run : Array (Option Value)} {ocempty_run kVempty_run dcempty_run pmempty_run cdempty_run ctempty_run : Value}
    {flonger_run : Addr} {odlonger_run anlonger_run : Option Addr} {sllonger_run : Array (Option Value)} {oclonger_run kVlonger_run dclonger_run pmlonger_run cdlonger_run ctlonger_run : Value}
    {fnext_tests : Addr} {odnext_tests annext_tests : Option Addr} {slnext_tests : Array (Option Value)} {ocnext_tests kVnext_tests dcnext_tests pmnext_tests cdnext_tests ctnext_tests : Value}
    {frun_of_row : Addr} {odrun_of_row anrun_of_row : Option Addr} {slrun_of_row : Array (Option Value)} {ocrun_of_row kVrun_of_row dcrun_of_row pmrun_of_row cdrun_of_row ctrun_of_row : Value}
    {faverage_in_millionths : Addr} {odaverage_in_millionths anaverage_in_millionths : Option Addr} {slaverage_in_millionths : Array (Option Value)} {ocaverage_in_millionths kVaverage_in_millionths dcaverage_in_millionths pmaverage_in_millionths cdaverage_in_millionths ctaverage_in_millionths : Value}
    {fchance_in_millionths : Addr} {odchance_in_millionths anchance_in_millionths : Option Addr} {slchance_in_millionths : Array (Option Value)} {occhance_in_millionths kVchance_in_millionths dcchance_in_millionths pmchance_in_millionths cdchance_in_millionths ctchance_in_millionths : Value}
    {fall_runs : Addr} {odall_runs anall_runs : Option Addr} {slall_runs : Array (Option Value)} {ocall_runs kVall_runs dcall_runs pmall_runs cdall_runs ctall_runs : Value}
    {fwhole_runs : Addr} {odwhole_runs anwhole_runs : Option Addr} {slwhole_runs : Array (Option Value)} {ocwhole_runs kVwhole_runs dcwhole_runs pmwhole_runs cdwhole_runs ctwhole_runs : Value}
    {fbest_run : Addr} {odbest_run anbest_run : Option Addr} {slbest_run : Array (Option Value)} {ocbest_run kVbest_run dcbest_run pmbest_run cdbest_run ctbest_run : Value}
    {fshows_more : Addr} {odshows_more anshows_more : Option Addr} {slshows_more : Array (Option Value)} {ocshows_more kVshows_more dcshows_more pmshows_more cdshows_more ctshows_more : Value}
    {frun_within : Addr} {odrun_within anrun_within : Option Addr} {slrun_within : Array (Option Value)} {ocrun_within kVrun_within dcrun_within pmrun_within cdrun_within ctrun_within : Value}
    {fanswer_begins : Addr} {odanswer_begins ananswer_begins : Option Addr} {slanswer_begins : Array (Option Value)} {ocanswer_begins kVanswer_begins dcanswer_begins pmanswer_begins cdanswer_begins ctanswer_begins : Value}
    {fanswer_test : Addr} {odanswer_test ananswer_test : Option Addr} {slanswer_test : Array (Option Value)} {ocanswer_test kVanswer_test dcanswer_test pmanswer_test cdanswer_test ctanswer_test : Value}
    {fanswer_pass_test : Addr} {odanswer_pass_test ananswer_pass_test : Option Addr} {slanswer_pass_test : Array (Option Value)} {ocanswer_pass_test kVanswer_pass_test dcanswer_pass_test pmanswer_pass_test cdanswer_pass_test ctanswer_pass_test : Value}
    {fanswer_order : Addr} {odanswer_order ananswer_order : Option Addr} {slanswer_order : Array (Option Value)} {ocanswer_order kVanswer_order dcanswer_order pmanswer_order cdanswer_order ctanswer_order : Value}
    {fanswer_price : Addr} {odanswer_price ananswer_price : Option Addr} {slanswer_price : Array (Option Value)} {ocanswer_price kVanswer_price dcanswer_price pmanswer_price cdanswer_price ctanswer_price : Value}
    {fanswer_within : Addr} {odanswer_within ananswer_within : Option Addr} {slanswer_within : Array (Option Value)} {ocanswer_within kVanswer_within dcanswer_within pmanswer_within cdanswer_within ctanswer_within : Value}
    {fanswer_open_tests : Addr} {odanswer_open_tests ananswer_open_tests : Option Addr} {slanswer_open_tests : Array (Option Value)} {ocanswer_open_tests kVanswer_open_tests dcanswer_open_tests pmanswer_open_tests cdanswer_open_tests ctanswer_open_tests : Value}
    {fanswer_call : Addr} {odanswer_call ananswer_call : Option Addr} {slanswer_call : Array (Option Value)} {ocanswer_call kVanswer_call dcanswer_call pmanswer_call cdanswer_call ctanswer_call : Value}
    {fanswers : Addr} {odanswers ananswers : Option Addr} {slanswers : Array (Option Value)} {ocanswers kVanswers dcanswers pmanswers cdanswers ctanswers : Value}
    {tOUT_OF_RANGE : Tok}
    {tNOT_THERE : Tok}
    {tPASSED_ALREADY : Tok}
    {tNEEDS_NOT_PASSED : Tok}
    {tNO_ORDER : Tok}
    {tTOO_MANY_TESTS : Tok}
    {tLEAST_WHOLE : Tok}
    {tMOST_WHOLE : Tok}
    {tMOST_SETTINGS : Tok}
    {tMOST_TESTS : Tok}
    {tLONGEST_TIME : Tok}
    {tNO_SETTING : Tok}
    {tMILLION : Tok}
    {tBEGINS : Tok}
    {tTEST : Tok}
    {tPASS_TEST : Tok}
    {tORDER : Tok}
    {tPRICE : Tok}
    {tWITHIN : Tok}
    {tOPEN_TESTS : Tok}
    (aCTest : PySem.W.nsIn K mainGlobals "Test" = some (some (.ref CTest)))
    (pgTest : PySem.W.plainGet K CTest Str.empty = true)
    (hdTest : PySem.W.hasDictIn K CTest = true)
    (poTest : PySem.W.plainOver K CTest = true)
    (saTest : PySem.W.findIn K (.ref CTest) "__setattr__" = some (some (.builtin "object.__setattr__")))
    (mkTest : PySem.W.makesIn K CTest = true)
    (kcTest : PySem.W.keepIn K (.ref CTest) = true)
    (nTesttime : PySem.W.findIn K (.ref CTest) "time" = some none)
    (nTestfailures : PySem.W.findIn K (.ref CTest) "failures" = some none)
    (nTestsetting : PySem.W.findIn K (.ref CTest) "setting" = some none)
    (nTestneeds : PySem.W.findIn K (.ref CTest) "needs" = some none)
    (aCHouse : PySem.W.nsIn K mainGlobals "House" = some (some (.ref CHouse)))
    (pgHouse : PySem.W.plainGet K CHouse Str.empty = true)
    (hdHouse : PySem.W.hasDictIn K CHouse = true)
    (poHouse : PySem.W.plainOver K CHouse = true)
    (saHouse : PySem.W.findIn K (.ref CHouse) "__setattr__" = some (some (.builtin "object.__setattr__")))
    (mkHouse : PySem.W.makesIn K CHouse = true)
    (kcHouse : PySem.W.keepIn K (.ref CHouse) = true)
    (nHousewhole : PySem.W.findIn K (.ref CHouse) "whole" = some none)
    (nHousesettings : PySem.W.findIn K (.ref CHouse) "settings" = some none)
    (nHousetests : PySem.W.findIn K (.ref CHouse) "tests" = some none)
    (nHousepassed : PySem.W.findIn K (.ref CHouse) "passed" = some none)
    (nHouseup : PySem.W.findIn K (.ref CHouse) "up" = some none)
    (aCReader : PySem.W.nsIn K mainGlobals "Reader" = some (some (.ref CReader)))
    (pgReader : PySem.W.plainGet K CReader Str.empty = true)
    (hdReader : PySem.W.hasDictIn K CReader = true)
    (poReader : PySem.W.plainOver K CReader = true)
    (saReader : PySem.W.findIn K (.ref CReader) "__setattr__" = some (some (.builtin "object.__setattr__")))
    (mkReader : PySem.W.makesIn K CReader = true)
    (kcReader : PySem.W.keepIn K (.ref CReader) = true)
    (nReadercalls : PySem.W.findIn K (.ref CReader) "calls" = some none)
    (nReaderplace : PySem.W.findIn K (.ref CReader) "place" = some none)
    (aCRun : PySem.W.nsIn K mainGlobals "Run" = some (some (.ref CRun)))
    (pgRun : PySem.W.plainGet K CRun Str.empty = true)
    (hdRun : PySem.W.hasDictIn K CRun = true)
    (poRun : PySem.W.plainOver K CRun = true)
    (saRun : PySem.W.findIn K (.ref CRun) "__setattr__" = some (some (.builtin "object.__setattr__")))
    (mkRun : PySem.W.makesIn K CRun = true)
    (kcRun : PySem.W.keepIn K (.ref CRun) = true)
    (nRunorder : PySem.W.findIn K (.ref CRun) "order" = some none)
    (nRunup : PySem.W.findIn K (.ref CRun) "up" = some none)
    (nRunlength : PySem.W.findIn K (.ref CRun) "length" = some none)
    (nRunspent : PySem.W.findIn K (.ref CRun) "spent" = some none)
    (nRunalive : PySem.W.findIn K (.ref CRun) "alive" = some none)
    (nRunscale : PySem.W.findIn K (.ref CRun) "scale" = some none)
    (asettings_fit : PySem.W.nsIn K mainGlobals "settings_fit" = some (some (.ref fsettings_fit)))
    (lsettings_fit : K.lookup fsettings_fit = some ⟨ocsettings_fit, odsettings_fit, .func (PySem.W.fnOf "settings_fit" "settings_fit" (defArgs s_settings_fit) (defBody s_settings_fit) (defScope s_settings_fit) .none kVsettings_fit dcsettings_fit pmsettings_fit ansettings_fit cdsettings_fit ctsettings_fit), slsettings_fit⟩)
    (csettings_fit : PySem.W.codeIn K cdsettings_fit "settings_fit" = true)
    (ksettings_fit : PySem.W.keepIn K (.ref fsettings_fit) = true)
    (aneeds_fit : PySem.W.nsIn K mainGlobals "needs_fit" = some (some (.ref fneeds_fit)))
    (lneeds_fit : K.lookup fneeds_fit = some ⟨ocneeds_fit, odneeds_fit, .func (PySem.W.fnOf "needs_fit" "needs_fit" (defArgs s_needs_fit) (defBody s_needs_fit) (defScope s_needs_fit) .none kVneeds_fit dcneeds_fit pmneeds_fit anneeds_fit cdneeds_fit ctneeds_fit), slneeds_fit⟩)
    (cneeds_fit : PySem.W.codeIn K cdneeds_fit "needs_fit" = true)
    (kneeds_fit : PySem.W.keepIn K (.ref fneeds_fit) = true)
    (aneeds_met : PySem.W.nsIn K mainGlobals "needs_met" = some (some (.ref fneeds_met)))
    (lneeds_met : K.lookup fneeds_met = some ⟨ocneeds_met, odneeds_met, .func (PySem.W.fnOf "needs_met" "needs_met" (defArgs s_needs_met) (defBody s_needs_met) (defScope s_needs_met) .none kVneeds_met dcneeds_met pmneeds_met anneeds_met cdneeds_met ctneeds_met), slneeds_met⟩)
    (cneeds_met : PySem.W.codeIn K cdneeds_met "needs_met" = true)
    (kneeds_met : PySem.W.keepIn K (.ref fneeds_met) = true)
    (aTest_init : PySem.W.findIn K (.ref CTest) "__init__" = some (some (.ref fTest_init)))
    (iTest_init : PySem.W.isFn K (.ref fTest_init) = true)
    (lTest_init : K.lookup fTest_init = some ⟨ocTest_init, odTest_init, .func (PySem.W.fnOf "__init__" "Test.__init__" (defArgs s_Test_init) (defBody s_Test_init) (defScope s_Test_init) .none kVTest_init dcTest_init pmTest_init anTest_init cdTest_init ctTest_init), slTest_init⟩)
    (cTest_init : PySem.W.codeIn K cdTest_init "Test.__init__" = true)
    (kTest_init : PySem.W.keepIn K (.ref fTest_init) = true)
    (aHouse_init : PySem.W.findIn K (.ref CHouse) "__init__" = some (some (.ref fHouse_init)))
    (iHouse_init : PySem.W.isFn K (.ref fHouse_init) = true)
    (lHouse_init : K.lookup fHouse_init = some ⟨ocHouse_init, odHouse_init, .func (PySem.W.fnOf "__init__" "House.__init__" (defArgs s_House_init) (defBody s_House_init) (defScope s_House_init) .none kVHouse_init dcHouse_init pmHouse_init anHouse_init cdHouse_init ctHouse_init), slHouse_init⟩)
    (cHouse_init : PySem.W.codeIn K cdHouse_init "House.__init__" = true)
    (kHouse_init : PySem.W.keepIn K (.ref fHouse_init) = true)
    (aHouse_begins : PySem.W.findIn K (.ref CHouse) "begins" = some (some (.ref fHouse_begins)))
    (iHouse_begins : PySem.W.isFn K (.ref fHouse_begins) = true)
    (lHouse_begins : K.lookup fHouse_begins = some ⟨ocHouse_begins, odHouse_begins, .func (PySem.W.fnOf "begins" "House.begins" (defArgs s_House_begins) (defBody s_House_begins) (defScope s_House_begins) .none kVHouse_begins dcHouse_begins pmHouse_begins anHouse_begins cdHouse_begins ctHouse_begins), slHouse_begins⟩)
    (cHouse_begins : PySem.W.codeIn K cdHouse_begins "House.begins" = true)
    (kHouse_begins : PySem.W.keepIn K (.ref fHouse_begins) = true)
    (aHouse_add_test : PySem.W.findIn K (.ref CHouse) "add_test" = some (some (.ref fHouse_add_test)))
    (iHouse_add_test : PySem.W.isFn K (.ref fHouse_add_test) = true)
    (lHouse_add_test : K.lookup fHouse_add_test = some ⟨ocHouse_add_test, odHouse_add_test, .func (PySem.W.fnOf "add_test" "House.add_test" (defArgs s_House_add_test) (defBody s_House_add_test) (defScope s_House_add_test) .none kVHouse_add_test dcHouse_add_test pmHouse_add_test anHouse_add_test cdHouse_add_test ctHouse_add_test), slHouse_add_test⟩)
    (cHouse_add_test : PySem.W.codeIn K cdHouse_add_test "House.add_test" = true)
    (kHouse_add_test : PySem.W.keepIn K (.ref fHouse_add_test) = true)
    (aHouse_pass_test : PySem.W.findIn K (.ref CHouse) "pass_test" = some (some (.ref fHouse_pass_test)))
    (iHouse_pass_test : PySem.W.isFn K (.ref fHouse_pass_test) = true)
    (lHouse_pass_test : K.lookup fHouse_pass_test = some ⟨ocHouse_pass_test, odHouse_pass_test, .func (PySem.W.fnOf "pass_test" "House.pass_test" (defArgs s_House_pass_test) (defBody s_House_pass_test) (defScope s_House_pass_test) .none kVHouse_pass_test dcHouse_pass_test pmHouse_pass_test anHouse_pass_test cdHouse_pass_test ctHouse_pass_test), slHouse_pass_test⟩)
    (cHouse_pass_test : PySem.W.codeIn K cdHouse_pass_test "House.pass_test" = true)
    (kHouse_pass_test : PySem.W.keepIn K (.ref fHouse_pass_test) = true)
    (aHouse_time_with_setting : PySem.W.findIn K (.ref CHouse) "time_with_setting" = some (some (.ref fHouse_time_with_setting)))
    (iHouse_time_with_setting : PySem.W.isFn K (.ref fHouse_time_with_setting) = true)
    (lHouse_time_with_setting : K.lookup fHouse_time_with_setting = some ⟨ocHouse_time_with_setting, odHouse_time_with_setting, .func (PySem.W.fnOf "time_with_setting" "House.time_with_setting" (defArgs s_House_time_with_setting) (defBody s_House_time_with_setting) (defScope s_House_time_with_setting) .none kVHouse_time_with_setting dcHouse_time_with_setting pmHouse_time_with_setting anHouse_time_with_setting cdHouse_time_with_setting ctHouse_time_with_setting), slHouse_time_with_setting⟩)
    (cHouse_time_with_setting : PySem.W.codeIn K cdHouse_time_with_setting "House.time_with_setting" = true)
    (kHouse_time_with_setting : PySem.W.keepIn K (.ref fHouse_time_with_setting) = true)
    (aReader_init : PySem.W.findIn K (.ref CReader) "__init__" = some (some (.ref fReader_init)))
    (iReader_init : PySem.W.isFn K (.ref fReader_init) = true)
    (lReader_init : K.lookup fReader_init = some ⟨ocReader_init, odReader_init, .func (PySem.W.fnOf "__init__" "Reader.__init__" (defArgs s_Reader_init) (defBody s_Reader_init) (defScope s_Reader_init) .none kVReader_init dcReader_init pmReader_init anReader_init cdReader_init ctReader_init), slReader_init⟩)
    (cReader_init : PySem.W.codeIn K cdReader_init "Reader.__init__" = true)
    (kReader_init : PySem.W.keepIn K (.ref fReader_init) = true)
    (aReader_at_end : PySem.W.findIn K (.ref CReader) "at_end" = some (some (.ref fReader_at_end)))
    (iReader_at_end : PySem.W.isFn K (.ref fReader_at_end) = true)
    (lReader_at_end : K.lookup fReader_at_end = some ⟨ocReader_at_end, odReader_at_end, .func (PySem.W.fnOf "at_end" "Reader.at_end" (defArgs s_Reader_at_end) (defBody s_Reader_at_end) (defScope s_Reader_at_end) .none kVReader_at_end dcReader_at_end pmReader_at_end anReader_at_end cdReader_at_end ctReader_at_end), slReader_at_end⟩)
    (cReader_at_end : PySem.W.codeIn K cdReader_at_end "Reader.at_end" = true)
    (kReader_at_end : PySem.W.keepIn K (.ref fReader_at_end) = true)
    (aReader_read_number : PySem.W.findIn K (.ref CReader) "read_number" = some (some (.ref fReader_read_number)))
    (iReader_read_number : PySem.W.isFn K (.ref fReader_read_number) = true)
    (lReader_read_number : K.lookup fReader_read_number = some ⟨ocReader_read_number, odReader_read_number, .func (PySem.W.fnOf "read_number" "Reader.read_number" (defArgs s_Reader_read_number) (defBody s_Reader_read_number) (defScope s_Reader_read_number) .none kVReader_read_number dcReader_read_number pmReader_read_number anReader_read_number cdReader_read_number ctReader_read_number), slReader_read_number⟩)
    (cReader_read_number : PySem.W.codeIn K cdReader_read_number "Reader.read_number" = true)
    (kReader_read_number : PySem.W.keepIn K (.ref fReader_read_number) = true)
    (aReader_read_row : PySem.W.findIn K (.ref CReader) "read_row" = some (some (.ref fReader_read_row)))
    (iReader_read_row : PySem.W.isFn K (.ref fReader_read_row) = true)
    (lReader_read_row : K.lookup fReader_read_row = some ⟨ocReader_read_row, odReader_read_row, .func (PySem.W.fnOf "read_row" "Reader.read_row" (defArgs s_Reader_read_row) (defBody s_Reader_read_row) (defScope s_Reader_read_row) .none kVReader_read_row dcReader_read_row pmReader_read_row anReader_read_row cdReader_read_row ctReader_read_row), slReader_read_row⟩)
    (cReader_read_row : PySem.W.codeIn K cdReader_read_row "Reader.read_row" = true)
    (kReader_read_row : PySem.W.keepIn K (.ref fReader_read_row) = true)
    (aRun_init : PySem.W.findIn K (.ref CRun) "__init__" = some (some (.ref fRun_init)))
    (iRun_init : PySem.W.isFn K (.ref fRun_init) = true)
    (lRun_init : K.lookup fRun_init = some ⟨ocRun_init, odRun_init, .func (PySem.W.fnOf "__init__" "Run.__init__" (defArgs s_Run_init) (defBody s_Run_init) (defScope s_Run_init) .none kVRun_init dcRun_init pmRun_init anRun_init cdRun_init ctRun_init), slRun_init⟩)
    (cRun_init : PySem.W.codeIn K cdRun_init "Run.__init__" = true)
    (kRun_init : PySem.W.keepIn K (.ref fRun_init) = true)
    (aempty_run : PySem.W.nsIn K mainGlobals "empty_run" = some (some (.ref fempty_run)))
    (lempty_run : K.lookup fempty_run = some ⟨ocempty_run, odempty_run, .func (PySem.W.fnOf "empty_run" "empty_run" (defArgs s_empty_run) (defBody s_empty_run) (defScope s_empty_run) .none kVempty_run dcempty_run pmempty_run anempty_run cdempty_run ctempty_run), slempty_run⟩)
    (cempty_run : PySem.W.codeIn K cdempty_run "empty_run" = true)
    (kempty_run : PySem.W.keepIn K (.ref fempty_run) = true)
    (alonger_run : PySem.W.nsIn K mainGlobals "longer_run" = some (some (.ref flonger_run)))
    (llonger_run : K.lookup flonger_run = some ⟨oclonger_run, odlonger_run, .func (PySem.W.fnOf "longer_run" "longer_run" (defArgs s_longer_run) (defBody s_longer_run) (defScope s_longer_run) .none kVlonger_run dclonger_run pmlonger_run anlonger_run cdlonger_run ctlonger_run), sllonger_run⟩)
    (clonger_run : PySem.W.codeIn K cdlonger_run "longer_run" = true)
    (klonger_run : PySem.W.keepIn K (.ref flonger_run) = true)
    (anext_tests : PySem.W.nsIn K mainGlobals "next_tests" = some (some (.ref fnext_tests)))
    (lnext_tests : K.lookup fnext_tests = some ⟨ocnext_tests, odnext_tests, .func (PySem.W.fnOf "next_tests" "next_tests" (defArgs s_next_tests) (defBody s_next_tests) (defScope s_next_tests) .none kVnext_tests dcnext_tests pmnext_tests annext_tests cdnext_tests ctnext_tests), slnext_tests⟩)
    (cnext_tests : PySem.W.codeIn K cdnext_tests "next_tests" = true)
    (knext_tests : PySem.W.keepIn K (.ref fnext_tests) = true)
    (arun_of_row : PySem.W.nsIn K mainGlobals "run_of_row" = some (some (.ref frun_of_row)))
    (lrun_of_row : K.lookup frun_of_row = some ⟨ocrun_of_row, odrun_of_row, .func (PySem.W.fnOf "run_of_row" "run_of_row" (defArgs s_run_of_row) (defBody s_run_of_row) (defScope s_run_of_row) .none kVrun_of_row dcrun_of_row pmrun_of_row anrun_of_row cdrun_of_row ctrun_of_row), slrun_of_row⟩)
    (crun_of_row : PySem.W.codeIn K cdrun_of_row "run_of_row" = true)
    (krun_of_row : PySem.W.keepIn K (.ref frun_of_row) = true)
    (aaverage_in_millionths : PySem.W.nsIn K mainGlobals "average_in_millionths" = some (some (.ref faverage_in_millionths)))
    (laverage_in_millionths : K.lookup faverage_in_millionths = some ⟨ocaverage_in_millionths, odaverage_in_millionths, .func (PySem.W.fnOf "average_in_millionths" "average_in_millionths" (defArgs s_average_in_millionths) (defBody s_average_in_millionths) (defScope s_average_in_millionths) .none kVaverage_in_millionths dcaverage_in_millionths pmaverage_in_millionths anaverage_in_millionths cdaverage_in_millionths ctaverage_in_millionths), slaverage_in_millionths⟩)
    (caverage_in_millionths : PySem.W.codeIn K cdaverage_in_millionths "average_in_millionths" = true)
    (kaverage_in_millionths : PySem.W.keepIn K (.ref faverage_in_millionths) = true)
    (achance_in_millionths : PySem.W.nsIn K mainGlobals "chance_in_millionths" = some (some (.ref fchance_in_millionths)))
    (lchance_in_millionths : K.lookup fchance_in_millionths = some ⟨occhance_in_millionths, odchance_in_millionths, .func (PySem.W.fnOf "chance_in_millionths" "chance_in_millionths" (defArgs s_chance_in_millionths) (defBody s_chance_in_millionths) (defScope s_chance_in_millionths) .none kVchance_in_millionths dcchance_in_millionths pmchance_in_millionths anchance_in_millionths cdchance_in_millionths ctchance_in_millionths), slchance_in_millionths⟩)
    (cchance_in_millionths : PySem.W.codeIn K cdchance_in_millionths "chance_in_millionths" = true)
    (kchance_in_millionths : PySem.W.keepIn K (.ref fchance_in_millionths) = true)
    (aall_runs : PySem.W.nsIn K mainGlobals "all_runs" = some (some (.ref fall_runs)))
    (lall_runs : K.lookup fall_runs = some ⟨ocall_runs, odall_runs, .func (PySem.W.fnOf "all_runs" "all_runs" (defArgs s_all_runs) (defBody s_all_runs) (defScope s_all_runs) .none kVall_runs dcall_runs pmall_runs anall_runs cdall_runs ctall_runs), slall_runs⟩)
    (call_runs : PySem.W.codeIn K cdall_runs "all_runs" = true)
    (kall_runs : PySem.W.keepIn K (.ref fall_runs) = true)
    (awhole_runs : PySem.W.nsIn K mainGlobals "whole_runs" = some (some (.ref fwhole_runs)))
    (lwhole_runs : K.lookup fwhole_runs = some ⟨ocwhole_runs, odwhole_runs, .func (PySem.W.fnOf "whole_runs" "whole_runs" (defArgs s_whole_runs) (defBody s_whole_runs) (defScope s_whole_runs) .none kVwhole_runs dcwhole_runs pmwhole_runs anwhole_runs cdwhole_runs ctwhole_runs), slwhole_runs⟩)
    (cwhole_runs : PySem.W.codeIn K cdwhole_runs "whole_runs" = true)
    (kwhole_runs : PySem.W.keepIn K (.ref fwhole_runs) = true)
    (abest_run : PySem.W.nsIn K mainGlobals "best_run" = some (some (.ref fbest_run)))
    (lbest_run : K.lookup fbest_run = some ⟨ocbest_run, odbest_run, .func (PySem.W.fnOf "best_run" "best_run" (defArgs s_best_run) (defBody s_best_run) (defScope s_best_run) .none kVbest_run dcbest_run pmbest_run anbest_run cdbest_run ctbest_run), slbest_run⟩)
    (cbest_run : PySem.W.codeIn K cdbest_run "best_run" = true)
    (kbest_run : PySem.W.keepIn K (.ref fbest_run) = true)
    (ashows_more : PySem.W.nsIn K mainGlobals "shows_more" = some (some (.ref fshows_more)))
    (lshows_more : K.lookup fshows_more = some ⟨ocshows_more, odshows_more, .func (PySem.W.fnOf "shows_more" "shows_more" (defArgs s_shows_more) (defBody s_shows_more) (defScope s_shows_more) .none kVshows_more dcshows_more pmshows_more anshows_more cdshows_more ctshows_more), slshows_more⟩)
    (cshows_more : PySem.W.codeIn K cdshows_more "shows_more" = true)
    (kshows_more : PySem.W.keepIn K (.ref fshows_more) = true)
    (arun_within : PySem.W.nsIn K mainGlobals "run_within" = some (some (.ref frun_within)))
    (lrun_within : K.lookup frun_within = some ⟨ocrun_within, odrun_within, .func (PySem.W.fnOf "run_within" "run_within" (defArgs s_run_within) (defBody s_run_within) (defScope s_run_within) .none kVrun_within dcrun_within pmrun_within anrun_within cdrun_within ctrun_within), slrun_within⟩)
    (crun_within : PySem.W.codeIn K cdrun_within "run_within" = true)
    (krun_within : PySem.W.keepIn K (.ref frun_within) = true)
    (aanswer_begins : PySem.W.nsIn K mainGlobals "answer_begins" = some (some (.ref fanswer_begins)))
    (lanswer_begins : K.lookup fanswer_begins = some ⟨ocanswer_begins, odanswer_begins, .func (PySem.W.fnOf "answer_begins" "answer_begins" (defArgs s_answer_begins) (defBody s_answer_begins) (defScope s_answer_begins) .none kVanswer_begins dcanswer_begins pmanswer_begins ananswer_begins cdanswer_begins ctanswer_begins), slanswer_begins⟩)
    (canswer_begins : PySem.W.codeIn K cdanswer_begins "answer_begins" = true)
    (kanswer_begins : PySem.W.keepIn K (.ref fanswer_begins) = true)
    (aanswer_test : PySem.W.nsIn K mainGlobals "answer_test" = some (some (.ref fanswer_test)))
    (lanswer_test : K.lookup fanswer_test = some ⟨ocanswer_test, odanswer_test, .func (PySem.W.fnOf "answer_test" "answer_test" (defArgs s_answer_test) (defBody s_answer_test) (defScope s_answer_test) .none kVanswer_test dcanswer_test pmanswer_test ananswer_test cdanswer_test ctanswer_test), slanswer_test⟩)
    (canswer_test : PySem.W.codeIn K cdanswer_test "answer_test" = true)
    (kanswer_test : PySem.W.keepIn K (.ref fanswer_test) = true)
    (aanswer_pass_test : PySem.W.nsIn K mainGlobals "answer_pass_test" = some (some (.ref fanswer_pass_test)))
    (lanswer_pass_test : K.lookup fanswer_pass_test = some ⟨ocanswer_pass_test, odanswer_pass_test, .func (PySem.W.fnOf "answer_pass_test" "answer_pass_test" (defArgs s_answer_pass_test) (defBody s_answer_pass_test) (defScope s_answer_pass_test) .none kVanswer_pass_test dcanswer_pass_test pmanswer_pass_test ananswer_pass_test cdanswer_pass_test ctanswer_pass_test), slanswer_pass_test⟩)
    (canswer_pass_test : PySem.W.codeIn K cdanswer_pass_test "answer_pass_test" = true)
    (kanswer_pass_test : PySem.W.keepIn K (.ref fanswer_pass_test) = true)
    (aanswer_order : PySem.W.nsIn K mainGlobals "answer_order" = some (some (.ref fanswer_order)))
    (lanswer_order : K.lookup fanswer_order = some ⟨ocanswer_order, odanswer_order, .func (PySem.W.fnOf "answer_order" "answer_order" (defArgs s_answer_order) (defBody s_answer_order) (defScope s_answer_order) .none kVanswer_order dcanswer_order pmanswer_order ananswer_order cdanswer_order ctanswer_order), slanswer_order⟩)
    (canswer_order : PySem.W.codeIn K cdanswer_order "answer_order" = true)
    (kanswer_order : PySem.W.keepIn K (.ref fanswer_order) = true)
    (aanswer_price : PySem.W.nsIn K mainGlobals "answer_price" = some (some (.ref fanswer_price)))
    (lanswer_price : K.lookup fanswer_price = some ⟨ocanswer_price, odanswer_price, .func (PySem.W.fnOf "answer_price" "answer_price" (defArgs s_answer_price) (defBody s_answer_price) (defScope s_answer_price) .none kVanswer_price dcanswer_price pmanswer_price ananswer_price cdanswer_price ctanswer_price), slanswer_price⟩)
    (canswer_price : PySem.W.codeIn K cdanswer_price "answer_price" = true)
    (kanswer_price : PySem.W.keepIn K (.ref fanswer_price) = true)
    (aanswer_within : PySem.W.nsIn K mainGlobals "answer_within" = some (some (.ref fanswer_within)))
    (lanswer_within : K.lookup fanswer_within = some ⟨ocanswer_within, odanswer_within, .func (PySem.W.fnOf "answer_within" "answer_within" (defArgs s_answer_within) (defBody s_answer_within) (defScope s_answer_within) .none kVanswer_within dcanswer_within pmanswer_within ananswer_within cdanswer_within ctanswer_within), slanswer_within⟩)
    (canswer_within : PySem.W.codeIn K cdanswer_within "answer_within" = true)
    (kanswer_within : PySem.W.keepIn K (.ref fanswer_within) = true)
    (aanswer_open_tests : PySem.W.nsIn K mainGlobals "answer_open_tests" = some (some (.ref fanswer_open_tests)))
    (lanswer_open_tests : K.lookup fanswer_open_tests = some ⟨ocanswer_open_tests, odanswer_open_tests, .func (PySem.W.fnOf "answer_open_tests" "answer_open_tests" (defArgs s_answer_open_tests) (defBody s_answer_open_tests) (defScope s_answer_open_tests) .none kVanswer_open_tests dcanswer_open_tests pmanswer_open_tests ananswer_open_tests cdanswer_open_tests ctanswer_open_tests), slanswer_open_tests⟩)
    (canswer_open_tests : PySem.W.codeIn K cdanswer_open_tests "answer_open_tests" = true)
    (kanswer_open_tests : PySem.W.keepIn K (.ref fanswer_open_tests) = true)
    (aanswer_call : PySem.W.nsIn K mainGlobals "answer_call" = some (some (.ref fanswer_call)))
    (lanswer_call : K.lookup fanswer_call = some ⟨ocanswer_call, odanswer_call, .func (PySem.W.fnOf "answer_call" "answer_call" (defArgs s_answer_call) (defBody s_answer_call) (defScope s_answer_call) .none kVanswer_call dcanswer_call pmanswer_call ananswer_call cdanswer_call ctanswer_call), slanswer_call⟩)
    (canswer_call : PySem.W.codeIn K cdanswer_call "answer_call" = true)
    (kanswer_call : PySem.W.keepIn K (.ref fanswer_call) = true)
    (aanswers : PySem.W.nsIn K mainGlobals "answers" = some (some (.ref fanswers)))
    (lanswers : K.lookup fanswers = some ⟨ocanswers, odanswers, .func (PySem.W.fnOf "answers" "answers" (defArgs s_answers) (defBody s_answers) (defScope s_answers) .none kVanswers dcanswers pmanswers ananswers cdanswers ctanswers), slanswers⟩)
    (canswers : PySem.W.codeIn K cdanswers "answers" = true)
    (kanswers : PySem.W.keepIn K (.ref fanswers) = true)
    (zOUT_OF_RANGE : PySem.W.nsIn K mainGlobals "OUT_OF_RANGE" = some (some (.int (-1) tOUT_OF_RANGE)))
    (zNOT_THERE : PySem.W.nsIn K mainGlobals "NOT_THERE" = some (some (.int (-2) tNOT_THERE)))
    (zPASSED_ALREADY : PySem.W.nsIn K mainGlobals "PASSED_ALREADY" = some (some (.int (-4) tPASSED_ALREADY)))
    (zNEEDS_NOT_PASSED : PySem.W.nsIn K mainGlobals "NEEDS_NOT_PASSED" = some (some (.int (-5) tNEEDS_NOT_PASSED)))
    (zNO_ORDER : PySem.W.nsIn K mainGlobals "NO_ORDER" = some (some (.int (-5) tNO_ORDER)))
    (zTOO_MANY_TESTS : PySem.W.nsIn K mainGlobals "TOO_MANY_TESTS" = some (some (.int (-7) tTOO_MANY_TESTS)))
    (zLEAST_WHOLE : PySem.W.nsIn K mainGlobals "LEAST_WHOLE" = some (some (.int 2 tLEAST_WHOLE)))
    (zMOST_WHOLE : PySem.W.nsIn K mainGlobals "MOST_WHOLE" = some (some (.int 100 tMOST_WHOLE)))
    (zMOST_SETTINGS : PySem.W.nsIn K mainGlobals "MOST_SETTINGS" = some (some (.int 4 tMOST_SETTINGS)))
    (zMOST_TESTS : PySem.W.nsIn K mainGlobals "MOST_TESTS" = some (some (.int 6 tMOST_TESTS)))
    (zLONGEST_TIME : PySem.W.nsIn K mainGlobals "LONGEST_TIME" = some (some (.int 10000 tLONGEST_TIME)))
    (zNO_SETTING : PySem.W.nsIn K mainGlobals "NO_SETTING" = some (some (.int (-1) tNO_SETTING)))
    (zMILLION : PySem.W.nsIn K mainGlobals "MILLION" = some (some (.int 1000000 tMILLION)))
    (zBEGINS : PySem.W.nsIn K mainGlobals "BEGINS" = some (some (.int 0 tBEGINS)))
    (zTEST : PySem.W.nsIn K mainGlobals "TEST" = some (some (.int 1 tTEST)))
    (zPASS_TEST : PySem.W.nsIn K mainGlobals "PASS_TEST" = some (some (.int 2 tPASS_TEST)))
    (zORDER : PySem.W.nsIn K mainGlobals "ORDER" = some (some (.int 3 tORDER)))
    (zPRICE : PySem.W.nsIn K mainGlobals "PRICE" = some (some (.int 4 tPRICE)))
    (zWITHIN : PySem.W.nsIn K mainGlobals "WITHIN" = some (some (.int 5 tWITHIN)))
    (zOPEN_TESTS : PySem.W.nsIn K mainGlobals "OPEN_TESTS" = some (some (.int 6 tOPEN_TESTS)))
    (nolen : PySem.W.nsIn K mainGlobals "len" = some none)
    (noenumerate : PySem.W.nsIn K mainGlobals "enumerate" = some none)
    (noall : PySem.W.nsIn K mainGlobals "all" = some none)
    (nolist : PySem.W.nsIn K mainGlobals "list" = some none)
    (noreversed : PySem.W.nsIn K mainGlobals "reversed" = some none)
    : ∃ fd : FuncData, (∀ (s : Shared) (us : List Value), us.length = (["calls"] : List Str).length → BindsTo s fd ⟨us, []⟩ ((["calls"] : List Str).zip us)) ∧ ∀ base : Heap, K.In base → base.Ns mainGlobals mg → FnOk P w K mg base CX0 9 fa fd ["calls"] (spAns K) := by
  have e := hfa.symm.trans (PySem.W.mg_of X G aanswers)
  cases e
  have Fsettings_fit := fun_mk (st := s_settings_fit) lsettings_fit csettings_fit ksettings_fit
  have bsettings_fit := Fsettings_fit.binds (ps := ["settings"]) fun _ _ _ _ _ _ us hl => match us, hl with | [_], _ => rfl
  have Fneeds_fit := fun_mk (st := s_needs_fit) lneeds_fit cneeds_fit kneeds_fit
  have bneeds_fit := Fneeds_fit.binds (ps := ["needs", "test_count"]) fun _ _ _ _ _ _ us hl => match us, hl with | [_, _], _ => rfl
  have Fneeds_met := fun_mk (st := s_needs_met) lneeds_met cneeds_met kneeds_met
  have bneeds_met := Fneeds_met.binds (ps := ["test", "done"]) fun _ _ _ _ _ _ us hl => match us, hl with | [_, _], _ => rfl
  have FTest_init := fun_mk (st := s_Test_init) lTest_init cTest_init kTest_init
  have bTest_init := FTest_init.binds (ps := ["self", "time", "failures", "setting", "needs"]) fun _ _ _ _ _ _ us hl => match us, hl with | [_, _, _, _, _], _ => rfl
  have FHouse_init := fun_mk (st := s_House_init) lHouse_init cHouse_init kHouse_init
  have bHouse_init := FHouse_init.binds (ps := ["self"]) fun _ _ _ _ _ _ us hl => match us, hl with | [_], _ => rfl
  have FHouse_begins := fun_mk (st := s_House_begins) lHouse_begins cHouse_begins kHouse_begins
  have bHouse_begins := FHouse_begins.binds (ps := ["self", "whole", "settings"]) fun _ _ _ _ _ _ us hl => match us, hl with | [_, _, _], _ => rfl
  have FHouse_add_test := fun_mk (st := s_House_add_test) lHouse_add_test cHouse_add_test kHouse_add_test
  have bHouse_add_test := FHouse_add_test.binds (ps := ["self", "time", "failures", "setting", "needs"]) fun _ _ _ _ _ _ us hl => match us, hl with | [_, _, _, _, _], _ => rfl
  have FHouse_pass_test := fun_mk (st := s_House_pass_test) lHouse_pass_test cHouse_pass_test kHouse_pass_test
  have bHouse_pass_test := FHouse_pass_test.binds (ps := ["self", "number"]) fun _ _ _ _ _ _ us hl => match us, hl with | [_, _], _ => rfl
  have FHouse_time_with_setting := fun_mk (st := s_House_time_with_setting) lHouse_time_with_setting cHouse_time_with_setting kHouse_time_with_setting
  have bHouse_time_with_setting := FHouse_time_with_setting.binds (ps := ["self", "test", "up"]) fun _ _ _ _ _ _ us hl => match us, hl with | [_, _, _], _ => rfl
  have FReader_init := fun_mk (st := s_Reader_init) lReader_init cReader_init kReader_init
  have bReader_init := FReader_init.binds (ps := ["self", "calls"]) fun _ _ _ _ _ _ us hl => match us, hl with | [_, _], _ => rfl
  have FReader_at_end := fun_mk (st := s_Reader_at_end) lReader_at_end cReader_at_end kReader_at_end
  have bReader_at_end := FReader_at_end.binds (ps := ["self"]) fun _ _ _ _ _ _ us hl => match us, hl with | [_], _ => rfl
  have FReader_read_number := fun_mk (st := s_Reader_read_number) lReader_read_number cReader_read_number kReader_read_number
  have bReader_read_number := FReader_read_number.binds (ps := ["self"]) fun _ _ _ _ _ _ us hl => match us, hl with | [_], _ => rfl
  have FReader_read_row := fun_mk (st := s_Reader_read_row) lReader_read_row cReader_read_row kReader_read_row
  have bReader_read_row := FReader_read_row.binds (ps := ["self"]) fun _ _ _ _ _ _ us hl => match us, hl with | [_], _ => rfl
  have FRun_init := fun_mk (st := s_Run_init) lRun_init cRun_init kRun_init
  have bRun_init := FRun_init.binds (ps := ["self", "order", "up", "length", "spent", "alive", "scale"]) fun _ _ _ _ _ _ us hl => match us, hl with | [_, _, _, _, _, _, _], _ => rfl
  have Fempty_run := fun_mk (st := s_empty_run) lempty_run cempty_run kempty_run
  have bempty_run := Fempty_run.binds (ps := ["house"]) fun _ _ _ _ _ _ us hl => match us, hl with | [_], _ => rfl
  have Flonger_run := fun_mk (st := s_longer_run) llonger_run clonger_run klonger_run
  have blonger_run := Flonger_run.binds (ps := ["house", "run", "number"]) fun _ _ _ _ _ _ us hl => match us, hl with | [_, _, _], _ => rfl
  have Fnext_tests := fun_mk (st := s_next_tests) lnext_tests cnext_tests knext_tests
  have bnext_tests := Fnext_tests.binds (ps := ["house", "run"]) fun _ _ _ _ _ _ us hl => match us, hl with | [_, _], _ => rfl
  have Frun_of_row := fun_mk (st := s_run_of_row) lrun_of_row crun_of_row krun_of_row
  have brun_of_row := Frun_of_row.binds (ps := ["house", "row"]) fun _ _ _ _ _ _ us hl => match us, hl with | [_, _], _ => rfl
  have Faverage_in_millionths := fun_mk (st := s_average_in_millionths) laverage_in_millionths caverage_in_millionths kaverage_in_millionths
  have baverage_in_millionths := Faverage_in_millionths.binds (ps := ["run"]) fun _ _ _ _ _ _ us hl => match us, hl with | [_], _ => rfl
  have Fchance_in_millionths := fun_mk (st := s_chance_in_millionths) lchance_in_millionths cchance_in_millionths kchance_in_millionths
  have bchance_in_millionths := Fchance_in_millionths.binds (ps := ["run"]) fun _ _ _ _ _ _ us hl => match us, hl with | [_], _ => rfl
  have Fall_runs := fun_mk (st := s_all_runs) lall_runs call_runs kall_runs
  have ball_runs := Fall_runs.binds (ps := ["house"]) fun _ _ _ _ _ _ us hl => match us, hl with | [_], _ => rfl
  have Fwhole_runs := fun_mk (st := s_whole_runs) lwhole_runs cwhole_runs kwhole_runs
  have bwhole_runs := Fwhole_runs.binds (ps := ["house"]) fun _ _ _ _ _ _ us hl => match us, hl with | [_], _ => rfl
  have Fbest_run := fun_mk (st := s_best_run) lbest_run cbest_run kbest_run
  have bbest_run := Fbest_run.binds (ps := ["house"]) fun _ _ _ _ _ _ us hl => match us, hl with | [_], _ => rfl
  have Fshows_more := fun_mk (st := s_shows_more) lshows_more cshows_more kshows_more
  have bshows_more := Fshows_more.binds (ps := ["run", "other"]) fun _ _ _ _ _ _ us hl => match us, hl with | [_, _], _ => rfl
  have Frun_within := fun_mk (st := s_run_within) lrun_within crun_within krun_within
  have brun_within := Frun_within.binds (ps := ["house", "time"]) fun _ _ _ _ _ _ us hl => match us, hl with | [_, _], _ => rfl
  have Fanswer_begins := fun_mk (st := s_answer_begins) lanswer_begins canswer_begins kanswer_begins
  have banswer_begins := Fanswer_begins.binds (ps := ["house", "reader"]) fun _ _ _ _ _ _ us hl => match us, hl with | [_, _], _ => rfl
  have Fanswer_test := fun_mk (st := s_answer_test) lanswer_test canswer_test kanswer_test
  have banswer_test := Fanswer_test.binds (ps := ["house", "reader"]) fun _ _ _ _ _ _ us hl => match us, hl with | [_, _], _ => rfl
  have Fanswer_pass_test := fun_mk (st := s_answer_pass_test) lanswer_pass_test canswer_pass_test kanswer_pass_test
  have banswer_pass_test := Fanswer_pass_test.binds (ps := ["house", "reader"]) fun _ _ _ _ _ _ us hl => match us, hl with | [_, _], _ => rfl
  have Fanswer_order := fun_mk (st := s_answer_order) lanswer_order canswer_order kanswer_order
  have banswer_order := Fanswer_order.binds (ps := ["house"]) fun _ _ _ _ _ _ us hl => match us, hl with | [_], _ => rfl
  have Fanswer_price := fun_mk (st := s_answer_price) lanswer_price canswer_price kanswer_price
  have banswer_price := Fanswer_price.binds (ps := ["house", "reader"]) fun _ _ _ _ _ _ us hl => match us, hl with | [_, _], _ => rfl
  have Fanswer_within := fun_mk (st := s_answer_within) lanswer_within canswer_within kanswer_within
  have banswer_within := Fanswer_within.binds (ps := ["house", "reader"]) fun _ _ _ _ _ _ us hl => match us, hl with | [_, _], _ => rfl
  have Fanswer_open_tests := fun_mk (st := s_answer_open_tests) lanswer_open_tests canswer_open_tests kanswer_open_tests
  have banswer_open_tests := Fanswer_open_tests.binds (ps := ["house"]) fun _ _ _ _ _ _ us hl => match us, hl with | [_], _ => rfl
  have Fanswer_call := fun_mk (st := s_answer_call) lanswer_call canswer_call kanswer_call
  have banswer_call := Fanswer_call.binds (ps := ["house", "reader"]) fun _ _ _ _ _ _ us hl => match us, hl with | [_, _], _ => rfl
  have Fanswers := fun_mk (st := s_answers) lanswers canswers kanswers
  have banswers := Fanswers.binds (ps := ["calls"]) fun _ _ _ _ _ _ us hl => match us, hl with | [_], _ => rfl
  let A : Ad := ⟨CTest, CHouse, CReader, CRun, fsettings_fit, (PySem.W.fnOf "settings_fit" "settings_fit" (defArgs s_settings_fit) (defBody s_settings_fit) (defScope s_settings_fit) .none kVsettings_fit dcsettings_fit pmsettings_fit ansettings_fit cdsettings_fit ctsettings_fit), fneeds_fit, (PySem.W.fnOf "needs_fit" "needs_fit" (defArgs s_needs_fit) (defBody s_needs_fit) (defScope s_needs_fit) .none kVneeds_fit dcneeds_fit pmneeds_fit anneeds_fit cdneeds_fit ctneeds_fit), fneeds_met, (PySem.W.fnOf "needs_met" "needs_met" (defArgs s_needs_met) (defBody s_needs_met) (defScope s_needs_met) .none kVneeds_met dcneeds_met pmneeds_met anneeds_met cdneeds_met ctneeds_met), fTest_init, (PySem.W.fnOf "__init__" "Test.__init__" (defArgs s_Test_init) (defBody s_Test_init) (defScope s_Test_init) .none kVTest_init dcTest_init pmTest_init anTest_init cdTest_init ctTest_init), fHouse_init, (PySem.W.fnOf "__init__" "House.__init__" (defArgs s_House_init) (defBody s_House_init) (defScope s_House_init) .none kVHouse_init dcHouse_init pmHouse_init anHouse_init cdHouse_init ctHouse_init), fHouse_begins, (PySem.W.fnOf "begins" "House.begins" (defArgs s_House_begins) (defBody s_House_begins) (defScope s_House_begins) .none kVHouse_begins dcHouse_begins pmHouse_begins anHouse_begins cdHouse_begins ctHouse_begins), fHouse_add_test, (PySem.W.fnOf "add_test" "House.add_test" (defArgs s_House_add_test) (defBody s_House_add_test) (defScope s_House_add_test) .none kVHouse_add_test dcHouse_add_test pmHouse_add_test anHouse_add_test cdHouse_add_test ctHouse_add_test), fHouse_pass_test, (PySem.W.fnOf "pass_test" "House.pass_test" (defArgs s_House_pass_test) (defBody s_House_pass_test) (defScope s_House_pass_test) .none kVHouse_pass_test dcHouse_pass_test pmHouse_pass_test anHouse_pass_test cdHouse_pass_test ctHouse_pass_test), fHouse_time_with_setting, (PySem.W.fnOf "time_with_setting" "House.time_with_setting" (defArgs s_House_time_with_setting) (defBody s_House_time_with_setting) (defScope s_House_time_with_setting) .none kVHouse_time_with_setting dcHouse_time_with_setting pmHouse_time_with_setting anHouse_time_with_setting cdHouse_time_with_setting ctHouse_time_with_setting), fReader_init, (PySem.W.fnOf "__init__" "Reader.__init__" (defArgs s_Reader_init) (defBody s_Reader_init) (defScope s_Reader_init) .none kVReader_init dcReader_init pmReader_init anReader_init cdReader_init ctReader_init), fReader_at_end, (PySem.W.fnOf "at_end" "Reader.at_end" (defArgs s_Reader_at_end) (defBody s_Reader_at_end) (defScope s_Reader_at_end) .none kVReader_at_end dcReader_at_end pmReader_at_end anReader_at_end cdReader_at_end ctReader_at_end), fReader_read_number, (PySem.W.fnOf "read_number" "Reader.read_number" (defArgs s_Reader_read_number) (defBody s_Reader_read_number) (defScope s_Reader_read_number) .none kVReader_read_number dcReader_read_number pmReader_read_number anReader_read_number cdReader_read_number ctReader_read_number), fReader_read_row, (PySem.W.fnOf "read_row" "Reader.read_row" (defArgs s_Reader_read_row) (defBody s_Reader_read_row) (defScope s_Reader_read_row) .none kVReader_read_row dcReader_read_row pmReader_read_row anReader_read_row cdReader_read_row ctReader_read_row), fRun_init, (PySem.W.fnOf "__init__" "Run.__init__" (defArgs s_Run_init) (defBody s_Run_init) (defScope s_Run_init) .none kVRun_init dcRun_init pmRun_init anRun_init cdRun_init ctRun_init), fempty_run, (PySem.W.fnOf "empty_run" "empty_run" (defArgs s_empty_run) (defBody s_empty_run) (defScope s_empty_run) .none kVempty_run dcempty_run pmempty_run anempty_run cdempty_run ctempty_run), flonger_run, (PySem.W.fnOf "longer_run" "longer_run" (defArgs s_longer_run) (defBody s_longer_run) (defScope s_longer_run) .none kVlonger_run dclonger_run pmlonger_run anlonger_run cdlonger_run ctlonger_run), fnext_tests, (PySem.W.fnOf "next_tests" "next_tests" (defArgs s_next_tests) (defBody s_next_tests) (defScope s_next_tests) .none kVnext_tests dcnext_tests pmnext_tests annext_tests cdnext_tests ctnext_tests), frun_of_row, (PySem.W.fnOf "run_of_row" "run_of_row" (defArgs s_run_of_row) (defBody s_run_of_row) (defScope s_run_of_row) .none kVrun_of_row dcrun_of_row pmrun_of_row anrun_of_row cdrun_of_row ctrun_of_row), faverage_in_millionths, (PySem.W.fnOf "average_in_millionths" "average_in_millionths" (defArgs s_average_in_millionths) (defBody s_average_in_millionths) (defScope s_average_in_millionths) .none kVaverage_in_millionths dcaverage_in_millionths pmaverage_in_millionths anaverage_in_millionths cdaverage_in_millionths ctaverage_in_millionths), fchance_in_millionths, (PySem.W.fnOf "chance_in_millionths" "chance_in_millionths" (defArgs s_chance_in_millionths) (defBody s_chance_in_millionths) (defScope s_chance_in_millionths) .none kVchance_in_millionths dcchance_in_millionths pmchance_in_millionths anchance_in_millionths cdchance_in_millionths ctchance_in_millionths), fall_runs, (PySem.W.fnOf "all_runs" "all_runs" (defArgs s_all_runs) (defBody s_all_runs) (defScope s_all_runs) .none kVall_runs dcall_runs pmall_runs anall_runs cdall_runs ctall_runs), fwhole_runs, (PySem.W.fnOf "whole_runs" "whole_runs" (defArgs s_whole_runs) (defBody s_whole_runs) (defScope s_whole_runs) .none kVwhole_runs dcwhole_runs pmwhole_runs anwhole_runs cdwhole_runs ctwhole_runs), fbest_run, (PySem.W.fnOf "best_run" "best_run" (defArgs s_best_run) (defBody s_best_run) (defScope s_best_run) .none kVbest_run dcbest_run pmbest_run anbest_run cdbest_run ctbest_run), fshows_more, (PySem.W.fnOf "shows_more" "shows_more" (defArgs s_shows_more) (defBody s_shows_more) (defScope s_shows_more) .none kVshows_more dcshows_more pmshows_more anshows_more cdshows_more ctshows_more), frun_within, (PySem.W.fnOf "run_within" "run_within" (defArgs s_run_within) (defBody s_run_within) (defScope s_run_within) .none kVrun_within dcrun_within pmrun_within anrun_within cdrun_within ctrun_within), fanswer_begins, (PySem.W.fnOf "answer_begins" "answer_begins" (defArgs s_answer_begins) (defBody s_answer_begins) (defScope s_answer_begins) .none kVanswer_begins dcanswer_begins pmanswer_begins ananswer_begins cdanswer_begins ctanswer_begins), fanswer_test, (PySem.W.fnOf "answer_test" "answer_test" (defArgs s_answer_test) (defBody s_answer_test) (defScope s_answer_test) .none kVanswer_test dcanswer_test pmanswer_test ananswer_test cdanswer_test ctanswer_test), fanswer_pass_test, (PySem.W.fnOf "answer_pass_test" "answer_pass_test" (defArgs s_answer_pass_test) (defBody s_answer_pass_test) (defScope s_answer_pass_test) .none kVanswer_pass_test dcanswer_pass_test pmanswer_pass_test ananswer_pass_test cdanswer_pass_test ctanswer_pass_test), fanswer_order, (PySem.W.fnOf "answer_order" "answer_order" (defArgs s_answer_order) (defBody s_answer_order) (defScope s_answer_order) .none kVanswer_order dcanswer_order pmanswer_order ananswer_order cdanswer_order ctanswer_order), fanswer_price, (PySem.W.fnOf "answer_price" "answer_price" (defArgs s_answer_price) (defBody s_answer_price) (defScope s_answer_price) .none kVanswer_price dcanswer_price pmanswer_price ananswer_price cdanswer_price ctanswer_price), fanswer_within, (PySem.W.fnOf "answer_within" "answer_within" (defArgs s_answer_within) (defBody s_answer_within) (defScope s_answer_within) .none kVanswer_within dcanswer_within pmanswer_within ananswer_within cdanswer_within ctanswer_within), fanswer_open_tests, (PySem.W.fnOf "answer_open_tests" "answer_open_tests" (defArgs s_answer_open_tests) (defBody s_answer_open_tests) (defScope s_answer_open_tests) .none kVanswer_open_tests dcanswer_open_tests pmanswer_open_tests ananswer_open_tests cdanswer_open_tests ctanswer_open_tests), fanswer_call, (PySem.W.fnOf "answer_call" "answer_call" (defArgs s_answer_call) (defBody s_answer_call) (defScope s_answer_call) .none kVanswer_call dcanswer_call pmanswer_call ananswer_call cdanswer_call ctanswer_call), fa, (PySem.W.fnOf "answers" "answers" (defArgs s_answers) (defBody s_answers) (defScope s_answers) .none kVanswers dcanswers pmanswers ananswers cdanswers ctanswers)⟩
  have T : Txt K mg A := ⟨⟨pgTest, hdTest, poTest, saTest⟩, PySem.W.mg_of X G aCTest, ⟨mkTest, aTest_init, iTest_init, kcTest⟩, nTesttime, nTestfailures, nTestsetting, nTestneeds, ⟨pgHouse, hdHouse, poHouse, saHouse⟩, PySem.W.mg_of X G aCHouse, ⟨mkHouse, aHouse_init, iHouse_init, kcHouse⟩, nHousewhole, nHousesettings, nHousetests, nHousepassed, nHouseup, ⟨pgReader, hdReader, poReader, saReader⟩, PySem.W.mg_of X G aCReader, ⟨mkReader, aReader_init, iReader_init, kcReader⟩, nReadercalls, nReaderplace, ⟨pgRun, hdRun, poRun, saRun⟩, PySem.W.mg_of X G aCRun, ⟨mkRun, aRun_init, iRun_init, kcRun⟩, nRunorder, nRunup, nRunlength, nRunspent, nRunalive, nRunscale, Fsettings_fit, bsettings_fit, PySem.W.mg_of X G asettings_fit, ksettings_fit, Fneeds_fit, bneeds_fit, PySem.W.mg_of X G aneeds_fit, kneeds_fit, Fneeds_met, bneeds_met, PySem.W.mg_of X G aneeds_met, kneeds_met, FTest_init, bTest_init, FHouse_init, bHouse_init, FHouse_begins, bHouse_begins, ⟨aHouse_begins, iHouse_begins, kHouse_begins⟩, FHouse_add_test, bHouse_add_test, ⟨aHouse_add_test, iHouse_add_test, kHouse_add_test⟩, FHouse_pass_test, bHouse_pass_test, ⟨aHouse_pass_test, iHouse_pass_test, kHouse_pass_test⟩, FHouse_time_with_setting, bHouse_time_with_setting, ⟨aHouse_time_with_setting, iHouse_time_with_setting, kHouse_time_with_setting⟩, FReader_init, bReader_init, FReader_at_end, bReader_at_end, ⟨aReader_at_end, iReader_at_end, kReader_at_end⟩, FReader_read_number, bReader_read_number, ⟨aReader_read_number, iReader_read_number, kReader_read_number⟩, FReader_read_row, bReader_read_row, ⟨aReader_read_row, iReader_read_row, kReader_read_row⟩, FRun_init, bRun_init, Fempty_run, bempty_run, PySem.W.mg_of X G aempty_run, kempty_run, Flonger_run, blonger_run, PySem.W.mg_of X G alonger_run, klonger_run, Fnext_tests, bnext_tests, PySem.W.mg_of X G anext_tests, knext_tests, Frun_of_row, brun_of_row, PySem.W.mg_of X G arun_of_row, krun_of_row, Faverage_in_millionths, baverage_in_millionths, PySem.W.mg_of X G aaverage_in_millionths, kaverage_in_millionths, Fchance_in_millionths, bchance_in_millionths, PySem.W.mg_of X G achance_in_millionths, kchance_in_millionths, Fall_runs, ball_runs, PySem.W.mg_of X G aall_runs, kall_runs, Fwhole_runs, bwhole_runs, PySem.W.mg_of X G awhole_runs, kwhole_runs, Fbest_run, bbest_run, PySem.W.mg_of X G abest_run, kbest_run, Fshows_more, bshows_more, PySem.W.mg_of X G ashows_more, kshows_more, Frun_within, brun_within, PySem.W.mg_of X G arun_within, krun_within, Fanswer_begins, banswer_begins, PySem.W.mg_of X G aanswer_begins, kanswer_begins, Fanswer_test, banswer_test, PySem.W.mg_of X G aanswer_test, kanswer_test, Fanswer_pass_test, banswer_pass_test, PySem.W.mg_of X G aanswer_pass_test, kanswer_pass_test, Fanswer_order, banswer_order, PySem.W.mg_of X G aanswer_order, kanswer_order, Fanswer_price, banswer_price, PySem.W.mg_of X G aanswer_price, kanswer_price, Fanswer_within, banswer_within, PySem.W.mg_of X G aanswer_within, kanswer_within, Fanswer_open_tests, banswer_open_tests, PySem.W.mg_of X G aanswer_open_tests, kanswer_open_tests, Fanswer_call, banswer_call, PySem.W.mg_of X G aanswer_call, kanswer_call, Fanswers, banswers, PySem.W.mg_of X G aanswers, kanswers, ⟨_, PySem.W.mg_of X G zOUT_OF_RANGE⟩, ⟨_, PySem.W.mg_of X G zNOT_THERE⟩, ⟨_, PySem.W.mg_of X G zPASSED_ALREADY⟩, ⟨_, PySem.W.mg_of X G zNEEDS_NOT_PASSED⟩, ⟨_, PySem.W.mg_of X G zNO_ORDER⟩, ⟨_, PySem.W.mg_of X G zTOO_MANY_TESTS⟩, ⟨_, PySem.W.mg_of X G zLEAST_WHOLE⟩, ⟨_, PySem.W.mg_of X G zMOST_WHOLE⟩, ⟨_, PySem.W.mg_of X G zMOST_SETTINGS⟩, ⟨_, PySem.W.mg_of X G zMOST_TESTS⟩, ⟨_, PySem.W.mg_of X G zLONGEST_TIME⟩, ⟨_, PySem.W.mg_of X G zNO_SETTING⟩, ⟨_, PySem.W.mg_of X G zMILLION⟩, ⟨_, PySem.W.mg_of X G zBEGINS⟩, ⟨_, PySem.W.mg_of X G zTEST⟩, ⟨_, PySem.W.mg_of X G zPASS_TEST⟩, ⟨_, PySem.W.mg_of X G zORDER⟩, ⟨_, PySem.W.mg_of X G zPRICE⟩, ⟨_, PySem.W.mg_of X G zWITHIN⟩, ⟨_, PySem.W.mg_of X G zOPEN_TESTS⟩, PySem.W.mg_none_of X G nolen, PySem.W.mg_none_of X G noenumerate, PySem.W.mg_none_of X G noall, PySem.W.mg_none_of X G nolist, PySem.W.mg_none_of X G noreversed⟩
  exact ⟨A.d_answers, fun s us hu => match us, hu with | [_], _ => .of_eq rfl, fun base _ _ => ok_answers T⟩
end Tf
open PySem PySem.W PyProof.Rows
theorem PySem.Challenge.cw_testsfirst_s01_answers_holds : PySem.Challenge.rw_testsfirst_s01_answers.Holds := by
  w_on; k_headS; (case hw => exact ⟨[.list [.int 3]], by decide +kernel, by decide +kernel⟩)
  k_fillS
  refine L2.walk_specK (r := PySem.Challenge.rw_testsfirst_s01_answers) (k := 9) (CX := L2.CX0) (ps := ["calls"]) (sp := Tf.spAns) (by decide +kernel) rfl rfl ⟨rfl, by decide, by decide⟩ (fun w h Y => PySem.W.kIn_of Y) ?F ?S (fun _ _ _ _ z => z)
  case F =>
    intro w mg fa h Y KX G hmg
    refine' Tf.all_mk KX G hmg ?aCTest ?pgTest ?hdTest ?poTest ?saTest ?mkTest ?kcTest ?nTesttime ?nTestfailures ?nTestsetting ?nTestneeds ?aCHouse ?pgHouse ?hdHouse ?poHouse ?saHouse ?mkHouse ?kcHouse ?nHousewhole ?nHousesettings ?nHousetests ?nHousepassed ?nHouseup ?aCReader ?pgReader ?hdReader ?poReader ?saReader ?mkReader ?kcReader ?nReadercalls ?nReaderplace ?aCRun ?pgRun ?hdRun ?poRun ?saRun ?mkRun ?kcRun ?nRunorder ?nRunup ?nRunlength ?nRunspent ?nRunalive ?nRunscale ?asettings_fit ?lsettings_fit ?csettings_fit ?ksettings_fit ?aneeds_fit ?lneeds_fit ?cneeds_fit ?kneeds_fit ?aneeds_met ?lneeds_met ?cneeds_met ?kneeds_met ?aTest_init ?iTest_init ?lTest_init ?cTest_init ?kTest_init ?aHouse_init ?iHouse_init ?lHouse_init ?cHouse_init ?kHouse_init ?aHouse_begins ?iHouse_begins ?lHouse_begins ?cHouse_begins ?kHouse_begins ?aHouse_add_test ?iHouse_add_test ?lHouse_add_test ?cHouse_add_test ?kHouse_add_test ?aHouse_pass_test ?iHouse_pass_test ?lHouse_pass_test ?cHouse_pass_test ?kHouse_pass_test ?aHouse_time_with_setting ?iHouse_time_with_setting ?lHouse_time_with_setting ?cHouse_time_with_setting ?kHouse_time_with_setting ?aReader_init ?iReader_init ?lReader_init ?cReader_init ?kReader_init ?aReader_at_end ?iReader_at_end ?lReader_at_end ?cReader_at_end ?kReader_at_end ?aReader_read_number ?iReader_read_number ?lReader_read_number ?cReader_read_number ?kReader_read_number ?aReader_read_row ?iReader_read_row ?lReader_read_row ?cReader_read_row ?kReader_read_row ?aRun_init ?iRun_init ?lRun_init ?cRun_init ?kRun_init ?aempty_run ?lempty_run ?cempty_run ?kempty_run ?alonger_run ?llonger_run ?clonger_run ?klonger_run ?anext_tests ?lnext_tests ?cnext_tests ?knext_tests ?arun_of_row ?lrun_of_row ?crun_of_row ?krun_of_row ?aaverage_in_millionths ?laverage_in_millionths ?caverage_in_millionths ?kaverage_in_millionths ?achance_in_millionths ?lchance_in_millionths ?cchance_in_millionths ?kchance_in_millionths ?aall_runs ?lall_runs ?call_runs ?kall_runs ?awhole_runs ?lwhole_runs ?cwhole_runs ?kwhole_runs ?abest_run ?lbest_run ?cbest_run ?kbest_run ?ashows_more ?lshows_more ?cshows_more ?kshows_more ?arun_within ?lrun_within ?crun_within ?krun_within ?aanswer_begins ?lanswer_begins ?canswer_begins ?kanswer_begins ?aanswer_test ?lanswer_test ?canswer_test ?kanswer_test ?aanswer_pass_test ?lanswer_pass_test ?canswer_pass_test ?kanswer_pass_test ?aanswer_order ?lanswer_order ?canswer_order ?kanswer_order ?aanswer_price ?lanswer_price ?canswer_price ?kanswer_price ?aanswer_within ?lanswer_within ?canswer_within ?kanswer_within ?aanswer_open_tests ?lanswer_open_tests ?canswer_open_tests ?kanswer_open_tests ?aanswer_call ?lanswer_call ?canswer_call ?kanswer_call ?aanswers ?lanswers ?canswers ?kanswers ?zOUT_OF_RANGE ?zNOT_THERE ?zPASSED_ALREADY ?zNEEDS_NOT_PASSED ?zNO_ORDER ?zTOO_MANY_TESTS ?zLEAST_WHOLE ?zMOST_WHOLE ?zMOST_SETTINGS ?zMOST_TESTS ?zLONGEST_TIME ?zNO_SETTING ?zMILLION ?zBEGINS ?zTEST ?zPASS_TEST ?zORDER ?zPRICE ?zWITHIN ?zOPEN_TESTS ?nolen ?noenumerate ?noall ?nolist ?noreversed
    (case aCTest => k_is)
    (case pgTest => k_is)
    (case hdTest => k_is)
    (case poTest => k_is)
    (case saTest => k_is)
    (case mkTest => k_is)
    (case kcTest => k_is)
    (case nTesttime => k_is)
    (case nTestfailures => k_is)
    (case nTestsetting => k_is)
    (case nTestneeds => k_is)
    (case aCHouse => k_is)
    (case pgHouse => k_is)
    (case hdHouse => k_is)
    (case poHouse => k_is)
    (case saHouse => k_is)
    (case mkHouse => k_is)
    (case kcHouse => k_is)
    (case nHousewhole => k_is)
    (case nHousesettings => k_is)
    (case nHousetests => k_is)
    (case nHousepassed => k_is)
    (case nHouseup => k_is)
    (case aCReader => k_is)
    (case pgReader => k_is)
    (case hdReader => k_is)
    (case poReader => k_is)
    (case saReader => k_is)
    (case mkReader => k_is)
    (case kcReader => k_is)
    (case nReadercalls => k_is)
    (case nReaderplace => k_is)
    (case aCRun => k_is)
    (case pgRun => k_is)
    (case hdRun => k_is)
    (case poRun => k_is)
    (case saRun => k_is)
    (case mkRun => k_is)
    (case kcRun => k_is)
    (case nRunorder => k_is)
    (case nRunup => k_is)
    (case nRunlength => k_is)
    (case nRunspent => k_is)
    (case nRunalive => k_is)
    (case nRunscale => k_is)
    (case asettings_fit => k_is)
    (case lsettings_fit => k_is)
    (case csettings_fit => k_is)
    (case ksettings_fit => k_is)
    (case aneeds_fit => k_is)
    (case lneeds_fit => k_is)
    (case cneeds_fit => k_is)
    (case kneeds_fit => k_is)
    (case aneeds_met => k_is)
    (case lneeds_met => k_is)
    (case cneeds_met => k_is)
    (case kneeds_met => k_is)
    (case aTest_init => k_is)
    (case iTest_init => k_is)
    (case lTest_init => k_is)
    (case cTest_init => k_is)
    (case kTest_init => k_is)
    (case aHouse_init => k_is)
    (case iHouse_init => k_is)
    (case lHouse_init => k_is)
    (case cHouse_init => k_is)
    (case kHouse_init => k_is)
    (case aHouse_begins => k_is)
    (case iHouse_begins => k_is)
    (case lHouse_begins => k_is)
    (case cHouse_begins => k_is)
    (case kHouse_begins => k_is)
    (case aHouse_add_test => k_is)
    (case iHouse_add_test => k_is)
    (case lHouse_add_test => k_is)
    (case cHouse_add_test => k_is)
    (case kHouse_add_test => k_is)
    (case aHouse_pass_test => k_is)
    (case iHouse_pass_test => k_is)
    (case lHouse_pass_test => k_is)
    (case cHouse_pass_test => k_is)
    (case kHouse_pass_test => k_is)
    (case aHouse_time_with_setting => k_is)
    (case iHouse_time_with_setting => k_is)
    (case lHouse_time_with_setting => k_is)
    (case cHouse_time_with_setting => k_is)
    (case kHouse_time_with_setting => k_is)
    (case aReader_init => k_is)
    (case iReader_init => k_is)
    (case lReader_init => k_is)
    (case cReader_init => k_is)
    (case kReader_init => k_is)
    (case aReader_at_end => k_is)
    (case iReader_at_end => k_is)
    (case lReader_at_end => k_is)
    (case cReader_at_end => k_is)
    (case kReader_at_end => k_is)
    (case aReader_read_number => k_is)
    (case iReader_read_number => k_is)
    (case lReader_read_number => k_is)
    (case cReader_read_number => k_is)
    (case kReader_read_number => k_is)
    (case aReader_read_row => k_is)
    (case iReader_read_row => k_is)
    (case lReader_read_row => k_is)
    (case cReader_read_row => k_is)
    (case kReader_read_row => k_is)
    (case aRun_init => k_is)
    (case iRun_init => k_is)
    (case lRun_init => k_is)
    (case cRun_init => k_is)
    (case kRun_init => k_is)
    (case aempty_run => k_is)
    (case lempty_run => k_is)
    (case cempty_run => k_is)
    (case kempty_run => k_is)
    (case alonger_run => k_is)
    (case llonger_run => k_is)
    (case clonger_run => k_is)
    (case klonger_run => k_is)
    (case anext_tests => k_is)
    (case lnext_tests => k_is)
    (case cnext_tests => k_is)
    (case knext_tests => k_is)
    (case arun_of_row => k_is)
    (case lrun_of_row => k_is)
    (case crun_of_row => k_is)
    (case krun_of_row => k_is)
    (case aaverage_in_millionths => k_is)
    (case laverage_in_millionths => k_is)
    (case caverage_in_millionths => k_is)
    (case kaverage_in_millionths => k_is)
    (case achance_in_millionths => k_is)
    (case lchance_in_millionths => k_is)
    (case cchance_in_millionths => k_is)
    (case kchance_in_millionths => k_is)
    (case aall_runs => k_is)
    (case lall_runs => k_is)
    (case call_runs => k_is)
    (case kall_runs => k_is)
    (case awhole_runs => k_is)
    (case lwhole_runs => k_is)
    (case cwhole_runs => k_is)
    (case kwhole_runs => k_is)
    (case abest_run => k_is)
    (case lbest_run => k_is)
    (case cbest_run => k_is)
    (case kbest_run => k_is)
    (case ashows_more => k_is)
    (case lshows_more => k_is)
    (case cshows_more => k_is)
    (case kshows_more => k_is)
    (case arun_within => k_is)
    (case lrun_within => k_is)
    (case crun_within => k_is)
    (case krun_within => k_is)
    (case aanswer_begins => k_is)
    (case lanswer_begins => k_is)
    (case canswer_begins => k_is)
    (case kanswer_begins => k_is)
    (case aanswer_test => k_is)
    (case lanswer_test => k_is)
    (case canswer_test => k_is)
    (case kanswer_test => k_is)
    (case aanswer_pass_test => k_is)
    (case lanswer_pass_test => k_is)
    (case canswer_pass_test => k_is)
    (case kanswer_pass_test => k_is)
    (case aanswer_order => k_is)
    (case lanswer_order => k_is)
    (case canswer_order => k_is)
    (case kanswer_order => k_is)
    (case aanswer_price => k_is)
    (case lanswer_price => k_is)
    (case canswer_price => k_is)
    (case kanswer_price => k_is)
    (case aanswer_within => k_is)
    (case lanswer_within => k_is)
    (case canswer_within => k_is)
    (case kanswer_within => k_is)
    (case aanswer_open_tests => k_is)
    (case lanswer_open_tests => k_is)
    (case canswer_open_tests => k_is)
    (case kanswer_open_tests => k_is)
    (case aanswer_call => k_is)
    (case lanswer_call => k_is)
    (case canswer_call => k_is)
    (case kanswer_call => k_is)
    (case aanswers => k_is)
    (case lanswers => k_is)
    (case canswers => k_is)
    (case kanswers => k_is)
    (case zOUT_OF_RANGE => k_is)
    (case zNOT_THERE => k_is)
    (case zPASSED_ALREADY => k_is)
    (case zNEEDS_NOT_PASSED => k_is)
    (case zNO_ORDER => k_is)
    (case zTOO_MANY_TESTS => k_is)
    (case zLEAST_WHOLE => k_is)
    (case zMOST_WHOLE => k_is)
    (case zMOST_SETTINGS => k_is)
    (case zMOST_TESTS => k_is)
    (case zLONGEST_TIME => k_is)
    (case zNO_SETTING => k_is)
    (case zMILLION => k_is)
    (case zBEGINS => k_is)
    (case zTEST => k_is)
    (case zPASS_TEST => k_is)
    (case zORDER => k_is)
    (case zPRICE => k_is)
    (case zWITHIN => k_is)
    (case zOPEN_TESTS => k_is)
    (case nolen => k_is)
    (case noenumerate => k_is)
    (case noall => k_is)
    (case nolist => k_is)
    (case noreversed => k_is)
  case S =>
    intro K H xs a hO hwi hask hx
    cases hx with
    | cons h1 h2 =>
      cases h2
      cases h1 with
      | lst hs ha =>
        have e := L2.ints_dw a.1 _ ha
        subst e
        have q : ((Codec.inLen 0 1000 a.1 && a.1.all (Codec.inInt 0 4294967295)) && true) = true := hwi
        rw [Bool.and_eq_true, Bool.and_eq_true] at q
        exact ⟨_, a.1, rfl, hs, fun z hz => (Codec.inInt_iff.mp (List.all_eq_true.mp q.1.2 z hz)).1, hask, fun H' p hp => .lst (L2.SqL.of hp) (L2.dw_ints _)⟩
#print axioms PySem.Challenge.cw_testsfirst_s01_answers_holds
